import Derived.Test.YtdhinkgjiapigaaGreatDoorRunJ
namespace Go.Proofs.YtdhinkgjiapigaaGreatDoor
open Classical
def zfu (p:PlanD) (es:List (Int × Int × Int)) (i:Nat):FrameD:=zhy (zaq p) (zdu p (zaq p) (es.take i))
theorem zi8 {p:PlanD} (hp:Right p) (es:List (Int × Int × Int)) {i:Nat} (hi:i ≤ es.length):zas p (zfu p es i):=zij hp es i hi
theorem zq2 (p:PlanD) (es:List (Int × Int × Int)) (k:Nat) (hk:k ≤ es.length):∀ i,i < k → ∃ e,es[i]? = some e ∧ (zdu p (zaq p) (es.take k))[i]? = some (zdx p (zfu p es i) e):=by
 induction k with
 | zero=>intro i hi; omega
 | succ k ih=>
  intro i hi;obtain ⟨e,he⟩:=zac es (zaa rfl) (show k < es.length by omega);rw [zd9 p (zaq p) he];have hl:=zez p (zaq p) es k (by omega);by_cases h:i = k
  ·subst h;refine ⟨e,he,?_⟩;rw [List.getElem?_append_right (by omega),hl,Nat.sub_self];rfl
  ·obtain ⟨e',he',hr⟩:=ih (by omega) i (by omega);refine ⟨e',he',?_⟩;rw [List.getElem?_append_left (by rw [hl]; omega)];exact hr
theorem zrp {p:PlanD} {es:List (Int × Int × Int)} {i:Nat} (hi:i < es.length):∃ e,es[i]? = some e ∧ (zdu p (zaq p) es)[i]? = some (zdx p (zfu p es i) e):=by
 have:=zq2 p es es.length (Nat.le_refl _) i hi;rw [List.take_length] at this;exact this
theorem zqk {p:PlanD} {es:List (Int × Int × Int)} {i:Nat} {e:Int × Int × Int} (he:es[i]? = some e):zfu p es (i + 1) = (zdx p (zfu p es i) e).2:=by
 unfold zfu;rw [zd9 p (zaq p) he];unfold zhy;rw [List.getLast?_append];rfl
theorem zq3 (p:PlanD) (es:List (Int × Int × Int)):(zdu p (zaq p) es).length = es.length:=by
 have:=zez p (zaq p) es es.length (Nat.le_refl _);rw [List.take_length] at this;exact this
end Go.Proofs.YtdhinkgjiapigaaGreatDoor
namespace Go.Proofs.YtdhinkgjiapigaaGreatDoor
open Classical
theorem zqf {p:PlanD} {d:FrameD} {op of lie:Int} {k:Nat} {x:WayD} {h:HeldD} (hx:p.ways[k]? = some x) (hh:d.ways[k]? = some h) :
  ∃ y,(evD p d op of lie).2.ways[k]? = some y ∧ (y = h ∨ (op = 1 ∧ h.state = 0 ∧ y = { h with state:=1 }) ∨ (op = 2 ∧ y = zb3 p.hold d.occ x h) ∨ (op ≠ 1 ∧ op ≠ 2 ∧ op ≠ 3 ∧ op ≠ 4 ∧ op ≠ 5 ∧ op ≠ 6 ∧ y = za7 h)) ∧ (op = 2 ∧ y = zb3 p.hold d.occ x h → h.state = 1 ∨ h.state = 2 ∨ y = h):=by
 unfold evD;split
 ·rename_i e1
  split
  ·rename_i x' h' hx' hh'
   unfold zlx;split
   ·rename_i ew
    have h0:=zfn ew;by_cases ek:of.toNat = k
    ·subst ek;rw [hh] at hh'
     cases hh'
     refine ⟨{ h with state:=1 },?_,.inr (.inl ⟨e1,h0,rfl⟩),fun z=>absurd (e1.symm.trans z.1) (by decide)⟩;show (d.ways.set of.toNat { h with state:=1 })[of.toNat]? = _;rw [List.getElem?_set_self (List.getElem?_eq_some_iff.1 hh).1]
    ·refine ⟨h,?_,.inl rfl,fun _=>.inr (.inr rfl)⟩;show (d.ways.set of.toNat { h' with state:=1 })[k]? = _;rw [List.getElem?_set_ne ek];exact hh
   ·exact ⟨h,hh,.inl rfl,fun _=>.inr (.inr rfl)⟩
  ·exact ⟨h,hh,.inl rfl,fun _=>.inr (.inr rfl)⟩
 split
 ·rename_i e2
  split
  ·rename_i x' h' hx' hh'
   unfold zc0;split
   ·rename_i est
    by_cases ek:of.toNat = k
    ·subst ek;rw [hh] at hh'
     cases hh'
     rw [hx] at hx'
     cases hx'
     refine ⟨zb3 p.hold d.occ x h,?_,.inr (.inr (.inl ⟨e2,rfl⟩)),fun _=>est.elim .inl fun z=>.inr (.inl z)⟩;show (d.ways.set of.toNat _)[of.toNat]? = _;rw [List.getElem?_set_self (List.getElem?_eq_some_iff.1 hh).1]
    ·refine ⟨h,?_,.inl rfl,fun _=>.inr (.inr rfl)⟩;show (d.ways.set of.toNat _)[k]? = _;rw [List.getElem?_set_ne ek];exact hh
   ·exact ⟨h,hh,.inl rfl,fun _=>.inr (.inr rfl)⟩
  ·exact ⟨h,hh,.inl rfl,fun _=>.inr (.inr rfl)⟩
 split
 ·exact ⟨h,hh,.inl rfl,fun _=>.inr (.inr rfl)⟩
 split
 ·exact ⟨h,hh,.inl rfl,fun _=>.inr (.inr rfl)⟩
 split
 ·exact ⟨h,hh,.inl rfl,fun _=>.inr (.inr rfl)⟩
 split
 ·unfold zen;split
  ·exact ⟨h,hh,.inl rfl,fun _=>.inr (.inr rfl)⟩
  ·split
   ·exact ⟨h,hh,.inl rfl,fun _=>.inr (.inr rfl)⟩
   ·exact ⟨h,hh,.inl rfl,fun _=>.inr (.inr rfl)⟩
 ·rename_i n1 n2 n3 n4 n5 n6
  refine ⟨za7 h,?_,.inr (.inr (.inr ⟨n1,n2,n3,n4,n5,n6,rfl⟩)),fun z=>absurd z.1 n2⟩;show (d.ways.map za7)[k]? = _;rw [List.getElem?_map,hh];rfl
theorem zqe {p:PlanD} {d:FrameD} {op of lie:Int} {k:Nat} {x:WayD} {y h:HeldD} (hx:p.ways[k]? = some x) (hy:(evD p d op of lie).2.ways[k]? = some y) (hh:(doD p d op of lie).2.ways[k]? = some h):h = zar (doD p d op of lie).2.occ (doD p d op of lie).2.points x y:=by
 obtain ⟨x',y',hx',hy',e⟩:=zdv hh;rw [hx] at hx';rw [hy] at hy'
 cases hx'
 cases hy'
 exact e
end Go.Proofs.YtdhinkgjiapigaaGreatDoor

import Derived.Test.YtdhinkgjiapigaaGreatDoorRunJ
namespace Go.Proofs.YtdhinkgjiapigaaGreatDoor
open Classical
def zfu (p:PlanD) (es:List (Int × Int × Int)) (i:Nat):FrameD:=zhy (zaq p) (zdu p (zaq p) (es.take i))
theorem zi8 {p:PlanD} (hp:Right p) (es:List (Int × Int × Int)) {i:Nat} (hi:i ≤ es.length):zas p (zfu p es i):=zij hp es i hi
theorem zq2 (p:PlanD) (es:List (Int × Int × Int)) (k:Nat) (hk:k ≤ es.length):∀ i,i < k → ∃ e,es[i]? = some e ∧ (zdu p (zaq p) (es.take k))[i]? = some (zdx p (zfu p es i) e):=by
 induction k with
 | zero=>intro i hi; omega
 | succ k ih=>
  intro i hi;obtain ⟨e,he⟩:=zac es (zaa rfl) (show k < es.length by omega);rw [zd9 p (zaq p) he];have hl:=zez p (zaq p) es k (by omega);by_cases h:i = k
  ·subst h;refine ⟨e,he,?_⟩;rw [List.getElem?_append_right (by omega),hl,Nat.sub_self];rfl
  ·obtain ⟨e',he',hr⟩:=ih (by omega) i (by omega);refine ⟨e',he',?_⟩;rw [List.getElem?_append_left (by rw [hl]; omega)];exact hr
theorem zrp {p:PlanD} {es:List (Int × Int × Int)} {i:Nat} (hi:i < es.length):∃ e,es[i]? = some e ∧ (zdu p (zaq p) es)[i]? = some (zdx p (zfu p es i) e):=by
 have:=zq2 p es es.length (Nat.le_refl _) i hi;rw [List.take_length] at this;exact this
theorem zqk {p:PlanD} {es:List (Int × Int × Int)} {i:Nat} {e:Int × Int × Int} (he:es[i]? = some e):zfu p es (i + 1) = (zdx p (zfu p es i) e).2:=by
 unfold zfu;rw [zd9 p (zaq p) he];unfold zhy;rw [List.getLast?_append];rfl
theorem zq3 (p:PlanD) (es:List (Int × Int × Int)):(zdu p (zaq p) es).length = es.length:=by
 have:=zez p (zaq p) es es.length (Nat.le_refl _);rw [List.take_length] at this;exact this
theorem zrq {p:PlanD} (hp:Right p) {es:List (Int × Int × Int)} {i:Nat} {x:Int × FrameD} (hx:(zdu p (zaq p) es)[i]? = some x):zas p x.2:=by
 have hi:i < es.length:=by
  have:=(List.getElem?_eq_some_iff.1 hx).1;rw [zq3] at this;exact this
 obtain ⟨e,he,hr⟩:=zrp (p:=p) hi;rw [hr] at hx
 cases hx
 exact zim (zi8 hp es (by omega)) e
theorem zik {p:PlanD} {d:FrameD} (hR:zas p d) {i:Nat} {x:WayD} {h:HeldD} (hx:p.ways[i]? = some x) (hh:d.ways[i]? = some h):h = zar d.occ d.points x h:=by
 have e:=hR.2.2.2.2.2.2.2;have hh2:=hh;rw [e] at hh2;obtain ⟨x',y,hx',hy,hg⟩:=zdv hh2;rw [hx] at hx';rw [hh] at hy
 cases hx'
 cases hy
 exact hg
theorem znc {occ:List Bool} {secs:List Int} {h:HeldD}:(zcb occ secs h).state = 0 ∨ (zcb occ secs h).state = h.state:=by
 unfold zcb;split
 ·exact .inl rfl
 ·exact .inr rfl
theorem zqd {p:PlanD} {d:FrameD} (hR:zas p d) {i:Nat} {x:WayD} {h:HeldD} (hx:p.ways[i]? = some x) (hh:d.ways[i]? = some h) (h2:h.state = 2):za9 d.occ d.points x = true:=by
 have hs:=zik hR hx hh
 cases hp:za9 d.occ d.points x with
 | true=>rfl
 | false=>
  exfalso;have hst:=congrArg HeldD.state hs;rw [h2] at hst;unfold zar at hst;rw [if_neg (by rw [h2]; decide)] at hst;by_cases ho:za1 d.occ (x.sections.getD 0 0) = true
  ·rw [zgu (by rw [h2]; decide) ho,zc1 (by show (4:Int) ≠ 1; decide) (by show (4:Int) ≠ 2; decide)] at hst;unfold zgk at hst;rw [if_pos rfl] at hst;rcases znc (occ:=d.occ) (secs:=x.sections) (h:={ h with state:=4,timer:=0 }) with z | z
   ·rw [z] at hst; cases hst
   ·rw [z] at hst; exact absurd hst (by show ¬ (2:Int) = 4; decide)
  ·rw [zfl (by simpa using ho)] at hst;unfold zep at hst;rw [if_pos (.inr h2),hp,if_neg (by decide)] at hst;unfold zgk at hst;rw [if_neg (by show ¬ (1:Int) = 4; decide)] at hst;exact absurd hst (by show ¬ (2:Int) = 1; decide)
theorem zq1 {occ:List Bool} {points:List (Int × Int)} {x:WayD} (h:za9 occ points x = true) {s:Int} (hs:s ∈ x.sections) {o:Bool} (ho:occ[s.toNat]? = some o):o = false:=by
 unfold za9 at h;rw [Bool.and_eq_true,List.all_eq_true,List.all_eq_true] at h;have:=h.2 s (List.mem_append.2 (.inl hs));unfold zdr at this;rw [ho] at this;simpa using this
end Go.Proofs.YtdhinkgjiapigaaGreatDoor

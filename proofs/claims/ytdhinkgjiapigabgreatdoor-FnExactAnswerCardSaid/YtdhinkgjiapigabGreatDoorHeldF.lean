import Derived.Test.YtdhinkgjiapigabGreatDoorRunJ
namespace Go.Proofs.YtdhinkgjiapigabGreatDoor
open Classical
def zfu (p:PlanD) (es:List (Int × Int × Int)) (i:Nat):FrameD:=zhy (zaq p) (zdu p (zaq p) (es.take i))
theorem zi8 {p:PlanD} (hp:Right p) (es:List (Int × Int × Int)) {i:Nat} (hi:i ≤ es.length):zas p (zfu p es i):=zij hp es i hi
theorem zq2 (p:PlanD) (es:List (Int × Int × Int)) (k:Nat) (hk:k ≤ es.length):∀ i,i < k → ∃ e,es[i]? = some e ∧ (zdu p (zaq p) (es.take k))[i]? = some (zdx p (zfu p es i) e):=by
 induction k with
 | zero=>intro i hi; omega
 | succ k ih=>
  intro i hi;obtain ⟨e,he⟩:=zac es (zaa rfl) (show k < es.length by omega);rw [zd9 p (zaq p) he];have hl:=zez p (zaq p) es k (by omega);by_cases h:i = k
  ·subst h;refine ⟨e,he,?_⟩;rw [List.getElem?_append_right (by omega),hl,Nat.sub_self];rfl
  ·obtain ⟨e',he',hr⟩:=ih (by omega) i (by omega);refine ⟨e',he',?_⟩;rw [List.getElem?_append_left (by rw [hl]; omega)];exact hr
theorem zrp {p:PlanD} {es:List (Int × Int × Int)} {i:Nat} (hi:i < es.length):∃ e,es[i]? = some e ∧ (zdu p (zaq p) es)[i]? = some (zdx p (zfu p es i) e):=by
 have:=zq2 p es es.length (Nat.le_refl _) i hi;rw [List.take_length] at this;exact this
theorem zqk {p:PlanD} {es:List (Int × Int × Int)} {i:Nat} {e:Int × Int × Int} (he:es[i]? = some e):zfu p es (i + 1) = (zdx p (zfu p es i) e).2:=by
 unfold zfu;rw [zd9 p (zaq p) he];unfold zhy;rw [List.getLast?_append];rfl
theorem zq3 (p:PlanD) (es:List (Int × Int × Int)):(zdu p (zaq p) es).length = es.length:=by
 have:=zez p (zaq p) es es.length (Nat.le_refl _);rw [List.take_length] at this;exact this
theorem zrq {p:PlanD} (hp:Right p) {es:List (Int × Int × Int)} {i:Nat} {x:Int × FrameD} (hx:(zdu p (zaq p) es)[i]? = some x):zas p x.2:=by
 have hi:i < es.length:=by
  have:=(List.getElem?_eq_some_iff.1 hx).1;rw [zq3] at this;exact this
 obtain ⟨e,he,hr⟩:=zrp (p:=p) hi;rw [hr] at hx
 cases hx
 exact zim (zi8 hp es (by omega)) e
theorem zik {p:PlanD} {d:FrameD} (hR:zas p d) {i:Nat} {x:WayD} {h:HeldD} (hx:p.ways[i]? = some x) (hh:d.ways[i]? = some h):h = zar d.occ d.points x h:=by
 have e:=hR.2.2.2.2.2.2.2;have hh2:=hh;rw [e] at hh2;obtain ⟨x',y,hx',hy,hg⟩:=zdv hh2;rw [hx] at hx';rw [hh] at hy
 cases hx'
 cases hy
 exact hg
theorem znc {occ:List Bool} {secs:List Int} {h:HeldD}:(zcb occ secs h).state = 0 ∨ (zcb occ secs h).state = h.state:=by
 unfold zcb;split
 ·exact .inl rfl
 ·exact .inr rfl
theorem zqd {p:PlanD} {d:FrameD} (hR:zas p d) {i:Nat} {x:WayD} {h:HeldD} (hx:p.ways[i]? = some x) (hh:d.ways[i]? = some h) (h2:h.state = 2):za9 d.occ d.points x = true:=by
 have hs:=zik hR hx hh
 cases hp:za9 d.occ d.points x with
 | true=>rfl
 | false=>
  exfalso;have hst:=congrArg HeldD.state hs;rw [h2] at hst;unfold zar at hst;rw [if_neg (by rw [h2]; decide)] at hst;by_cases ho:za1 d.occ (x.sections.getD 0 0) = true
  ·rw [zgu (by rw [h2]; decide) ho,zc1 (by show (4:Int) ≠ 1; decide) (by show (4:Int) ≠ 2; decide)] at hst;unfold zgk at hst;rw [if_pos rfl] at hst;rcases znc (occ:=d.occ) (secs:=x.sections) (h:={ h with state:=4,timer:=0 }) with z | z
   ·rw [z] at hst; cases hst
   ·rw [z] at hst; exact absurd hst (by show ¬ (2:Int) = 4; decide)
  ·rw [zfl (by simpa using ho)] at hst;unfold zep at hst;rw [if_pos (.inr h2),hp,if_neg (by decide)] at hst;unfold zgk at hst;rw [if_neg (by show ¬ (1:Int) = 4; decide)] at hst;exact absurd hst (by show ¬ (2:Int) = 1; decide)
theorem zq1 {occ:List Bool} {points:List (Int × Int)} {x:WayD} (h:za9 occ points x = true) {s:Int} (hs:s ∈ x.sections) {o:Bool} (ho:occ[s.toNat]? = some o):o = false:=by
 unfold za9 at h;rw [Bool.and_eq_true,List.all_eq_true,List.all_eq_true] at h;have:=h.2 s (List.mem_append.2 (.inl hs));unfold zdr at this;rw [ho] at this;simpa using this
end Go.Proofs.YtdhinkgjiapigabGreatDoor
namespace Go.Proofs.YtdhinkgjiapigabGreatDoor
open Classical
theorem zqf {p:PlanD} {d:FrameD} {op of lie:Int} {k:Nat} {x:WayD} {h:HeldD} (hx:p.ways[k]? = some x) (hh:d.ways[k]? = some h) :
  ∃ y,(evD p d op of lie).2.ways[k]? = some y ∧ (y = h ∨ (op = 1 ∧ h.state = 0 ∧ y = { h with state:=1 }) ∨ (op = 2 ∧ y = zb3 p.hold d.occ x h) ∨ (op ≠ 1 ∧ op ≠ 2 ∧ op ≠ 3 ∧ op ≠ 4 ∧ op ≠ 5 ∧ op ≠ 6 ∧ y = za7 h)) ∧ (op = 2 ∧ y = zb3 p.hold d.occ x h → h.state = 1 ∨ h.state = 2 ∨ y = h):=by
 unfold evD;split
 ·rename_i e1
  split
  ·rename_i x' h' hx' hh'
   unfold zlx;split
   ·rename_i ew
    have h0:=zfn ew;by_cases ek:of.toNat = k
    ·subst ek;rw [hh] at hh'
     cases hh'
     refine ⟨{ h with state:=1 },?_,.inr (.inl ⟨e1,h0,rfl⟩),fun z=>absurd (e1.symm.trans z.1) (by decide)⟩;show (d.ways.set of.toNat { h with state:=1 })[of.toNat]? = _;rw [List.getElem?_set_self (List.getElem?_eq_some_iff.1 hh).1]
    ·refine ⟨h,?_,.inl rfl,fun _=>.inr (.inr rfl)⟩;show (d.ways.set of.toNat { h' with state:=1 })[k]? = _;rw [List.getElem?_set_ne ek];exact hh
   ·exact ⟨h,hh,.inl rfl,fun _=>.inr (.inr rfl)⟩
  ·exact ⟨h,hh,.inl rfl,fun _=>.inr (.inr rfl)⟩
 split
 ·rename_i e2
  split
  ·rename_i x' h' hx' hh'
   unfold zc0;split
   ·rename_i est
    by_cases ek:of.toNat = k
    ·subst ek;rw [hh] at hh'
     cases hh'
     rw [hx] at hx'
     cases hx'
     refine ⟨zb3 p.hold d.occ x h,?_,.inr (.inr (.inl ⟨e2,rfl⟩)),fun _=>est.elim .inl fun z=>.inr (.inl z)⟩;show (d.ways.set of.toNat _)[of.toNat]? = _;rw [List.getElem?_set_self (List.getElem?_eq_some_iff.1 hh).1]
    ·refine ⟨h,?_,.inl rfl,fun _=>.inr (.inr rfl)⟩;show (d.ways.set of.toNat _)[k]? = _;rw [List.getElem?_set_ne ek];exact hh
   ·exact ⟨h,hh,.inl rfl,fun _=>.inr (.inr rfl)⟩
  ·exact ⟨h,hh,.inl rfl,fun _=>.inr (.inr rfl)⟩
 split
 ·exact ⟨h,hh,.inl rfl,fun _=>.inr (.inr rfl)⟩
 split
 ·exact ⟨h,hh,.inl rfl,fun _=>.inr (.inr rfl)⟩
 split
 ·exact ⟨h,hh,.inl rfl,fun _=>.inr (.inr rfl)⟩
 split
 ·unfold zen;split
  ·exact ⟨h,hh,.inl rfl,fun _=>.inr (.inr rfl)⟩
  ·split
   ·exact ⟨h,hh,.inl rfl,fun _=>.inr (.inr rfl)⟩
   ·exact ⟨h,hh,.inl rfl,fun _=>.inr (.inr rfl)⟩
 ·rename_i n1 n2 n3 n4 n5 n6
  refine ⟨za7 h,?_,.inr (.inr (.inr ⟨n1,n2,n3,n4,n5,n6,rfl⟩)),fun z=>absurd z.1 n2⟩;show (d.ways.map za7)[k]? = _;rw [List.getElem?_map,hh];rfl
theorem zqe {p:PlanD} {d:FrameD} {op of lie:Int} {k:Nat} {x:WayD} {y h:HeldD} (hx:p.ways[k]? = some x) (hy:(evD p d op of lie).2.ways[k]? = some y) (hh:(doD p d op of lie).2.ways[k]? = some h):h = zar (doD p d op of lie).2.occ (doD p d op of lie).2.points x y:=by
 obtain ⟨x',y',hx',hy',e⟩:=zdv hh;rw [hx] at hx';rw [hy] at hy'
 cases hx'
 cases hy'
 exact e
theorem zpm {occ:List Bool} {secs:List Int} {been:List Bool} {k:Nat} {s:Int} (hs:secs[k]? = some s) (hb:(za2 occ secs been)[k]? = some true) (ho:za1 occ s = false):been[k]? = some true:=by
 unfold za2 at hb;rw [List.getElem?_zipWith,hs] at hb
 cases e:been[k]? with
 | none=>rw [e] at hb; cases hb
 | some b=>
  rw [e] at hb;have hb':some (b || za1 occ s) = some true:=hb;rw [ho,Bool.or_false] at hb';exact hb'
theorem zox {hold:Int} {occ:List Bool} {secs:List Int} {h:HeldD} (hk:zcn hold secs.length h) (h4:h.state = 4) {j:Nat} {s:Int} (hs:secs[j]? = some s) (h1:h.gone ≤ (j:Int)) (h2:(zcb occ secs h).state = 0 ∨ (j:Int) < (zcb occ secs h).gone):za1 occ s = false ∧ h.been[j]? = some true:=by
 obtain ⟨-,k2,k3,-⟩:=hk;have hl:(za2 occ secs h.been).length = secs.length:=za4 k2;have hj:j < secs.length:=(List.getElem?_eq_some_iff.1 hs).1;have h0:0 ≤ h.gone:=k3.1
 have hlt:j < zbd occ secs (za2 occ secs h.been) h.gone.toNat:=by
  unfold zcb at h2;by_cases e:zbd occ secs (za2 occ secs h.been) h.gone.toNat = (za2 occ secs h.been).length
  ·rw [e,hl];exact hj
  ·rw [if_neg e] at h2;rcases h2 with h2 | h2
   ·have h2':h.state = 0:=h2;rw [h4] at h2'
    cases h2'
   ·have h2':(j:Int) < ((zbd occ secs (za2 occ secs h.been) h.gone.toNat:Nat):Int):=h2;omega
 have hok:=zl0 (zkj occ secs (za2 occ secs h.been)) _ _ j (show h.gone.toNat ≤ j by omega) hlt;obtain ⟨b,hb⟩:=zac (za2 occ secs h.been) (zaa hl) hj;rw [zd7 hs hb] at hok;simp only [Bool.and_eq_true] at hok;obtain ⟨⟨hb1,ho⟩,-⟩:=hok
 have ho':za1 occ s = false:=by simpa using ho
 exact ⟨ho',zpm hs (by rw [hb,hb1]) ho'⟩
theorem zio {occ:List Bool} {secs:List Int} {h:HeldD} (hn:0 < secs.length) (hl:h.been.length = secs.length) (h0:h.gone = 0) (ho:za1 occ (secs.getD 0 0) = true):(zcb occ secs h).state = h.state:=by
 obtain ⟨s,hs⟩:=zac secs (zaa rfl) hn;have hb:(za2 occ secs h.been).length = secs.length:=za4 hl;obtain ⟨b,hb0⟩:=zac (za2 occ secs h.been) (zaa hb) hn
 have hsg:secs.getD 0 0 = s:=by rw [List.getD_eq_getElem?_getD,hs]; rfl
 have hno:zkj occ secs (za2 occ secs h.been) 0 = false:=by
  rw [zd7 hs hb0,← hsg,ho];simp
 have hg:zbd occ secs (za2 occ secs h.been) h.gone.toNat = 0:=by
  rw [h0];exact zeg (by show 0 < _; omega) hno
 unfold zcb;rw [if_neg (by rw [hg,hb]; omega)]
theorem zlm {occ:List Bool} {points:List (Int × Int)} {x:WayD} {y:HeldD} (hn:0 < x.sections.length) (hl:y.been.length = x.sections.length) (h0:y.gone = 0) (h4:y.state ≠ 4) (he:(zar occ points x y).state = 0):y.state = 0:=by
 refine Decidable.byContradiction fun hne=>?_;unfold zar at he;rw [if_neg hne] at he;by_cases ho:za1 occ (x.sections.getD 0 0) = true
 ·rw [zgu h4 ho,zc1 (by show (4:Int) ≠ 1; decide) (by show (4:Int) ≠ 2; decide)] at he;unfold zgk at he;rw [if_pos rfl,zio hn (by exact hl) (by exact h0) ho] at he;exact absurd he (by show ¬ (4:Int) = 0; decide)
 ·rw [zfl (by simpa using ho)] at he;unfold zep at he;split at he
  ·split at he
   ·unfold zgk at he;rw [if_neg (by show ¬ (2:Int) = 4; decide)] at he;exact absurd he (by show ¬ (2:Int) = 0; decide)
   ·unfold zgk at he;rw [if_neg (by show ¬ (1:Int) = 4; decide)] at he;exact absurd he (by show ¬ (1:Int) = 0; decide)
  ·unfold zgk at he;rw [if_neg h4] at he;exact hne he
theorem zjq {p:PlanD} {d:FrameD} (hR:zas p d) {k:Nat} {x:WayD} {h:HeldD} (hx:p.ways[k]? = some x) (hh:d.ways[k]? = some h) (h0:h.state ≠ 0) (h4:h.state ≠ 4):za1 d.occ (x.sections.getD 0 0) = false:=by
 cases ho:za1 d.occ (x.sections.getD 0 0) with
 | false=>rfl
 | true=>
  exfalso;have hk:=(hR.2.2.2.2.2.2.1 k (List.getElem?_eq_some_iff.1 hh).1 x h hx hh).1;have hs:=congrArg HeldD.state (zik hR hx hh);unfold zar at hs;rw [if_neg h0,zgu h4 ho,zc1 (by show (4:Int) ≠ 1; decide) (by show (4:Int) ≠ 2; decide)] at hs;unfold zgk at hs;rw [if_pos rfl,zio (List.length_pos_iff.2 (hR.1.way hx).1) (by exact hk.2.1) (by exact (hk.2.2.2.1 h4).2) ho] at hs;exact h4 hs
theorem zrh {p:PlanD} {d:FrameD} {op of lie:Int} (h3:op ≠ 3) (h4:op ≠ 4):(evD p d op of lie).2.occ = d.occ:=by
 unfold evD;split
 ·split
  ·unfold zlx
   split <;> rfl
  ·rfl
 split
 ·split
  ·unfold zc0
   split <;> rfl
  ·rfl
 split
 ·rfl
 split
 ·unfold zen;split
  ·rfl
  ·split <;> rfl
 ·rfl
theorem zo8 {h:HeldD} (h3:h.state ≠ 3):za7 h = h:=if_neg h3
theorem zrk {p:PlanD} {f:FrameD} {e:Int × Int × Int} (hR:zas p f) {k:Nat} {x:WayD} {was h:HeldD} (hx:p.ways[k]? = some x) (hw:f.ways[k]? = some was) (hh:(zdx p f e).2.ways[k]? = some h) (h4:was.state = 4) {j:Nat} {s:Int} (hs:x.sections[j]? = some s) (h1:was.gone ≤ (j:Int)) (h2:h.state = 0 ∨ (j:Int) < h.gone):za1 (zdx p f e).2.occ s = false ∧ was.been[j]? = some true:=by
 have hk:=(hR.2.2.2.2.2.2.1 k (List.getElem?_eq_some_iff.1 hw).1 x was hx hw).1;by_cases hev:zpg p e
 ·rw [zfk hev] at hh ⊢;obtain ⟨y,hy,hc,hb⟩:=zqf (op:=e.1) (of:=e.2.1) (lie:=e.2.2) hx hw
  have hyw:y = was:=by
   rcases hc with z | ⟨-,z,-⟩ | ⟨z1,z2⟩ | ⟨-,-,-,-,-,-,z⟩
   ·exact z
   ·rw [h4] at z; cases z
   ·rcases hb ⟨z1,z2⟩ with q | q | q
    ·rw [h4] at q; cases q
    ·rw [h4] at q; cases q
    ·exact q
   ·rw [z]; exact zo8 (by rw [h4]; decide)
  subst hyw;have hd:=zqe hx hy hh;unfold zar at hd;rw [if_neg (by rw [h4]; decide),zpb h4,zc1 (by rw [h4]; decide) (by rw [h4]; decide)] at hd;unfold zgk at hd;rw [if_pos h4] at hd;rw [hd] at h2;exact zox hk h4 hs h1 h2
 ·rw [zgt hev] at hh;have hh':f.ways[k]? = some h:=hh;rw [hw] at hh'
  cases hh'
  rcases h2 with z | z
  ·rw [h4] at z; cases z
  ·omega
theorem zrj {p:PlanD} {f:FrameD} {e:Int × Int × Int} (hR:zas p f) {k:Nat} {x:WayD} {was h:HeldD} (hx:p.ways[k]? = some x) (hw:f.ways[k]? = some was) (hh:(zdx p f e).2.ways[k]? = some h) (h0:was.state ≠ 0) (h4:was.state ≠ 4) (hi:h.state = 0):(e.1 = 2 ∨ e.1 = 7) ∧ za1 (zdx p f e).2.occ (x.sections.getD 0 0) = false ∧ (e.1 = 2 → was.shown = true → ∀ s ∈ x.near,za1 f.occ s = false):=by
 have hk:=(hR.2.2.2.2.2.2.1 k (List.getElem?_eq_some_iff.1 hw).1 x was hx hw).1;have hfst:=zjq hR hx hw h0 h4;have hn:0 < x.sections.length:=List.length_pos_iff.2 (hR.1.way hx).1;have hbl:=hk.2.1;have hg0:=(hk.2.2.2.1 h4).2;by_cases hev:zpg p e
 ·rw [zfk hev] at hh ⊢;obtain ⟨y,hy,hc,hb⟩:=zqf (op:=e.1) (of:=e.2.1) (lie:=e.2.2) hx hw;have hd:=zqe hx hy hh
  have hocc:e.1 = 2 ∨ e.1 = 7 → za1 (doD p f e.1 e.2.1 e.2.2).2.occ (x.sections.getD 0 0) = false:=fun z=>by
   show za1 (evD p f e.1 e.2.1 e.2.2).2.occ _ = false;rw [zrh (by rcases z with z | z <;> rw [z] <;> decide) (by rcases z with z | z <;> rw [z] <;> decide)];exact hfst
  have hyok:y.been.length = x.sections.length ∧ y.gone = 0 ∧ y.state ≠ 4:=by
   rcases hc with z | ⟨-,-,z⟩ | ⟨-,z⟩ | ⟨-,-,-,-,-,-,z⟩
   ·rw [z]; exact ⟨hbl,hg0,h4⟩
   ·rw [z]; exact ⟨hbl,hg0,by show (1:Int) ≠ 4; decide⟩
   ·rw [z];unfold zb3;split
    ·exact ⟨hbl,hg0,by show (3:Int) ≠ 4; decide⟩
    ·exact ⟨by show (List.replicate _ false).length = _; rw [List.length_replicate]; exact hbl,rfl,by show (0:Int) ≠ 4; decide⟩
   ·rw [z];unfold za7;split
    ·split
     ·exact ⟨by show (List.replicate _ false).length = _; rw [List.length_replicate]; exact hbl,rfl,by show (0:Int) ≠ 4; decide⟩
     ·exact ⟨hbl,hg0,h4⟩
    ·exact ⟨hbl,hg0,h4⟩
  have hy0:y.state = 0:=zlm hn hyok.1 hyok.2.1 hyok.2.2 (by rw [← hd]; exact hi);rcases hc with z | ⟨-,z,-⟩ | ⟨z1,z⟩ | ⟨n1,n2,n3,n4,n5,n6,z⟩
  ·rw [z] at hy0; exact absurd hy0 h0
  ·exact absurd z h0
  ·refine ⟨.inl z1,hocc (.inl z1),fun _ hsh s hs=>?_⟩;rw [z] at hy0;unfold zb3 at hy0;split at hy0
   ·exact absurd hy0 (by show ¬ (3:Int) = 0; decide)
   ·rename_i hnn
    rw [hsh,Bool.true_and] at hnn;unfold zkg at hnn;rw [List.any_eq_true] at hnn
    cases q:za1 f.occ s with
    | false=>rfl
    | true=>exact absurd ⟨s,hs,q⟩ hnn
  ·have h7:e.1 = 7:=by
    rcases (show za5 p.sections p.switches.length p.ways.length e.1 e.2.1 e.2.2 from hev) with ⟨q | q,-⟩ | ⟨q | q,-⟩ | ⟨q,-⟩ | ⟨q,-⟩ | ⟨q,-⟩
    ·exact absurd q n1
    ·exact absurd q n2
    ·exact absurd q n3
    ·exact absurd q n4
    ·exact absurd q n5
    ·exact absurd q n6
    ·exact q
   exact ⟨.inr h7,hocc (.inr h7),fun q=>absurd q n2⟩
 ·rw [zgt hev] at hh;have hh':f.ways[k]? = some h:=hh;rw [hw] at hh'
  cases hh'
  exact absurd hi h0
end Go.Proofs.YtdhinkgjiapigabGreatDoor

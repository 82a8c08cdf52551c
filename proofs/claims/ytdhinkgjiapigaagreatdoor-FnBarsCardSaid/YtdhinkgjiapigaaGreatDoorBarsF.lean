import Derived.Test.YtdhinkgjiapigaaGreatDoorClearD
import Derived.Test.YtdhinkgjiapigaaGreatDoorPlI
import Derived.Test.YtdhinkgjiapigaaGreatDoorDltx
namespace Go.Proofs.YtdhinkgjiapigaaGreatDoor
open Classical
theorem zu5 {p:PlanD} {d:FrameD} (hR:zas p d) {i j:Nat} {x y:WayD} {h g:HeldD} (hij:i ≠ j) (hx:p.ways[i]? = some x) (hh:d.ways[i]? = some h) (hy:p.ways[j]? = some y) (hg:d.ways[j]? = some g) (h0:h.state ≠ 0) (g0:g.state ≠ 0):¬ Meet x.sections y.sections:=fun hm=>by
 have hi:=(List.getElem?_eq_some_iff.1 hx).1
 have hj:=(List.getElem?_eq_some_iff.1 hy).1
 obtain ⟨r,b,-,-,-,hb⟩:=hR.1.row hi hj
 have hno:=hR.1.parts.2.2.2.2.2 i
 have hbt:b = true:=by
  cases b with
  | true=>rfl
  | false=>exact absurd ⟨hi,j,hj,.inr ⟨hij,hb,x,y,hx,hy,hm⟩⟩ hno
 subst hbt
 exact g0 ((hR.2.2.2.2.2.2.1 i (List.getElem?_eq_some_iff.1 hh).1 x h hx hh).2 j g hij hg hb h0)
def inK (x:WayD) (h:HeldD) (k:Nat) (s:Int):Prop:=∃ j,j < k ∧ x.sections[j]? = some s ∧ h.gone ≤ (j:Int)
def zu0 (p:PlanD) (d:FrameD) (s:Int) (i:Nat):Prop:=∃ j,j < i ∧ zud p d s j = true
def ind (q:Prop) [Decidable q]:Int:=if q then 1 else 0
theorem zt9 {q r:Prop} {i:Decidable q} {j:Decidable r} (h:q ↔ r):@ind q i = @ind r j:=by
 unfold ind;by_cases e:q
 ·rw [if_pos e,if_pos (h.1 e)]
 ·rw [if_neg e,if_neg fun z=>e (h.2 z)]
theorem zun {q:Prop} {i:Decidable q} (h:q):@ind q i = 1:=if_pos h
theorem zuq {q:Prop} {i:Decidable q} (h:¬ q):@ind q i = 0:=if_neg h
def zu1 (p:PlanD) (d:FrameD) (i:Nat) (x:WayD) (h:HeldD) (k:Nat) (s:Int):Prop:=zu0 p d s i ∨ inK x h k s
theorem zuh {p:PlanD} {d:FrameD} {i:Nat} {x:WayD} {h:HeldD} {s:Int} (hx:p.ways[i]? = some x) (hh:d.ways[i]? = some h) (hg:0 ≤ h.gone):zud p d s i = true ↔ h.state ≠ 0 ∧ inK x h x.sections.length s:=by
 rw [zuk,zui hx hh,zd2 hh,Bool.and_eq_true,List.any_eq_true];constructor
 ·rintro ⟨⟨y,hy,e⟩,h2⟩
  have e':y = s:=by simpa using e
  subst e';obtain ⟨q,hq⟩:=List.getElem?_of_mem hy;rw [List.getElem?_drop] at hq;exact ⟨by simpa using h2,h.gone.toNat + q,(List.getElem?_eq_some_iff.1 hq).1,hq,by omega⟩
 ·rintro ⟨h2,j,hj,hs,hgj⟩;refine ⟨⟨s,?_,by simp⟩,by simpa using h2⟩;refine List.mem_of_getElem? (i:=j - h.gone.toNat) ?_;rw [List.getElem?_drop,show h.gone.toNat + (j - h.gone.toNat) = j by omega];exact hs
theorem anyH_succ {p:PlanD} {d:FrameD} {s:Int} {i:Nat}:zu0 p d s (i + 1) ↔ zu0 p d s i ∨ zud p d s i = true:=by
 constructor
 ·rintro ⟨j,hj,h⟩;by_cases e:j = i
  ·subst e; exact .inr h
  ·exact .inl ⟨j,by omega,h⟩
 ·rintro (⟨j,hj,h⟩ | h)
  ·exact ⟨j,by omega,h⟩
  ·exact ⟨i,by omega,h⟩
theorem zus {p:PlanD} {d:FrameD} {i:Nat} {x:WayD} {h:HeldD} (hx:p.ways[i]? = some x) (hh:d.ways[i]? = some h) (hg:0 ≤ h.gone) (h0:h.state = 0) (s:Int):ind (zu0 p d s (i + 1)) = ind (zu0 p d s i):=
 zt9 (anyH_succ.trans ⟨fun z=>z.elim id fun q=>absurd h0 ((zuh hx hh hg).1 q).1,.inl⟩)
theorem zuu (p:PlanD) (d:FrameD) (i:Nat) (x:WayD) (h:HeldD) (s:Int):ind (zu1 p d i x h 0 s) = ind (zu0 p d s i):=
 zt9 ⟨fun z=>z.elim id fun ⟨j,hj,_⟩=>absurd hj (by omega),.inl⟩
theorem zu2 {p:PlanD} {d:FrameD} {i:Nat} {x:WayD} {h:HeldD} (hx:p.ways[i]? = some x) (hh:d.ways[i]? = some h) (hg:0 ≤ h.gone) (h0:h.state ≠ 0) (s:Int):ind (zu1 p d i x h x.sections.length s) = ind (zu0 p d s (i + 1)):=
 zt9 ((or_congr Iff.rfl (by rw [zuh hx hh hg]; exact ⟨fun z=>⟨h0,z⟩,fun z=>z.2⟩)).trans anyH_succ.symm)
theorem zup {x:WayD} {h:HeldD} {k:Nat} {s:Int} (hn:¬ (x.sections[k]? = some s ∧ h.gone ≤ (k:Int))):inK x h (k + 1) s ↔ inK x h k s:=by
 constructor
 ·rintro ⟨j,hj,h1,h2⟩;refine ⟨j,?_,h1,h2⟩;by_cases e:j = k
  ·subst e; exact absurd ⟨h1,h2⟩ hn
  ·omega
 ·rintro ⟨j,hj,h1,h2⟩;exact ⟨j,by omega,h1,h2⟩
theorem zu6 {p:PlanD} {d:FrameD} {i:Nat} {x:WayD} {h:HeldD} {k:Nat} (hk:¬ h.gone ≤ (k:Int)) (s:Int):ind (zu1 p d i x h (k + 1) s) = ind (zu1 p d i x h k s):=
 zt9 (or_congr Iff.rfl (zup fun z=>hk z.2))
theorem zur {p:PlanD} {d:FrameD} {i:Nat} {x:WayD} {h:HeldD} {k:Nat} {s0:Int} (hs:x.sections[k]? = some s0) {s:Int} (hne:s ≠ s0):ind (zu1 p d i x h (k + 1) s) = ind (zu1 p d i x h k s):=
 zt9 (or_congr Iff.rfl (zup fun z=>by have:=z.1; rw [hs] at this; cases this; exact hne rfl))
theorem zu3 {p:PlanD} {d:FrameD} {i:Nat} {x:WayD} {h:HeldD} {k:Nat} {s0:Int} (hs:x.sections[k]? = some s0) (hk:h.gone ≤ (k:Int)):ind (zu1 p d i x h (k + 1) s0) = 1:=zun (.inr ⟨k,by omega,hs,hk⟩)
theorem zut {p:PlanD} {d:FrameD} (hR:zas p d) {i:Nat} {x:WayD} {h:HeldD} {k:Nat} {s0:Int} (hx:p.ways[i]? = some x) (hh:d.ways[i]? = some h) (h0:h.state ≠ 0) (hs:x.sections[k]? = some s0):ind (zu1 p d i x h k s0) = 0:=by
 refine zuq ?_;rintro (⟨j,hj,hq⟩ | ⟨j,hj,h1,-⟩)
 ·have hil:=(List.getElem?_eq_some_iff.1 hx).1;obtain ⟨y,hy⟩:=zac p.ways (zaa rfl) (show j < p.ways.length by omega);obtain ⟨g,hg⟩:=zac d.ways (zaa hR.2.2.2.2.1) (show j < p.ways.length by omega);have hgo:=(hR.2.2.2.2.2.2.1 j (List.getElem?_eq_some_iff.1 hg).1 y g hy hg).1.2.2.1.1;obtain ⟨g0,q,-,hq2,-⟩:=(zuh hy hg hgo).1 hq;exact zu5 hR (show i ≠ j by omega) hx hh hy hg h0 g0 ⟨s0,List.mem_of_getElem? hs,List.mem_of_getElem? hq2⟩
 ·exact ((hR.1.way hx).2.1.1 k (List.getElem?_eq_some_iff.1 hs).1 s0 hs).2 j hj h1
theorem zu4 {p:PlanD} {d:FrameD} {s:Int}:decide (0 ≤ zuj p d s) = (ind (zu0 p d s p.ways.length) == 1):=by
 unfold zuj
 cases e:(List.range p.ways.length).find? (zud p d s) with
 | some i=>
  have h1:=List.find?_some e;have h2:=List.mem_range.1 (List.mem_of_find?_eq_some e);rw [zun ⟨i,h2,h1⟩];show decide ((0:Int) ≤ (i:Int)) = true;exact decide_eq_true (by omega)
 | none=>
  rw [zuq (fun ⟨j,hj,hq⟩=>by have:=List.find?_eq_none.1 e j (List.mem_range.2 hj); exact this hq)];rfl
theorem zuv {q:Prop} {i:Decidable q}:@ind q i = 0 ∨ @ind q i = 1:=by
 by_cases e:q
 ·exact .inr (zun e)
 ·exact .inl (zuq e)
end Go.Proofs.YtdhinkgjiapigaaGreatDoor

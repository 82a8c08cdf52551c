import Derived.Test.YtdhinkgjiapigaaGreatDoorHeldFq
import Derived.Test.YtdhinkgjiapigaaGreatDoorDltx
import Derived.Test.YtdhinkgjiapigaaGreatDoorHpI
import Derived.Test.YtdhinkgjiapigaaGreatDoorWhyS
namespace Go.Proofs.YtdhinkgjiapigaaGreatDoor
open Classical
theorem zwl (helds:List HeldD) (k:Nat):(za6 helds k).length ≤ k:=by
 unfold za6;exact Nat.le_trans (List.length_filter_le _ _) (by rw [List.length_range]; exact Nat.le_refl _)
theorem zwj (p:PlanD) (d:FrameD) (i:Nat) (x:WayD) (h:HeldD) :
  (zit p d i x h = 2 ∧ h.state ≠ 0) ∨ (zit p d i x h = 0 ∧ h.state = 0 ∧ (zcc p d i).length = 0 ∧ (zgc d.occ x).length = 0 ∧ (zv5 (zdb d.points x) (zew p d i) (zgd p d)).length = 0) ∨
   (zit p d i x h ≠ 0 ∧ zit p d i x h ≠ 2 ∧ h.state = 0 ∧ 0 < (zcc p d i).length + (zgc d.occ x).length + (zv5 (zdb d.points x) (zew p d i) (zgd p d)).length):=by
 unfold zit zph;by_cases h0:h.state = 0
 ·right;rw [if_neg (by simp [h0])];by_cases h1:0 < (zcc p d i).length
  ·rw [if_pos h1];exact .inr ⟨by decide,by decide,h0,by omega⟩
  rw [if_neg h1];by_cases h2:0 < (zgc d.occ x).length
  ·rw [if_pos h2];exact .inr ⟨by decide,by decide,h0,by omega⟩
  rw [if_neg h2];have hz:=zwf (ts:=zdb d.points x) (lk:=zew p d i) (sk:=zgd p d)
  cases h3:(zdb d.points x).any (zew p d i)
  case true=>
   rw [if_pos rfl];refine .inr ⟨by decide,by decide,h0,?_⟩
   have:(zv5 (zdb d.points x) (zew p d i) (zgd p d)).length ≠ 0:=fun z=>by have:=(hz.1 z).1; rw [h3] at this; cases this
   omega
  rw [if_neg (by decide)]
  cases h4:(zdb d.points x).any (zgd p d)
  case true=>
   rw [if_pos rfl];refine .inr ⟨by decide,by decide,h0,?_⟩
   have:(zv5 (zdb d.points x) (zew p d i) (zgd p d)).length ≠ 0:=fun z=>by have:=(hz.1 z).2; rw [h4] at this; cases this
   omega
  rw [if_neg (by decide)];exact .inl ⟨rfl,h0,by omega,by omega,hz.2 ⟨h3,h4⟩⟩
 ·rw [if_pos (by simp [h0])];exact .inl ⟨rfl,h0⟩
theorem zwp {p:PlanD} {f:FrameD} {i:Nat} {x:WayD} {h g:HeldD} (hR:zas p f) (hx:p.ways[i]? = some x) (hh:f.ways[i]? = some h) (hg:(doD p f 1 (i:Int) 0).2.ways[i]? = some g) :
  (doD p f 1 (i:Int) 0).1 = zit p f i x h ∧ (zit p f i x h = 0 → g.state ≠ 0) ∧ (zit p f i x h ≠ 0 → g = h):=by
 have e:evD p f 1 (i:Int) 0 = zlx p f i x h:=by
  unfold evD;rw [if_pos rfl,show ((i:Int)).toNat = i by simp,hx,hh]
 unfold doD at hg ⊢;rw [e] at hg ⊢;by_cases hw:zit p f i x h = 0
 ·have ha:zlx p f i x h = (0,{ f with points:=zav f.points (x.lies ++ x.flanks),ways:=f.ways.set i { h with state:=1 } }):=if_pos hw;rw [ha] at hg ⊢;refine ⟨hw.symm,fun _=>?_,fun z=>absurd hw z⟩;obtain ⟨x',y,hx',hy,rfl⟩:=zdv hg;rw [hx] at hx'
  cases hx'
  have hy':(f.ways.set i { h with state:=1 })[i]? = some y:=hy;rw [List.getElem?_set_self (List.getElem?_eq_some_iff.1 hh).1] at hy'
  cases hy'
  have hst:(zgc f.occ x).length = 0:=by
   rcases zwj p f i x h with z | z | z
   ·exact absurd (hw.symm.trans z.1) (by decide)
   ·exact z.2.2.2.1
   ·exact absurd hw z.1
  have ho:za1 f.occ (x.sections.getD 0 0) = false:=by
   obtain ⟨s,hs⟩:=zb4 x.sections (List.length_pos_iff.2 (hR.1.way hx).1);rw [List.getD_eq_getElem?_getD,hs,zfy];show f.occ.getD s.toNat false = false
   cases ho:f.occ.getD s.toNat false with
   | false=>rfl
   | true=>
    have hm:s.toNat ∈ zgc f.occ x:=List.mem_filter.2 ⟨List.mem_map.2 ⟨s,List.mem_append.2 (.inl (List.mem_of_getElem? hs)),rfl⟩,ho⟩;rw [List.eq_nil_of_length_eq_zero hst] at hm
    cases hm
  show (zar f.occ (zav f.points (x.lies ++ x.flanks)) x { h with state:=1 }).state ≠ 0
  cases hp:za9 f.occ (zav f.points (x.lies ++ x.flanks)) x
  ·rw [zc8 (.inl rfl) ho hp];show (1:Int) ≠ 0;decide
  ·rw [zce (.inl rfl) ho hp];show (2:Int) ≠ 0;decide
 ·have ha:zlx p f i x h = (zit p f i x h,f):=if_neg hw;rw [ha] at hg ⊢;refine ⟨rfl,fun z=>absurd z hw,fun _=>?_⟩;have hg':(zbu p.ways f).ways[i]? = some g:=hg;rw [← hR.2.2.2.2.2.2.2,hh] at hg';exact (Option.some.inj hg').symm
end Go.Proofs.YtdhinkgjiapigaaGreatDoor

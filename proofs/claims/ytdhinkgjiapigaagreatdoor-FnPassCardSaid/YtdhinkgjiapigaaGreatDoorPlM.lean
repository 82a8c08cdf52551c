import Derived.Test.YtdhinkgjiapigaaGreatDoorSpec7
import Derived.Test.YtdhinkgjiapigaaGreatDoorRanA
import Derived.Test.YtdhinkgjiapigaaGreatDoorBase
import Derived.Test.YtdhinkgjiapigaaGreatDoorWantA
namespace Go.Proofs.YtdhinkgjiapigaaGreatDoor
open Classical
theorem frame_gone {p:PlanD} {d:FrameD} (h:FrameR p d) {i:Nat} {x:WayD} {g:HeldD} (hx:p.ways[i]? = some x) (hh:d.ways[i]? = some g):0 ≤ g.gone ∧ g.gone < x.sections.length:=by
 have:=(h.2.2.2.2.2.2.1 i (List.getElem?_eq_some_iff.1 hh).1 x g hx hh).1
 obtain ⟨a,b⟩:=this.2.2.1
 exact ⟨a,by omega⟩
end Go.Proofs.YtdhinkgjiapigaaGreatDoor
namespace Go.Proofs.YtdhinkgjiapigaaGreatDoor
open Classical
def wantsI (p:PlanD) (d:FrameD) (q:Nat) (i:Nat):Bool:=match p.ways[i]?,d.ways[i]? with
 | some x,some h=>wantsB p.switches x h q
 | _,_=>false
theorem wantsI_get {p:PlanD} {d:FrameD} {q i:Nat} {x:WayD} {h:HeldD} (hx:p.ways[i]? = some x) (hh:d.ways[i]? = some h):wantsI p d q i = wantsB p.switches x h q:=by
 unfold wantsI; rw [hx,hh]
theorem any_find {α:Type} {f:α → Bool} {l:List α} (h:l.any f = true):∃ y,l.find? f = some y:=by
 cases e:l.find? f with
 | none=>
  rw [List.find?_eq_none] at e
  obtain ⟨y,hy,hf⟩:=List.any_eq_true.1 h
  exact absurd hf (by simpa using e y hy)
 | some y=>exact ⟨y,rfl⟩
theorem none_find {α:Type} {f:α → Bool} {l:List α} (h:l.any f = false):l.find? f = none:=by
 rw [List.find?_eq_none]
 intro y hy hf
 rw [List.any_eq_true.2 ⟨y,hy,hf⟩] at h
 cases h
theorem wantsB_iff {sw:List Int} {x:WayD} {h:HeldD} {q:Nat} (hs:h.state ≠ 0) (hl:∀ y,(y ∈ x.lies ∨ y ∈ x.flanks) → 1 ≤ y.2):decide (0 < wantsD sw x h q) = wantsB sw x h q:=by
 unfold wantsB
 cases hf:x.flanks.any (fun y=>y.1 == (q:Int)) with
 | true=>
  obtain ⟨y,hy⟩:=any_find hf
  rw [wantsD_flank hs hy]
  have:=hl y (.inr (List.mem_of_find?_eq_some hy))
  simp; omega
 | false=>
  have hf':=none_find hf
  have hq:((q:Int)).toNat = q:=by simp
  cases hk:(x.sections.drop h.gone.toNat).any (· == sw.getD q 0) with
  | false=>
   have:x.lies.find? (fun y=>y.1 == (q:Int) && holdsB x h (sw.getD ((q:Int)).toNat 0)) = none:=by
    rw [List.find?_eq_none]
    intro y _
    rw [hq]
    unfold holdsB
    rw [hk]; simp
   rw [wantsD_none hs hf' this]
   simp
  | true=>
   have hho:holdsB x h (sw.getD q 0) = true:=by unfold holdsB; rw [hk]; simp [hs]
   cases ha:x.lies.any (fun y=>y.1 == (q:Int)) with
   | true=>
    obtain ⟨y,hy⟩:=any_find ha
    have:x.lies.find? (fun y=>y.1 == (q:Int) && holdsB x h (sw.getD ((q:Int)).toNat 0)) = some y:=by
     rw [hq,hho]; simpa using hy
    rw [wantsD_lie hs hf' this]
    have:=hl y (.inl (List.mem_of_find?_eq_some hy))
    simp; omega
   | false=>
    have hn:=none_find ha
    have:x.lies.find? (fun y=>y.1 == (q:Int) && holdsB x h (sw.getD ((q:Int)).toNat 0)) = none:=by
     rw [hq,hho]; simpa using hn
    rw [wantsD_none hs hf' this]
    simp
theorem wants_filter {p:PlanD} {d:FrameD} (hR:FrameR p d) (q:Nat):((heldIdx d.ways d.ways.length).filter (wantsI p d q)).map (fun i:Nat=>(i:Int)) = pointD p d q:=by
 unfold pointD heldIdx
 rw [List.filter_filter,hR.2.2.2.2.1]
 congr 1
 apply List.filter_congr
 intro i hi
 rw [List.mem_range] at hi
 obtain ⟨x,hx⟩:=get_some p.ways (hide rfl) hi
 obtain ⟨h,hh⟩:=get_some d.ways (hide hR.2.2.2.2.1) hi
 rw [wantsI_get hx hh,heldB_get hh]
 unfold wantsAt
 rw [hx,hh]
 by_cases hs:h.state = 0
 ·show _ = decide (0 < wantsD p.switches x h q)
  rw [wantsD_idle hs]; simp [hs]
 ·show _ = decide (0 < wantsD p.switches x h q)
  rw [wantsB_iff hs fun y hy=>?_]
  ·simp [hs]
  ·have hok:=hR.1.way hx
   rcases hy with z | z
   ·obtain ⟨j,hj⟩:=List.getElem?_of_mem z
    exact (hok.2.2.2.2.1.1 j (List.getElem?_eq_some_iff.1 hj).1 y hj).1.2.1
   ·obtain ⟨j,hj⟩:=List.getElem?_of_mem z
    exact (hok.2.2.2.2.2.1.1 j (List.getElem?_eq_some_iff.1 hj).1 y hj).1.2.1
end Go.Proofs.YtdhinkgjiapigaaGreatDoor

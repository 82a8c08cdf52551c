import Derived.Test.YtdhinkgjiapigabGreatDoorSpec7
namespace Go.Proofs.YtdhinkgjiapigabGreatDoor
open Go.RowKit Go.Deep
open Classical

/-- The frame is one, there is such a way, and it is proved. -/
def provedAt (p : PlanD) (d : FrameD) (k : Int) [Decidable (FrameR p d)] [Decidable (InR k 0 ((p.ways.length : Int) - 1))] : Bool := B (FrameR p d) && (B (InR k 0 ((p.ways.length : Int) - 1)) && (p.ways[k.toNat]?.map fun x => provedB d.occ d.points x).getD false)
theorem provedAt_not {p : PlanD} {d : FrameD} {k : Int} (h : ¬ FrameR p d) : provedAt p d k = false := by unfold provedAt; rw [B_false h]; rfl
theorem provedAt_no {p : PlanD} {d : FrameD} {k : Int} (h : ¬ InR k 0 ((p.ways.length : Int) - 1)) : provedAt p d k = false := by unfold provedAt; rw [B_false h]; simp
theorem provedAt_yes {p : PlanD} {d : FrameD} {k : Nat} {x : WayD} (h : FrameR p d) (hx : p.ways[k]? = some x) : provedAt p d k = provedB d.occ d.points x := by
  unfold provedAt
  have hk := (List.getElem?_eq_some_iff.1 hx).1
  rw [B_true h, B_true (show InR (k : Int) 0 ((p.ways.length : Int) - 1) from ⟨by omega, by omega⟩), show ((k : Int)).toNat = k by simp, hx]; rfl
/-- What a frame that is one says of a way's sections and switches. -/
theorem frame_way {p : PlanD} {d : FrameD} (h : FrameR p d) {i : Nat} {x : WayD} (hx : p.ways[i]? = some x) :
    x.Small 30 ∧ (∀ y, (y ∈ x.lies ∨ y ∈ x.flanks) → 0 ≤ y.1 ∧ y.1 < d.points.length) ∧ (∀ s, (s ∈ x.sections ∨ s ∈ x.over) → 0 ≤ s ∧ s < d.occ.length) := by
  have hok := h.1.way hx
  have e1 := h.2.2.1
  have e2 := h.2.2.2.1
  refine ⟨hok.small, fun y hy => ?_, fun s hs => ?_⟩
  · rcases hy with z | z
    · have := hok.2.2.2.2.1.mem z; omega
    · have := hok.2.2.2.2.2.1.mem z; omega
  · rcases hs with z | z
    · have := hok.2.1.mem z; omega
    · have := hok.2.2.1.mem z; omega
theorem frame_small {p : PlanD} {d : FrameD} (h : FrameR p d) (hd : d.Small 1048576) : p.ways.length ≤ 100 ∧ d.points.length ≤ 1048576 ∧ d.occ.length ≤ 1048576 := ⟨h.1.parts.1.2.2.1, hd.2.1, hd.1⟩
end Go.Proofs.YtdhinkgjiapigabGreatDoor

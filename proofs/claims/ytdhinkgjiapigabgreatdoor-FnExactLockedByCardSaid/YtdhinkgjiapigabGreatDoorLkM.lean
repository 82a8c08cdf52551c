import Derived.Test.YtdhinkgjiapigabGreatDoorSpec7
import Derived.Test.YtdhinkgjiapigabGreatDoorRanA
import Derived.Test.YtdhinkgjiapigabGreatDoorBase
namespace Go.Proofs.YtdhinkgjiapigabGreatDoor
open Classical

def keepsI (p : PlanD) (d : FrameD) (s : Int) (i : Nat) : Bool := match p.ways[i]?, d.ways[i]? with
  | some x, some h => (x.sections.drop h.gone.toNat).any (· == s)
  | _, _ => false
def holdsI (p : PlanD) (d : FrameD) (s : Int) (i : Nat) : Bool := match p.ways[i]?, d.ways[i]? with
  | some x, some h => holdsB x h s
  | _, _ => false
theorem keepsI_get {p : PlanD} {d : FrameD} {s : Int} {i : Nat} {x : WayD} {h : HeldD} (hx : p.ways[i]? = some x) (hh : d.ways[i]? = some h) : keepsI p d s i = (x.sections.drop h.gone.toNat).any (· == s) := by
  unfold keepsI; rw [hx, hh]
theorem holdsI_get {p : PlanD} {d : FrameD} {s : Int} {i : Nat} {x : WayD} {h : HeldD} (hx : p.ways[i]? = some x) (hh : d.ways[i]? = some h) : holdsI p d s i = holdsB x h s := by
  unfold holdsI; rw [hx, hh]
theorem holdsI_eq (p : PlanD) (d : FrameD) (s : Int) (i : Nat) : holdsI p d s i = (keepsI p d s i && heldB d.ways i) := by
  unfold holdsI keepsI heldB
  cases p.ways[i]? with
  | none => rfl
  | some x =>
    cases d.ways[i]? with
    | none => rfl
    | some h => show holdsB x h s = _; unfold holdsB; rw [Bool.and_comm]; rfl
/-- The first held way that has a section yet. -/
def lockD (p : PlanD) (d : FrameD) (s : Int) : Int := match (List.range p.ways.length).find? (holdsI p d s) with
  | some i => (i : Int)
  | none => -1
theorem lock_head (p : PlanD) (d : FrameD) (s : Int) (n : Nat) : ((heldIdx d.ways n).filter (keepsI p d s)).head? = (List.range n).find? (holdsI p d s) := by
  rw [List.head?_filter, heldIdx, List.find?_filter]
  congr 1
  funext i
  rw [holdsI_eq, Bool.and_comm]
  by_cases h1 : keepsI p d s i = true <;> by_cases h2 : heldB d.ways i = true <;> simp [h1, h2]
def lockedBy (p : PlanD) (d : FrameD) (s : Int) [Decidable (FrameR p d ∧ InR s 0 (p.sections - 1))] : Int := if FrameR p d ∧ InR s 0 (p.sections - 1) then lockD p d s else -1
theorem lockedBy_pos {p : PlanD} {d : FrameD} {s : Int} (h1 : FrameR p d) (h2 : InR s 0 (p.sections - 1)) : lockedBy p d s = lockD p d s := if_pos ⟨h1, h2⟩
theorem lockedBy_neg {p : PlanD} {d : FrameD} {s : Int} (h : ¬ (FrameR p d ∧ InR s 0 (p.sections - 1))) : lockedBy p d s = -1 := if_neg h
theorem frame_gone {p : PlanD} {d : FrameD} (h : FrameR p d) {i : Nat} {x : WayD} {g : HeldD} (hx : p.ways[i]? = some x) (hh : d.ways[i]? = some g) : 0 ≤ g.gone ∧ g.gone < x.sections.length := by
  have := (h.2.2.2.2.2.2.1 i (List.getElem?_eq_some_iff.1 hh).1 x g hx hh).1
  obtain ⟨a, b⟩ := this.2.2.1
  exact ⟨a, by omega⟩
end Go.Proofs.YtdhinkgjiapigabGreatDoor

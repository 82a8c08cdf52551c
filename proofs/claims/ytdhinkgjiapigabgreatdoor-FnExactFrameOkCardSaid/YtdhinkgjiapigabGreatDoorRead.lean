import Derived.Test.YtdhinkgjiapigabGreatDoorRows
import Derived.Test.YtdhinkgjiapigabGreatDoorImpl
import Derived.Test.YtdhinkgjiapigabGreatDoorOpen
import Derived.ChangeSame
import Derived.ChangeVars
import Derived.JoinedOf
import Derived.RowKit
import Derived.RowKitTokens
import Derived.LaidLaws
import Derived.LaidHandle
import Derived.Stop.Joined
import Derived.ProofKit
namespace Go.Proofs.YtdhinkgjiapigabGreatDoor
open Go.ChangeShapes Go.WideShapes Go.RowKit Go.Joins

theorem Tryz.cellsInt : Tryz.prog.cellsOf 3 = 1 := by kernel_rfl
theorem Tryz.cellsBool : Tryz.prog.cellsOf 4 = 1 := by kernel_rfl
theorem Tryz.cellsInts : Tryz.prog.cellsOf 22 = 1 := by kernel_rfl
theorem Tryz.cellsBools : Tryz.prog.cellsOf 27 = 1 := by kernel_rfl
theorem Tryz.cellsRows : Tryz.prog.cellsOf 24 = 1 := by kernel_rfl
theorem Tryz.cellsLies : Tryz.prog.cellsOf 151 = 1 := by kernel_rfl
theorem Tryz.cellsWays : Tryz.prog.cellsOf 23 = 1 := by kernel_rfl
theorem Tryz.cellsLie : Tryz.prog.cellsOf 243 = 2 := by kernel_rfl
theorem Tryz.cellsWay : Tryz.prog.cellsOf 153 = 5 := by kernel_rfl
theorem Tryz.cellsPlan : Tryz.prog.cellsOf 26 = 5 := by kernel_rfl
theorem Tryz.own : ownKnob Tryz.prog.godebug = none := by kernel_rfl
theorem Tryz.laidOut : laidOutB Tryz.prog = true := by kernel_rfl

section
variable {H : Type} {enc : TypeId × Value → H} {w : World} {base : Nat} {spare : Nat → Bool} {held : Bool}

theorem read_lies {fuel : Nat} {v : Value} {x : DataW H × List MemPlace} (h : DataW.trod enc Tryz.prog w base spare held fuel 151 [v] = some x) : ∃ l, l.length ≤ 9223372036854775807 ∧ Lies (In w) w v l := by
  obtain ⟨l, hl, hs⟩ := readk (R := fun cs (z : Int × Int) => cs = [.int .i64 z.1, .int .i64 z.2]) Tryz.underlying151 Tryz.cellsLie (by omega) h fun n cs y hcl hy => by
    obtain ⟨a, b, rfl⟩ := list2 hcl
    obtain ⟨m, y0, y1, h0, h1⟩ := fields2 Tryz.underlying243 hy ⟨rfl, rfl⟩ ⟨Tryz.cellsInt, Tryz.cellsInt⟩
    obtain ⟨z0, e0, -⟩ := DataW.trod_int Tryz.underlying3 h0
    obtain ⟨z1, e1, -⟩ := DataW.trod_int Tryz.underlying3 h1
    cases e0
    cases e1
    exact ⟨(z0, z1), rfl⟩
  refine ⟨l, hl, Sl.imp hs (fun _ h => h) fun b off i _ _ hE z hz => ?_⟩
  obtain ⟨cs, -, rfl, hc⟩ := hE z hz
  exact ⟨by simpa using hc 0 (by omega), by simpa using hc 1 (by omega)⟩
theorem read_ways {fuel : Nat} {v : Value} {x : DataW H × List MemPlace} (h : DataW.trod enc Tryz.prog w base spare held fuel 23 [v] = some x) : ∃ l, l.length ≤ 9223372036854775807 ∧ (∀ y ∈ l, WayD.Small 9223372036854775807 y) ∧ Ways (In w) w v l := by
  have hi : Inhabited WayD := ⟨⟨[], [], [], [], []⟩⟩
  obtain ⟨l, hl, hs⟩ := readk (R := fun cs (z : WayD) => z.Small 9223372036854775807 ∧ ∃ v0 v1 v2 v3 v4, cs = [v0, v1, v2, v3, v4] ∧ WayAt (In w) w v0 v1 v2 v3 v4 z) Tryz.underlying23 Tryz.cellsWay (by omega) h fun n cs y hcl hy => by
    obtain ⟨a, b, c, d, e, rfl⟩ := list5 hcl
    obtain ⟨m, y0, y1, y2, y3, y4, h0, h1, h2, h3, h4⟩ := fields5 Tryz.underlying153 hy ⟨rfl, rfl, rfl, rfl, rfl⟩ ⟨Tryz.cellsInts, Tryz.cellsLies, Tryz.cellsLies, Tryz.cellsInts, Tryz.cellsInts⟩
    obtain ⟨l0, s0, r0⟩ := read_ints Tryz.underlying22 Tryz.underlying3 Tryz.cellsInt h0
    obtain ⟨l1, s1, r1⟩ := read_lies h1
    obtain ⟨l2, s2, r2⟩ := read_lies h2
    obtain ⟨l3, s3, r3⟩ := read_ints Tryz.underlying22 Tryz.underlying3 Tryz.cellsInt h3
    obtain ⟨l4, s4, r4⟩ := read_ints Tryz.underlying22 Tryz.underlying3 Tryz.cellsInt h4
    exact ⟨⟨l0, l1, l2, l3, l4⟩, ⟨s0, s1, s2, s3, s4⟩, a, b, c, d, e, rfl, r0, r1, r2, r3, r4⟩
  refine ⟨l, hl, fun y hy => ?_, Sl.imp hs (fun _ h => h) fun b off i _ _ hE z hz => ?_⟩
  · obtain ⟨i, hi⟩ := List.getElem?_of_mem hy
    obtain ⟨a, cap, -, h0 | ⟨b, off, -, -, hE⟩⟩ := hs
    · rw [List.length_eq_zero_iff.1 h0] at hy; cases hy
    · obtain ⟨cs, -, hu, -⟩ := hE i (List.getElem?_eq_some_iff.1 hi).1 y hi
      exact hu.1
  · obtain ⟨cs, -, ⟨-, v0, v1, v2, v3, v4, rfl, hw⟩, hc⟩ := hE z hz
    exact ⟨v0, v1, v2, v3, v4, hw, by simpa using hc 0 (by omega), by simpa using hc 1 (by omega), by simpa using hc 2 (by omega), by simpa using hc 3 (by omega), by simpa using hc 4 (by omega)⟩
theorem read_plan {fuel : Nat} {a b c d e : Value} {x : DataW H × List MemPlace} (h : DataW.trod enc Tryz.prog w base spare held fuel 26 [a, b, c, d, e] = some x) :
    ∃ p : PlanD, a = .int .i64 p.sections ∧ e = .int .i64 p.hold ∧ p.Small 9223372036854775807 ∧ PlanAt (In w) w b c d p := by
  obtain ⟨m, y0, y1, y2, y3, y4, h0, h1, h2, h3, h4⟩ := fields5 Tryz.underlying26 h ⟨rfl, rfl, rfl, rfl, rfl⟩ ⟨Tryz.cellsInt, Tryz.cellsInts, Tryz.cellsWays, Tryz.cellsRows, Tryz.cellsInt⟩
  obtain ⟨z0, e0, -⟩ := DataW.trod_int Tryz.underlying3 h0
  obtain ⟨z4, e4, -⟩ := DataW.trod_int Tryz.underlying3 h4
  obtain ⟨l1, s1, r1⟩ := read_ints Tryz.underlying22 Tryz.underlying3 Tryz.cellsInt h1
  obtain ⟨l2, s2, t2, r2⟩ := read_ways h2
  obtain ⟨l3, s3, t3, r3⟩ := read_rows Tryz.underlying24 Tryz.underlying27 Tryz.underlying4 Tryz.cellsBools Tryz.cellsBool h3
  cases e0
  cases e4
  exact ⟨⟨z0, l1, l2, l3, z4⟩, rfl, rfl, ⟨s1, s2, t2, s3, t3⟩, r1, r2, r3⟩
end

/-! ### The listed variable -/
theorem Tryz.et : Tryz.prog.globalNamed "errors.errorType" = some 1 := by kernel_rfl
theorem Tryz.rt : (Tryz.prog.cutTypes.find? (·.1 == "internal/reflectlite.rtype")).map (·.2) = some 290 := by kernel_rfl
theorem Tryz.oneRow : ((List.range 353).filter fun t => Tryz.prog.rowNamed t [101, 114, 114, 111, 114]) = [142] := by kernel_rfl
theorem Tryz.size : Tryz.prog.types.size = 353 := by kernel_rfl
abbrev laidL : List (String × DataW Unit) := [("errors.errorType", Rows.laid_errors_errorType)]

theorem handle_of_laid {W : World} (h : laidMetH Tryz.prog laidL W) : W.cell? ⟨1, 0, none⟩ = some errT := by
  have h' : laidMet Tryz.prog [] W ∧ handlesMet Tryz.prog laidL W := h
  obtain ⟨name, u, ty, e1, e2, e3, e4, e5⟩ := h'.2 _ (List.mem_singleton.2 rfl)
  have en : name = [101, 114, 114, 111, 114] := (Option.some.inj e1).symm
  subst en
  obtain rfl := Option.some.inj (Tryz.rt.symm.trans e2)
  have hm : ty ∈ (List.range 353).filter fun t => Tryz.prog.rowNamed t [101, 114, 114, 111, 114] := List.mem_filter.2 ⟨List.mem_range.2 (by rw [← Tryz.size]; exact e3), e4⟩
  rw [Tryz.oneRow] at hm
  obtain rfl := List.mem_singleton.1 hm
  have hh : typeHandle Tryz.prog 142 = .pointer (some ⟨5, 142, none⟩) := by kernel_rfl
  rw [hh] at e5
  simpa using World.var?_cell Tryz.et e5 0

/-- The variable's cell laid. -/
def laidObj : Obj → Obj
  | .cells _ t frozen => .cells #[.iface 290 (.agg #[.pointer (some ⟨5, 142, none⟩)])] t frozen
  | o => o
/-- A world that meets the condition: the settled one, the variable's cell laid. -/
theorem laidWorld_met (os : Os) (args : Array Value) : laidMetH Tryz.prog laidL (({ World.holding Tryz.prog os ⟨#[], #[], []⟩ with heap := (World.holding Tryz.prog os ⟨#[], #[], []⟩).heap.modify 1 laidObj } : World).forCall (fun _ _ => 0) ⟨#[], args, []⟩).memory :=
  laidMetH_of_parts (laidMet_nil _ _) (by kernel_rfl)
end Go.Proofs.YtdhinkgjiapigabGreatDoor

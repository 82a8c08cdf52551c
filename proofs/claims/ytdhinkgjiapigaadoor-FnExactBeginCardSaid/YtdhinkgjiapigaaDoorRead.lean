import Derived.Test.YtdhinkgjiapigaaDoorRows
import Derived.Test.YtdhinkgjiapigaaDoorImpl
import Derived.Test.YtdhinkgjiapigaaDoorOpen
import Derived.ChangeSame
import Derived.ChangeVars
import Derived.JoinedOf
import Derived.RowKit
import Derived.RowKitTokens
import Derived.LaidLaws
import Derived.LaidHandle
import Derived.Stop.Joined
import Derived.ProofKit
namespace Go.Proofs.YtdhinkgjiapigaaDoor
open Go.ChangeShapes Go.WideShapes Go.RowKit Go.Joins

theorem Tryd.cellsInt : Tryd.prog.cellsOf 3 = 1 := by kernel_rfl
theorem Tryd.cellsBool : Tryd.prog.cellsOf 4 = 1 := by kernel_rfl
theorem Tryd.cellsInts : Tryd.prog.cellsOf 22 = 1 := by kernel_rfl
theorem Tryd.cellsBools : Tryd.prog.cellsOf 38 = 1 := by kernel_rfl
theorem Tryd.cellsRows : Tryd.prog.cellsOf 24 = 1 := by kernel_rfl
theorem Tryd.cellsLies : Tryd.prog.cellsOf 89 = 1 := by kernel_rfl
theorem Tryd.cellsWays : Tryd.prog.cellsOf 23 = 1 := by kernel_rfl
theorem Tryd.cellsLie : Tryd.prog.cellsOf 142 = 2 := by kernel_rfl
theorem Tryd.cellsWay : Tryd.prog.cellsOf 91 = 5 := by kernel_rfl
theorem Tryd.cellsPlan : Tryd.prog.cellsOf 26 = 5 := by kernel_rfl
theorem Tryd.own : ownKnob Tryd.prog.godebug = none := by kernel_rfl
theorem Tryd.laidOut : laidOutB Tryd.prog = true := by kernel_rfl

section
variable {H : Type} {enc : TypeId × Value → H} {w : World} {base : Nat} {spare : Nat → Bool} {held : Bool}

theorem read_lies {fuel : Nat} {v : Value} {x : DataW H × List MemPlace} (h : DataW.trod enc Tryd.prog w base spare held fuel 89 [v] = some x) : ∃ l, l.length ≤ 9223372036854775807 ∧ Lies (In w) w v l := by
  obtain ⟨l, hl, hs⟩ := readk (R := fun cs (z : Int × Int) => cs = [.int .i64 z.1, .int .i64 z.2]) Tryd.underlying89 Tryd.cellsLie (by omega) h fun n cs y hcl hy => by
    obtain ⟨a, b, rfl⟩ := list2 hcl
    obtain ⟨m, y0, y1, h0, h1⟩ := fields2 Tryd.underlying142 hy ⟨rfl, rfl⟩ ⟨Tryd.cellsInt, Tryd.cellsInt⟩
    obtain ⟨z0, e0, -⟩ := DataW.trod_int Tryd.underlying3 h0
    obtain ⟨z1, e1, -⟩ := DataW.trod_int Tryd.underlying3 h1
    cases e0
    cases e1
    exact ⟨(z0, z1), rfl⟩
  refine ⟨l, hl, Sl.imp hs (fun _ h => h) fun b off i _ _ hE z hz => ?_⟩
  obtain ⟨cs, -, rfl, hc⟩ := hE z hz
  exact ⟨by simpa using hc 0 (by omega), by simpa using hc 1 (by omega)⟩
theorem read_ways {fuel : Nat} {v : Value} {x : DataW H × List MemPlace} (h : DataW.trod enc Tryd.prog w base spare held fuel 23 [v] = some x) : ∃ l, l.length ≤ 9223372036854775807 ∧ (∀ y ∈ l, WayD.Small 9223372036854775807 y) ∧ Ways (In w) w v l := by
  have hi : Inhabited WayD := ⟨⟨[], [], [], [], []⟩⟩
  obtain ⟨l, hl, hs⟩ := readk (R := fun cs (z : WayD) => z.Small 9223372036854775807 ∧ ∃ v0 v1 v2 v3 v4, cs = [v0, v1, v2, v3, v4] ∧ WayAt (In w) w v0 v1 v2 v3 v4 z) Tryd.underlying23 Tryd.cellsWay (by omega) h fun n cs y hcl hy => by
    obtain ⟨a, b, c, d, e, rfl⟩ := list5 hcl
    obtain ⟨m, y0, y1, y2, y3, y4, h0, h1, h2, h3, h4⟩ := fields5 Tryd.underlying91 hy ⟨rfl, rfl, rfl, rfl, rfl⟩ ⟨Tryd.cellsInts, Tryd.cellsLies, Tryd.cellsLies, Tryd.cellsInts, Tryd.cellsInts⟩
    obtain ⟨l0, s0, r0⟩ := read_ints Tryd.underlying22 Tryd.underlying3 Tryd.cellsInt h0
    obtain ⟨l1, s1, r1⟩ := read_lies h1
    obtain ⟨l2, s2, r2⟩ := read_lies h2
    obtain ⟨l3, s3, r3⟩ := read_ints Tryd.underlying22 Tryd.underlying3 Tryd.cellsInt h3
    obtain ⟨l4, s4, r4⟩ := read_ints Tryd.underlying22 Tryd.underlying3 Tryd.cellsInt h4
    exact ⟨⟨l0, l1, l2, l3, l4⟩, ⟨s0, s1, s2, s3, s4⟩, a, b, c, d, e, rfl, r0, r1, r2, r3, r4⟩
  refine ⟨l, hl, fun y hy => ?_, Sl.imp hs (fun _ h => h) fun b off i _ _ hE z hz => ?_⟩
  · obtain ⟨i, hi⟩ := List.getElem?_of_mem hy
    obtain ⟨a, cap, -, h0 | ⟨b, off, -, -, hE⟩⟩ := hs
    · rw [List.length_eq_zero_iff.1 h0] at hy; cases hy
    · obtain ⟨cs, -, hu, -⟩ := hE i (List.getElem?_eq_some_iff.1 hi).1 y hi
      exact hu.1
  · obtain ⟨cs, -, ⟨-, v0, v1, v2, v3, v4, rfl, hw⟩, hc⟩ := hE z hz
    exact ⟨v0, v1, v2, v3, v4, hw, by simpa using hc 0 (by omega), by simpa using hc 1 (by omega), by simpa using hc 2 (by omega), by simpa using hc 3 (by omega), by simpa using hc 4 (by omega)⟩
theorem read_plan {fuel : Nat} {a b c d e : Value} {x : DataW H × List MemPlace} (h : DataW.trod enc Tryd.prog w base spare held fuel 26 [a, b, c, d, e] = some x) :
    ∃ p : PlanD, a = .int .i64 p.sections ∧ e = .int .i64 p.hold ∧ p.Small 9223372036854775807 ∧ PlanAt (In w) w b c d p := by
  obtain ⟨m, y0, y1, y2, y3, y4, h0, h1, h2, h3, h4⟩ := fields5 Tryd.underlying26 h ⟨rfl, rfl, rfl, rfl, rfl⟩ ⟨Tryd.cellsInt, Tryd.cellsInts, Tryd.cellsWays, Tryd.cellsRows, Tryd.cellsInt⟩
  obtain ⟨z0, e0, -⟩ := DataW.trod_int Tryd.underlying3 h0
  obtain ⟨z4, e4, -⟩ := DataW.trod_int Tryd.underlying3 h4
  obtain ⟨l1, s1, r1⟩ := read_ints Tryd.underlying22 Tryd.underlying3 Tryd.cellsInt h1
  obtain ⟨l2, s2, t2, r2⟩ := read_ways h2
  obtain ⟨l3, s3, t3, r3⟩ := read_rows Tryd.underlying24 Tryd.underlying38 Tryd.underlying4 Tryd.cellsBools Tryd.cellsBool h3
  cases e0
  cases e4
  exact ⟨⟨z0, l1, l2, l3, z4⟩, rfl, rfl, ⟨s1, s2, t2, s3, t3⟩, r1, r2, r3⟩
end

/-! ### The listed variable -/
theorem Tryd.et : Tryd.prog.globalNamed "errors.errorType" = some 0 := by kernel_rfl
theorem Tryd.rt : (Tryd.prog.cutTypes.find? (·.1 == "internal/reflectlite.rtype")).map (·.2) = some 121 := by kernel_rfl
theorem Tryd.oneRow : ((List.range 179).filter fun t => Tryd.prog.rowNamed t [101, 114, 114, 111, 114]) = [68] := by kernel_rfl
theorem Tryd.size : Tryd.prog.types.size = 179 := by kernel_rfl
abbrev laidL : List (String × DataW Unit) := [("errors.errorType", Rows.laid_errors_errorType)]

theorem handle_of_laid {W : World} (h : laidMetH Tryd.prog laidL W) : W.cell? ⟨0, 0, none⟩ = some errT := by
  have h' : laidMet Tryd.prog [] W ∧ handlesMet Tryd.prog laidL W := h
  obtain ⟨name, u, ty, e1, e2, e3, e4, e5⟩ := h'.2 _ (List.mem_singleton.2 rfl)
  have en : name = [101, 114, 114, 111, 114] := (Option.some.inj e1).symm
  subst en
  obtain rfl := Option.some.inj (Tryd.rt.symm.trans e2)
  have hm : ty ∈ (List.range 179).filter fun t => Tryd.prog.rowNamed t [101, 114, 114, 111, 114] := List.mem_filter.2 ⟨List.mem_range.2 (by rw [← Tryd.size]; exact e3), e4⟩
  rw [Tryd.oneRow] at hm
  obtain rfl := List.mem_singleton.1 hm
  have hh : typeHandle Tryd.prog 68 = .pointer (some ⟨1, 68, none⟩) := by kernel_rfl
  rw [hh] at e5
  simpa using World.var?_cell Tryd.et e5 0

/-- The variable's cell laid. -/
def laidObj : Obj → Obj
  | .cells _ t frozen => .cells #[.iface 121 (.agg #[.pointer (some ⟨1, 68, none⟩)])] t frozen
  | o => o
/-- A world that meets the condition: the settled one, the variable's cell laid. -/
theorem laidWorld_met (os : Os) (args : Array Value) : laidMetH Tryd.prog laidL (({ World.holding Tryd.prog os ⟨#[], #[], []⟩ with heap := (World.holding Tryd.prog os ⟨#[], #[], []⟩).heap.modify 0 laidObj } : World).forCall (fun _ _ => 0) ⟨#[], args, []⟩).memory :=
  laidMetH_of_parts (laidMet_nil _ _) (by kernel_rfl)
end Go.Proofs.YtdhinkgjiapigaaDoor

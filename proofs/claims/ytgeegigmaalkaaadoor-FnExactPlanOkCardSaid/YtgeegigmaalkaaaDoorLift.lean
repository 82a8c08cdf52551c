import Derived.Test.YtgeegigmaalkaaaDoorRows
import Derived.Test.YtgeegigmaalkaaaDoorLaw
import Derived.Test.YtgeegigmaalkaaaDoorOpen
import Derived.ChangeSame
import Derived.ChangeVars
import Derived.JoinedOf
import Derived.RowKit
import Derived.RowKitTokens
import Derived.LaidLaws
import Derived.LaidHandle
import Derived.Stop.Joined
import Derived.ProofKit
namespace Go.Proofs.YtgeegigmaalkaaaDoor
open Go.ChangeShapes Go.WideShapes Go.RowKit Go.Joins

theorem Tryd.cellsInt : Tryd.prog.cellsOf 3 = 1 := by kernel_rfl
theorem Tryd.cellsBool : Tryd.prog.cellsOf 4 = 1 := by kernel_rfl
theorem Tryd.cellsInts : Tryd.prog.cellsOf 22 = 1 := by kernel_rfl
theorem Tryd.cellsBools : Tryd.prog.cellsOf 46 = 1 := by kernel_rfl
theorem Tryd.cellsRows : Tryd.prog.cellsOf 24 = 1 := by kernel_rfl
theorem Tryd.cellsLies : Tryd.prog.cellsOf 60 = 1 := by kernel_rfl
theorem Tryd.cellsWays : Tryd.prog.cellsOf 23 = 1 := by kernel_rfl
theorem Tryd.cellsLie : Tryd.prog.cellsOf 111 = 2 := by kernel_rfl
theorem Tryd.cellsWay : Tryd.prog.cellsOf 62 = 5 := by kernel_rfl
theorem Tryd.cellsPlan : Tryd.prog.cellsOf 26 = 5 := by kernel_rfl
theorem Tryd.own : ownKnob Tryd.prog.godebug = none := by kernel_rfl
theorem Tryd.laidOut : laidOutB Tryd.prog = true := by kernel_rfl

section
variable {H : Type} {enc : TypeId × Value → H} {w : World} {base : Nat} {spare : Nat → Bool} {held : Bool}

theorem read_lies {fuel : Nat} {v : Value} {x : DataW H × List MemPlace} (h : DataW.trod enc Tryd.prog w base spare held fuel 60 [v] = some x) : ∃ l, l.length ≤ 9223372036854775807 ∧ Lies (In w) w v l := by
  obtain ⟨l, hl, hs⟩ := readk (R := fun cs (z : Int × Int) => cs = [.int .i64 z.1, .int .i64 z.2]) Tryd.underlying60 Tryd.cellsLie (by omega) h fun n cs y hcl hy => by
    obtain ⟨a, b, rfl⟩ := list2 hcl
    obtain ⟨m, y0, y1, h0, h1⟩ := fields2 Tryd.underlying111 hy ⟨rfl, rfl⟩ ⟨Tryd.cellsInt, Tryd.cellsInt⟩
    obtain ⟨z0, e0, -⟩ := DataW.trod_int Tryd.underlying3 h0
    obtain ⟨z1, e1, -⟩ := DataW.trod_int Tryd.underlying3 h1
    cases e0
    cases e1
    exact ⟨(z0, z1), rfl⟩
  refine ⟨l, hl, Sl.imp hs (fun _ h => h) fun b off i _ _ hE z hz => ?_⟩
  obtain ⟨cs, -, rfl, hc⟩ := hE z hz
  exact ⟨by simpa using hc 0 (by omega), by simpa using hc 1 (by omega)⟩
theorem read_ways {fuel : Nat} {v : Value} {x : DataW H × List MemPlace} (h : DataW.trod enc Tryd.prog w base spare held fuel 23 [v] = some x) : ∃ l, l.length ≤ 9223372036854775807 ∧ (∀ y ∈ l, WayD.Small 9223372036854775807 y) ∧ Ways (In w) w v l := by
  have hi : Inhabited WayD := ⟨⟨[], [], [], [], []⟩⟩
  obtain ⟨l, hl, hs⟩ := readk (R := fun cs (z : WayD) => z.Small 9223372036854775807 ∧ ∃ v0 v1 v2 v3 v4, cs = [v0, v1, v2, v3, v4] ∧ WayAt (In w) w v0 v1 v2 v3 v4 z) Tryd.underlying23 Tryd.cellsWay (by omega) h fun n cs y hcl hy => by
    obtain ⟨a, b, c, d, e, rfl⟩ := list5 hcl
    obtain ⟨m, y0, y1, y2, y3, y4, h0, h1, h2, h3, h4⟩ := fields5 Tryd.underlying62 hy ⟨rfl, rfl, rfl, rfl, rfl⟩ ⟨Tryd.cellsInts, Tryd.cellsLies, Tryd.cellsLies, Tryd.cellsInts, Tryd.cellsInts⟩
    obtain ⟨l0, s0, r0⟩ := read_ints Tryd.underlying22 Tryd.underlying3 Tryd.cellsInt h0
    obtain ⟨l1, s1, r1⟩ := read_lies h1
    obtain ⟨l2, s2, r2⟩ := read_lies h2
    obtain ⟨l3, s3, r3⟩ := read_ints Tryd.underlying22 Tryd.underlying3 Tryd.cellsInt h3
    obtain ⟨l4, s4, r4⟩ := read_ints Tryd.underlying22 Tryd.underlying3 Tryd.cellsInt h4
    exact ⟨⟨l0, l1, l2, l3, l4⟩, ⟨s0, s1, s2, s3, s4⟩, a, b, c, d, e, rfl, r0, r1, r2, r3, r4⟩
  refine ⟨l, hl, fun y hy => ?_, Sl.imp hs (fun _ h => h) fun b off i _ _ hE z hz => ?_⟩
  · obtain ⟨i, hi⟩ := List.getElem?_of_mem hy
    obtain ⟨a, cap, -, h0 | ⟨b, off, -, -, hE⟩⟩ := hs
    · rw [List.length_eq_zero_iff.1 h0] at hy; cases hy
    · obtain ⟨cs, -, hu, -⟩ := hE i (List.getElem?_eq_some_iff.1 hi).1 y hi
      exact hu.1
  · obtain ⟨cs, -, ⟨-, v0, v1, v2, v3, v4, rfl, hw⟩, hc⟩ := hE z hz
    exact ⟨v0, v1, v2, v3, v4, hw, by simpa using hc 0 (by omega), by simpa using hc 1 (by omega), by simpa using hc 2 (by omega), by simpa using hc 3 (by omega), by simpa using hc 4 (by omega)⟩
theorem read_plan {fuel : Nat} {a b c d e : Value} {x : DataW H × List MemPlace} (h : DataW.trod enc Tryd.prog w base spare held fuel 26 [a, b, c, d, e] = some x) :
    ∃ p : PlanD, a = .int .i64 p.sections ∧ e = .int .i64 p.hold ∧ p.Small 9223372036854775807 ∧ PlanAt (In w) w b c d p := by
  obtain ⟨m, y0, y1, y2, y3, y4, h0, h1, h2, h3, h4⟩ := fields5 Tryd.underlying26 h ⟨rfl, rfl, rfl, rfl, rfl⟩ ⟨Tryd.cellsInt, Tryd.cellsInts, Tryd.cellsWays, Tryd.cellsRows, Tryd.cellsInt⟩
  obtain ⟨z0, e0, -⟩ := DataW.trod_int Tryd.underlying3 h0
  obtain ⟨z4, e4, -⟩ := DataW.trod_int Tryd.underlying3 h4
  obtain ⟨l1, s1, r1⟩ := read_ints Tryd.underlying22 Tryd.underlying3 Tryd.cellsInt h1
  obtain ⟨l2, s2, t2, r2⟩ := read_ways h2
  obtain ⟨l3, s3, t3, r3⟩ := read_rows Tryd.underlying24 Tryd.underlying46 Tryd.underlying4 Tryd.cellsBools Tryd.cellsBool h3
  cases e0
  cases e4
  exact ⟨⟨z0, l1, l2, l3, z4⟩, rfl, rfl, ⟨s1, s2, t2, s3, t3⟩, r1, r2, r3⟩
end

/-! ### The listed variable -/
theorem Tryd.et : Tryd.prog.globalNamed "errors.errorType" = some 0 := by kernel_rfl
theorem Tryd.rt : (Tryd.prog.cutTypes.find? (·.1 == "internal/reflectlite.rtype")).map (·.2) = some 89 := by kernel_rfl
theorem Tryd.oneRow : ((List.range 149).filter fun t => Tryd.prog.rowNamed t [101, 114, 114, 111, 114]) = [54] := by kernel_rfl
theorem Tryd.size : Tryd.prog.types.size = 149 := by kernel_rfl
abbrev laidL : List (String × DataW Unit) := [("errors.errorType", Rows.laid_errors_errorType)]

theorem handle_of_laid {W : World} (h : laidMetH Tryd.prog laidL W) : W.cell? ⟨0, 0, none⟩ = some errT := by
  have h' : laidMet Tryd.prog [] W ∧ handlesMet Tryd.prog laidL W := h
  obtain ⟨name, u, ty, e1, e2, e3, e4, e5⟩ := h'.2 _ (List.mem_singleton.2 rfl)
  have en : name = [101, 114, 114, 111, 114] := (Option.some.inj e1).symm
  subst en
  obtain rfl := Option.some.inj (Tryd.rt.symm.trans e2)
  have hm : ty ∈ (List.range 149).filter fun t => Tryd.prog.rowNamed t [101, 114, 114, 111, 114] := List.mem_filter.2 ⟨List.mem_range.2 (by rw [← Tryd.size]; exact e3), e4⟩
  rw [Tryd.oneRow] at hm
  obtain rfl := List.mem_singleton.1 hm
  have hh : typeHandle Tryd.prog 54 = .pointer (some ⟨1, 54, none⟩) := by kernel_rfl
  rw [hh] at e5
  simpa using World.var?_cell Tryd.et e5 0

/-- The variable's cell laid. -/
def laidObj : Obj → Obj
  | .cells _ t frozen => .cells #[.iface 89 (.agg #[.pointer (some ⟨1, 54, none⟩)])] t frozen
  | o => o
/-- A world that meets the condition: the settled one, the variable's cell laid. -/
theorem laidWorld_met (os : Os) (args : Array Value) : laidMetH Tryd.prog laidL (({ World.holding Tryd.prog os ⟨#[], #[], []⟩ with heap := (World.holding Tryd.prog os ⟨#[], #[], []⟩).heap.modify 0 laidObj } : World).forCall (fun _ _ => 0) ⟨#[], args, []⟩).memory :=
  laidMetH_of_parts (laidMet_nil _ _) (by kernel_rfl)

set_option maxRecDepth 100000 in
theorem law_lifted (os : Os) (started : os.Started) (H : Type) (enc : TypeId × Value → H) :
    ReturnsInHanded {} Tryd.checked os 3 .any (fun w args => (Rows.fnExactPlanOkSpec.pre enc Tryd.prog Tryd.f3 [] false w args ∧ laidMetH Tryd.prog laidL w) ∧ sizedMet enc Tryd.prog Tryd.f3 (OpenSpec.ofChange Rows.fnExactPlanOkSpec) false w args)
      (Rows.fnExactPlanOkSpec.post enc Tryd.prog Tryd.f3 false true false false) := by
  refine returnsInHanded_of_change_and (C := Tryd.checked) (X := fun w _ => laidMetH Tryd.prog laidL w) (fun _ _ _ hh h => h.of_heap hh) Tryd.own started (by kernel_rfl) Tryd.func3
    (ChangeSpec.witness_at (enc := enc) (C := Tryd.checked) (os := os) (X := fun w _ => laidMetH Tryd.prog laidL w) false { World.holding Tryd.prog os ⟨#[], #[], []⟩ with heap := (World.holding Tryd.prog os ⟨#[], #[], []⟩).heap.modify 0 laidObj } #[.agg #[.int .i64 0, .slice none 0 0, .slice none 0 0, .slice none 0 0, .int .i64 0]] 8 rfl (by kernel_rfl) (by kernel_rfl) (by kernel_rfl) (by kernel_rfl) (by kernel_rfl) (laidWorld_met os _)) ?_
  intro W base args ds gs before hval0 hW _ _ hL _
  have hval : ∀ (j : Nat) t v, Tryd.f3.params[j]? = some t → args[j]? = some v → Value.okWide Tryd.prog W .any base t v := hval0
  have hW' := hW
  obtain ⟨p, q, hA0, hV0, rfl, hfz, hnd⟩ := hW
  have hA : DataW.TrodAll enc Tryd.prog W 0 (fun _ => true) true Tryd.f3.params.toList args.toList ds p := hA0
  have hV : DataW.TrodVars enc Tryd.prog W (fun _ => true) [] gs q := hV0
  rw [Tryd.params3] at hA hval
  obtain ⟨v0, d0, rfl, rfl, h0⟩ := trodAll_one hA
  obtain ⟨rfl, rfl⟩ := trodVars_none hV
  obtain ⟨cs, rfl, hsz⟩ := okWide_struct Tryd.underlying26 (hval 0 26 v0 rfl rfl)
  have h0k := h0
  obtain ⟨fuel, hf⟩ := h0
  obtain ⟨a, b, c, d, e, hcs⟩ := list5 (show cs.toList.length = 5 by rw [Array.length_toList, hsz, Tryd.cellsPlan])
  have hcs' : cs = #[a, b, c, d, e] := by rw [← Array.toArray_toList (xs := cs), hcs]
  subst hcs'
  obtain ⟨pl, rfl, rfl, hsm, hpl⟩ := read_plan (show DataW.trod enc Tryd.prog W 0 (fun _ => true) true fuel 26 [a, b, c, d, e] = some (d0, p) from hf)
  have hg := handle_of_laid hL
  clear hA0 hval0
  simp only [List.append_nil] at hW'
  have hlt : ∀ x ∈ p, x.block < W.heap.size := fun x hx => by simpa using hW'.lt x hx
  have e1 : Rows.fnExactPlanOkSpec.fn H ([d0] ++ []) = { results := [.lit (.bool true)], args := [d0] } := by simp [Rows.fnExactPlanOkSpec]
  refine (law_any b c d pl W hpl hsm hg).mono fun e W' ⟨he, hb⟩ => ?_
  subst he
  refine ⟨_, rfl, _, _, _, [], p, [], hW', ?_, ?_, ?_, hb.frame _, fun h => by cases h⟩
  · rw [e1]; exact trodAll_mk1 (shut_bool Tryd.underlying4 true)
  · rw [e1]; exact trodAll_mk1 (Below.trod Tryd.laidOut (by kernel_rfl) (of_decide_eq_true (by kernel_rfl)) h0k hb hlt)
  · rw [e1]; rfl

theorem law_holds : Rows.FnExactPlanOkSaid :=
  OpenClaim.holds_of_wide 3 Tryd.f3 rfl rfl rfl rfl rfl rfl rfl ⟨rfl, rfl, rfl, rfl, rfl⟩ rfl rfl rfl rfl rfl (by kernel_rfl) Tryd.func3 (by kernel_rfl)
    (of_decide_eq_true (by kernel_rfl)) (by unfold Func.isWrapper; rw [if_neg (of_decide_eq_false (by kernel_rfl))]; exact ⟨rfl, rfl⟩)
    (fun os started H enc _ => law_lifted os started H enc)
end Go.Proofs.YtgeegigmaalkaaaDoor

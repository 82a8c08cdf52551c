import Derived.Test.YtdhinkgjiapigaaDoorRead
import Derived.Test.YtdhinkgjiapigaaDoorLawE
namespace Go.Proofs.YtdhinkgjiapigaaDoor
open Go.ChangeShapes Go.WideShapes Go.RowKit Go.Joins

theorem Tryd.cellsEvent : Tryd.prog.cellsOf 48 = 3 := by kernel_rfl
theorem list3 {l : List Value} (h : l.length = 3) : ∃ a b c, l = [a, b, c] := by
  match l, h with
  | [a, b, c], _ => exact ⟨a, b, c, rfl⟩
section
variable {H : Type} {enc : TypeId × Value → H} {w : World} {base : Nat} {spare : Nat → Bool} {held : Bool}
theorem read_event {fuel : Nat} {a b c : Value} {x : DataW H × List MemPlace} (h : DataW.trod enc Tryd.prog w base spare held fuel 48 [a, b, c] = some x) : ∃ op of lie : Int, a = .int .i64 op ∧ b = .int .i64 of ∧ c = .int .i64 lie := by
  obtain ⟨xs, n, -, -, -, hlen, hf⟩ := DataW.trod_struct Tryd.underlying48 h
  have hl : xs.length = 3 := hlen
  have h0 := hf 0 _ rfl
  have h1 := hf 1 _ rfl
  have h2 := hf 2 _ rfl
  rw [List.getElem?_eq_getElem (by omega)] at h0 h1 h2
  obtain ⟨z0, e0, -⟩ := DataW.trod_int Tryd.underlying3 (show DataW.trod enc Tryd.prog w base spare held n 3 ([a, b, c].drop 0 |>.take (Tryd.prog.cellsOf 3)) = _ from h0)
  obtain ⟨z1, e1, -⟩ := DataW.trod_int Tryd.underlying3 (show DataW.trod enc Tryd.prog w base spare held n 3 ([a, b, c].drop 1 |>.take (Tryd.prog.cellsOf 3)) = _ from h1)
  obtain ⟨z2, e2, -⟩ := DataW.trod_int Tryd.underlying3 (show DataW.trod enc Tryd.prog w base spare held n 3 ([a, b, c].drop 2 |>.take (Tryd.prog.cellsOf 3)) = _ from h2)
  rw [Tryd.cellsInt] at e0 e1 e2
  cases e0
  cases e1
  cases e2
  exact ⟨z0, z1, z2, rfl, rfl, rfl⟩
end

set_option maxRecDepth 100000 in
theorem lawE_lifted (os : Os) (started : os.Started) (H : Type) (enc : TypeId × Value → H) :
    ReturnsInHanded {} Tryd.checked os 5 .any (fun w args => (Rows.fnExactEventOkSpec.pre enc Tryd.prog Tryd.f5 [] false w args ∧ laidMetH Tryd.prog laidL w) ∧ sizedMet enc Tryd.prog Tryd.f5 (OpenSpec.ofChange Rows.fnExactEventOkSpec) false w args)
      (Rows.fnExactEventOkSpec.post enc Tryd.prog Tryd.f5 false true false false) := by
  refine returnsInHanded_of_change_and (C := Tryd.checked) (X := fun w _ => laidMetH Tryd.prog laidL w) (fun _ _ _ hh h => h.of_heap hh) Tryd.own started (by kernel_rfl) Tryd.func5
    (ChangeSpec.witness_at (enc := enc) (C := Tryd.checked) (os := os) (X := fun w _ => laidMetH Tryd.prog laidL w) false { World.holding Tryd.prog os ⟨#[], #[], []⟩ with heap := (World.holding Tryd.prog os ⟨#[], #[], []⟩).heap.modify 0 laidObj } #[.agg #[.int .i64 0, .slice none 0 0, .slice none 0 0, .slice none 0 0, .int .i64 0], .agg #[.int .i64 0, .int .i64 0, .int .i64 0]] 8 rfl (by kernel_rfl) (by kernel_rfl) (by kernel_rfl) (by kernel_rfl) (by kernel_rfl) (laidWorld_met os _)) ?_
  intro W base args ds gs before hval0 hW _ _ hL _
  have hval : ∀ (j : Nat) t v, Tryd.f5.params[j]? = some t → args[j]? = some v → Value.okWide Tryd.prog W .any base t v := hval0
  have hW' := hW
  obtain ⟨p, q, hA0, hV0, rfl, hfz, hnd⟩ := hW
  have hA : DataW.TrodAll enc Tryd.prog W 0 (fun _ => true) true Tryd.f5.params.toList args.toList ds p := hA0
  have hV : DataW.TrodVars enc Tryd.prog W (fun _ => true) [] gs q := hV0
  rw [Tryd.params5] at hA hval
  obtain ⟨v0, v1, d0, d1, p0, p1, rfl, rfl, rfl, h0, h1⟩ := trodAll_two hA
  obtain ⟨rfl, rfl⟩ := trodVars_none hV
  obtain ⟨cs, rfl, hsz⟩ := okWide_struct Tryd.underlying26 (hval 0 26 v0 rfl rfl)
  obtain ⟨cs1, rfl, hsz1⟩ := okWide_struct Tryd.underlying48 (hval 1 48 v1 rfl rfl)
  have h0k := h0
  have h1k := h1
  obtain ⟨fuel, hf⟩ := h0
  obtain ⟨fuel1, hf1⟩ := h1
  obtain ⟨e0, e1, e2, hcs1⟩ := list3 (show cs1.toList.length = 3 by rw [Array.length_toList, hsz1, Tryd.cellsEvent])
  have hcs1' : cs1 = #[e0, e1, e2] := by rw [← Array.toArray_toList (xs := cs1), hcs1]
  subst hcs1'
  obtain ⟨a, b, c, d, e, hcs⟩ := list5 (show cs.toList.length = 5 by rw [Array.length_toList, hsz, Tryd.cellsPlan])
  have hcs' : cs = #[a, b, c, d, e] := by rw [← Array.toArray_toList (xs := cs), hcs]
  subst hcs'
  obtain ⟨pl, rfl, rfl, hsm, hpl⟩ := read_plan (show DataW.trod enc Tryd.prog W 0 (fun _ => true) true fuel 26 [a, b, c, d, e] = some (d0, p0) from hf)
  obtain ⟨op, of, lie, rfl, rfl, rfl⟩ := read_event (show DataW.trod enc Tryd.prog W 0 (fun _ => true) true fuel1 48 [e0, e1, e2] = some (d1, p1) from hf1)
  have hg := handle_of_laid hL
  clear hA0 hval0
  simp only [List.append_nil] at hW'
  have hlt : ∀ x ∈ p0 ++ p1, x.block < W.heap.size := fun x hx => by simpa using hW'.lt x hx
  have e1 : Rows.fnExactEventOkSpec.fn H ([d0, d1] ++ []) = { results := [.lit (.bool true)], args := [d0, d1] } := by simp [Rows.fnExactEventOkSpec]
  refine (lawE_any b c d pl op of lie W hpl hsm hg).mono fun e W' ⟨he, hb⟩ => ?_
  subst he
  refine ⟨_, rfl, _, _, _, [], p0 ++ p1, [], hW', ?_, ?_, ?_, hb.frame _, fun h => by cases h⟩
  · rw [e1]; exact trodAll_mk1 (shut_bool Tryd.underlying4 true)
  · rw [e1]; exact trodAll_mk2 (Below.trod Tryd.laidOut (by kernel_rfl) (of_decide_eq_true (by kernel_rfl)) h0k hb fun x hx => hlt x (List.mem_append_left _ hx)) (Below.trod Tryd.laidOut (by kernel_rfl) (of_decide_eq_true (by kernel_rfl)) h1k hb fun x hx => hlt x (List.mem_append_right _ hx))
  · rw [e1]; rfl

theorem lawE_holds : Rows.FnExactEventOkSaid :=
  OpenClaim.holds_of_wide 5 Tryd.f5 rfl rfl rfl rfl rfl rfl rfl ⟨rfl, rfl, rfl, rfl, rfl⟩ rfl rfl rfl rfl rfl (by kernel_rfl) Tryd.func5 (by kernel_rfl)
    (of_decide_eq_true (by kernel_rfl)) (by unfold Func.isWrapper; rw [if_neg (of_decide_eq_false (by kernel_rfl))]; exact ⟨rfl, rfl⟩)
    (fun os started H enc _ => lawE_lifted os started H enc)
end Go.Proofs.YtdhinkgjiapigaaDoor

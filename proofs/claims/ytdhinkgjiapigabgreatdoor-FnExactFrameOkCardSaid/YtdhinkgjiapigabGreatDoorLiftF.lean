import Derived.Test.YtdhinkgjiapigabGreatDoorReadF
import Derived.Test.YtdhinkgjiapigabGreatDoorLawF
import Derived.Test.YtdhinkgjiapigabGreatDoorJfF
namespace Go.Proofs.YtdhinkgjiapigabGreatDoor
open Go.ChangeShapes Go.WideShapes Go.RowKit Go.Joins

set_option maxRecDepth 100000 in
theorem lawF_lifted (os : Os) (started : os.Started) (H : Type) (enc : TypeId × Value → H) :
    ReturnsInHanded {} Tryz.checked os 3 .any (fun w args => (Rows.fnExactFrameOkSpec.pre enc Tryz.prog Tryz.f3 [] false w args ∧ laidMetH Tryz.prog laidL w) ∧ sizedMet enc Tryz.prog Tryz.f3 (OpenSpec.ofChange Rows.fnExactFrameOkSpec) false w args)
      (Rows.fnExactFrameOkSpec.post enc Tryz.prog Tryz.f3 false true false false) := by
  refine returnsInHanded_of_change_and (C := Tryz.checked) (X := fun w _ => laidMetH Tryz.prog laidL w) (fun _ _ _ hh h => h.of_heap hh) Tryz.own started (by kernel_rfl) Tryz.func3
    (ChangeSpec.witness_at (enc := enc) (C := Tryz.checked) (os := os) (X := fun w _ => laidMetH Tryz.prog laidL w) false { World.holding Tryz.prog os ⟨#[], #[], []⟩ with heap := (World.holding Tryz.prog os ⟨#[], #[], []⟩).heap.modify 1 laidObj } #[.agg #[.int .i64 0, .slice none 0 0, .slice none 0 0, .slice none 0 0, .int .i64 0], .agg #[.bool false, .slice none 0 0, .slice none 0 0, .slice none 0 0]] 8 rfl (by kernel_rfl) (by kernel_rfl) (by kernel_rfl) (by kernel_rfl) (by kernel_rfl) (laidWorld_met os _)) ?_
  intro W base args ds gs before hval0 hW _ _ hL _
  have hval : ∀ (j : Nat) t v, Tryz.f3.params[j]? = some t → args[j]? = some v → Value.okWide Tryz.prog W .any base t v := hval0
  have hW' := hW
  obtain ⟨p, q, hA0, hV0, rfl, hfz, hnd⟩ := hW
  have hA : DataW.TrodAll enc Tryz.prog W 0 (fun _ => true) true Tryz.f3.params.toList args.toList ds p := hA0
  have hV : DataW.TrodVars enc Tryz.prog W (fun _ => true) [] gs q := hV0
  rw [Tryz.params3] at hA hval
  obtain ⟨v0, v1, d0, d1, p0, p1, rfl, rfl, rfl, h0, h1⟩ := trodAll_two hA
  obtain ⟨rfl, rfl⟩ := trodVars_none hV
  obtain ⟨cs, rfl, hsz⟩ := okWide_struct Tryz.underlying26 (hval 0 26 v0 rfl rfl)
  obtain ⟨cs1, rfl, hsz1⟩ := okWide_struct Tryz.underlying31 (hval 1 31 v1 rfl rfl)
  have h0k := h0
  have h1k := h1
  obtain ⟨fuel, hf⟩ := h0
  obtain ⟨fuel1, hf1⟩ := h1
  obtain ⟨e0, e1, e2, e3, hcs1⟩ := list4 (show cs1.toList.length = 4 by rw [Array.length_toList, hsz1, Tryz.cellsFrame])
  have hcs1' : cs1 = #[e0, e1, e2, e3] := by rw [← Array.toArray_toList (xs := cs1), hcs1]
  subst hcs1'
  obtain ⟨a, b, c, d, e, hcs⟩ := list5 (show cs.toList.length = 5 by rw [Array.length_toList, hsz, Tryz.cellsPlan])
  have hcs' : cs = #[a, b, c, d, e] := by rw [← Array.toArray_toList (xs := cs), hcs]
  subst hcs'
  obtain ⟨pl, rfl, rfl, hsm, hpl⟩ := read_plan (show DataW.trod enc Tryz.prog W 0 (fun _ => true) true fuel 26 [a, b, c, d, e] = some (d0, p0) from hf)
  obtain ⟨fr, rfl, hfs, hfr⟩ := read_frame (show DataW.trod enc Tryz.prog W 0 (fun _ => true) true fuel1 31 [e0, e1, e2, e3] = some (d1, p1) from hf1)
  have hg := handle_of_laid hL
  clear hA0 hval0
  simp only [List.append_nil] at hW'
  have hlt : ∀ x ∈ p0 ++ p1, x.block < W.heap.size := fun x hx => by simpa using hW'.lt x hx
  have er : Rows.fnExactFrameOkSpec.fn H ([d0, d1] ++ []) = { results := [.lit (.bool true)], args := [d0, d1] } := by simp [Rows.fnExactFrameOkSpec]
  refine (lawF_any b c d e1 e2 e3 pl fr W hpl hfr hsm hfs hg).mono fun e W' ⟨he, hb⟩ => ?_
  subst he
  refine ⟨_, rfl, _, _, _, [], p0 ++ p1, [], hW', ?_, ?_, ?_, hb.frame _, fun h => by cases h⟩
  · rw [er]; exact trodAll_mk1 (shut_bool Tryz.underlying4 true)
  · rw [er]; exact trodAll_mk2 (Below.trod Tryz.laidOut (by kernel_rfl) (of_decide_eq_true (by kernel_rfl)) h0k hb fun x hx => hlt x (List.mem_append_left _ hx)) (Below.trod Tryz.laidOut (by kernel_rfl) (of_decide_eq_true (by kernel_rfl)) h1k hb fun x hx => hlt x (List.mem_append_right _ hx))
  · rw [er]; rfl

set_option maxRecDepth 100000 in
theorem Tryz.jfF : joinedFacts Tryz.prog 3 Tryz.f3 Rows.fnExactFrameOkSpec Rows.fnExactFrameOkRow = true := by
  unfold joinedFacts
  exact (jf_and (jf_and (jf_and (jf_and (jf_and (jf_and (jf_and (jf_and (jf_and (jf_and (jf_and (jf_and (jf_and (jf_and (jf_and (jf_and (jf_and (jf_and (jf_and (jf_and (jf_and (jf_and (jf_and (jf_and (jf_and (jf_and (jf_and (jf_and (jf_and (jf_and (jf_and Tryz.jfF_0 Tryz.jf_laidOut) Tryz.jf_mapsRowed) Tryz.jfF_3) Tryz.jfF_4) Tryz.jfF_5) Tryz.jf_stops) Tryz.jfF_7) Tryz.jf_stopKnobs) Tryz.jfF_9) Tryz.jfF_10) Tryz.jfF_11) Tryz.jfF_12) Tryz.jfF_13) Tryz.jfF_14) Tryz.jfF_15) Tryz.jfF_16) Tryz.jfF_17) Tryz.jfF_18) Tryz.jfF_19) Tryz.jfF_20) Tryz.jfF_21) Tryz.jfF_22) Tryz.jfF_23) Tryz.jf_heard) Tryz.jf_mayEnter) Tryz.jfF_26) Tryz.jfF_27) Tryz.jfF_28) Tryz.jfF_29) Tryz.jfF_30) Tryz.jfF_31)

theorem lawF_holds : Rows.FnExactFrameOkSaid :=
  OpenClaim.holds_of_wide 3 Tryz.f3 rfl rfl rfl rfl rfl rfl rfl ⟨rfl, rfl, rfl, rfl, rfl⟩ rfl rfl rfl rfl rfl (by kernel_rfl) Tryz.func3 Tryz.jfF
    (of_decide_eq_true (by kernel_rfl)) (by unfold Func.isWrapper; rw [if_neg (of_decide_eq_false (by kernel_rfl))]; exact ⟨rfl, rfl⟩)
    (fun os started H enc _ => lawF_lifted os started H enc)
end Go.Proofs.YtdhinkgjiapigabGreatDoor

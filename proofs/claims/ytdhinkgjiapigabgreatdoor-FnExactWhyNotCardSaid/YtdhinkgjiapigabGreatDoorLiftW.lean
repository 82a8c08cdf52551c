import Derived.Test.YtdhinkgjiapigabGreatDoorReadF
import Derived.Test.YtdhinkgjiapigabGreatDoorLawW
import Derived.Test.YtdhinkgjiapigabGreatDoorJfW
namespace Go.Proofs.YtdhinkgjiapigabGreatDoor
open Go.ChangeShapes Go.WideShapes Go.RowKit Go.Joins

set_option maxRecDepth 100000 in
theorem lawW_lifted (os : Os) (started : os.Started) (H : Type) (enc : TypeId × Value → H) :
    ReturnsInHanded {} Tryz.checked os 9 .any (fun w args => (Rows.fnExactWhyNotSpec.pre enc Tryz.prog Tryz.f9 [] false w args ∧ laidMetH Tryz.prog laidL w) ∧ sizedMet enc Tryz.prog Tryz.f9 (OpenSpec.ofChange Rows.fnExactWhyNotSpec) false w args)
      (Rows.fnExactWhyNotSpec.post enc Tryz.prog Tryz.f9 false true false false) := by
  refine returnsInHanded_of_change_and (C := Tryz.checked) (X := fun w _ => laidMetH Tryz.prog laidL w) (fun _ _ _ hh h => h.of_heap hh) Tryz.own started (by kernel_rfl) Tryz.func9
    (ChangeSpec.witness_at (enc := enc) (C := Tryz.checked) (os := os) (X := fun w _ => laidMetH Tryz.prog laidL w) false { World.holding Tryz.prog os ⟨#[], #[], []⟩ with heap := (World.holding Tryz.prog os ⟨#[], #[], []⟩).heap.modify 1 laidObj } #[.agg #[.int .i64 0, .slice none 0 0, .slice none 0 0, .slice none 0 0, .int .i64 0], .agg #[.bool false, .slice none 0 0, .slice none 0 0, .slice none 0 0], .int .i64 0] 8 rfl (by kernel_rfl) (by kernel_rfl) (by kernel_rfl) (by kernel_rfl) (by kernel_rfl) (laidWorld_met os _)) ?_
  intro W base args ds gs before hval0 hW _ _ hL _
  have hval : ∀ (j : Nat) t v, Tryz.f9.params[j]? = some t → args[j]? = some v → Value.okWide Tryz.prog W .any base t v := hval0
  have hW' := hW
  obtain ⟨p, q, hA0, hV0, rfl, hfz, hnd⟩ := hW
  have hA : DataW.TrodAll enc Tryz.prog W 0 (fun _ => true) true Tryz.f9.params.toList args.toList ds p := hA0
  have hV : DataW.TrodVars enc Tryz.prog W (fun _ => true) [] gs q := hV0
  rw [Tryz.params9] at hA hval
  obtain ⟨v0, v1, v2, d0, d1, d2, p0, p1, p2, rfl, rfl, rfl, h0, h1, h2⟩ := trodAll_three hA
  obtain ⟨k, rfl⟩ := okWide_int Tryz.underlying3 (hval 2 3 v2 rfl rfl)
  obtain ⟨rfl, rfl⟩ := trodVars_none hV
  obtain ⟨cs, rfl, hsz⟩ := okWide_struct Tryz.underlying26 (hval 0 26 v0 rfl rfl)
  obtain ⟨cs1, rfl, hsz1⟩ := okWide_struct Tryz.underlying31 (hval 1 31 v1 rfl rfl)
  have h0k := h0
  have h1k := h1
  obtain ⟨fuel, hf⟩ := h0
  obtain ⟨fuel1, hf1⟩ := h1
  obtain ⟨e0, e1, e2, e3, hcs1⟩ := list4 (show cs1.toList.length = 4 by rw [Array.length_toList, hsz1, Tryz.cellsFrame])
  have hcs1' : cs1 = #[e0, e1, e2, e3] := by rw [← Array.toArray_toList (xs := cs1), hcs1]
  subst hcs1'
  obtain ⟨a, b, c, d, e, hcs⟩ := list5 (show cs.toList.length = 5 by rw [Array.length_toList, hsz, Tryz.cellsPlan])
  have hcs' : cs = #[a, b, c, d, e] := by rw [← Array.toArray_toList (xs := cs), hcs]
  subst hcs'
  obtain ⟨pl, rfl, rfl, hsm, hpl⟩ := read_plan (show DataW.trod enc Tryz.prog W 0 (fun _ => true) true fuel 26 [a, b, c, d, e] = some (d0, p0) from hf)
  obtain ⟨fr, rfl, hfs, hfr⟩ := read_frame (show DataW.trod enc Tryz.prog W 0 (fun _ => true) true fuel1 31 [e0, e1, e2, e3] = some (d1, p1) from hf1)
  have hg := handle_of_laid hL
  clear hA0 hval0
  simp only [List.append_nil] at hW'
  have hlt : ∀ x ∈ p0 ++ p1 ++ p2, x.block < W.heap.size := fun x hx => by simpa using hW'.lt x hx
  have er : Rows.fnExactWhyNotSpec.fn H ([d0, d1, d2] ++ []) = { results := [.lit (.bool true)], args := [d0, d1, d2] } := by simp [Rows.fnExactWhyNotSpec]
  refine (lawW_any b c d e1 e2 e3 pl fr k W hpl hfr hsm hfs hg).mono fun e W' ⟨he, hb⟩ => ?_
  subst he
  refine ⟨_, rfl, _, _, _, [], p0 ++ (p1 ++ p2), [], hW', ?_, ?_, ?_, hb.frame _, fun h => by cases h⟩
  · rw [er]; exact trodAll_mk1 (shut_bool Tryz.underlying4 true)
  · rw [er]; exact trodAll_mk3 (Below.trod Tryz.laidOut (by kernel_rfl) (of_decide_eq_true (by kernel_rfl)) h0k hb fun x hx => hlt x (List.mem_append_left _ (List.mem_append_left _ hx))) (Below.trod Tryz.laidOut (by kernel_rfl) (of_decide_eq_true (by kernel_rfl)) h1k hb fun x hx => hlt x (List.mem_append_left _ (List.mem_append_right _ hx))) (Below.trod Tryz.laidOut (by kernel_rfl) (of_decide_eq_true (by kernel_rfl)) h2 hb fun x hx => hlt x (List.mem_append_right _ hx))
  · rw [er]; rfl

set_option maxRecDepth 100000 in
theorem Tryz.jfW : joinedFacts Tryz.prog 9 Tryz.f9 Rows.fnExactWhyNotSpec Rows.fnExactWhyNotRow = true := by
  unfold joinedFacts
  exact (jf_and (jf_and (jf_and (jf_and (jf_and (jf_and (jf_and (jf_and (jf_and (jf_and (jf_and (jf_and (jf_and (jf_and (jf_and (jf_and (jf_and (jf_and (jf_and (jf_and (jf_and (jf_and (jf_and (jf_and (jf_and (jf_and (jf_and (jf_and (jf_and (jf_and (jf_and Tryz.jfW_0 Tryz.jf_laidOut) Tryz.jf_mapsRowed) Tryz.jfW_3) Tryz.jfW_4) Tryz.jfW_5) Tryz.jf_stops) Tryz.jfW_7) Tryz.jf_stopKnobs) Tryz.jfW_9) Tryz.jfW_10) Tryz.jfW_11) Tryz.jfW_12) Tryz.jfW_13) Tryz.jfW_14) Tryz.jfW_15) Tryz.jfW_16) Tryz.jfW_17) Tryz.jfW_18) Tryz.jfW_19) Tryz.jfW_20) Tryz.jfW_21) Tryz.jfW_22) Tryz.jfW_23) Tryz.jf_heard) Tryz.jf_mayEnter) Tryz.jfW_26) Tryz.jfW_27) Tryz.jfW_28) Tryz.jfW_29) Tryz.jfW_30) Tryz.jfW_31)

theorem lawW_holds : Rows.FnExactWhyNotSaid :=
  OpenClaim.holds_of_wide 9 Tryz.f9 rfl rfl rfl rfl rfl rfl rfl ⟨rfl, rfl, rfl, rfl, rfl⟩ rfl rfl rfl rfl rfl (by kernel_rfl) Tryz.func9 Tryz.jfW
    (of_decide_eq_true (by kernel_rfl)) (by unfold Func.isWrapper; rw [if_neg (of_decide_eq_false (by kernel_rfl))]; exact ⟨rfl, rfl⟩)
    (fun os started H enc _ => lawW_lifted os started H enc)
end Go.Proofs.YtdhinkgjiapigabGreatDoor

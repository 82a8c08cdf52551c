import Derived.Test.YtdhinkgjiapigaaGreatDoorReadBp
import Derived.Test.YtdhinkgjiapigaaGreatDoorSpL
import Derived.Test.YtdhinkgjiapigaaGreatDoorJfSp
import Derived.OpenVars
import Derived.Lay
import Derived.LaidSub
namespace Go.Proofs.YtdhinkgjiapigaaGreatDoor
open Go.ChangeShapes Go.WideShapes Go.RowKit Go.Joins

abbrev laidS : List (String × DataW Unit) := Rows.fnSpoiltRow.laid
abbrev dataS : List (String × DataW Unit) := laidS.filter fun x => x.2.handleName?.isNone
theorem handle_of_laidS {W : World} (h : laidMetH Tryz.prog laidS W) : W.cell? ⟨1, 0, none⟩ = some zrv := by
  have k := h.filter (fun x => x.2.handleName?.isSome)
  rw [show (laidS.filter fun x => x.2.handleName?.isSome) = ztj by kernel_rfl] at k
  exact zsl k
theorem laid_lay {P : Program} {w0 : World} {l : List (String × DataW Unit)} (hf : w0.layFits P l [] = true) (hi : w0.layIfaces P l (w0.layVars P l) = true) : laidMet P l (w0.layVars P l) := by
  have e1 : (l.filter fun x => (l.map Prod.fst).contains x.1) = l := List.filter_eq_self.2 fun x hx => List.contains_iff_mem.2 (List.mem_map.2 ⟨x, hx, rfl⟩)
  have e2 : (l.filter fun x => !(l.map Prod.fst).contains x.1) = [] := List.filter_eq_nil_iff.2 fun x hx => by rw [List.contains_iff_mem.2 (List.mem_map.2 ⟨x, hx, rfl⟩)]; simp
  refine laidMet_layVars (w0 := w0) (l.map Prod.fst) [] ?_ ?_ ?_ ?_
  · rw [e1]
  · rw [e1]; exact hf
  · rw [e1]; exact hi
  · rw [e2]; exact LaidIn.none
/-- A world that meets the condition: the settled one, the handle's cell laid, then the tables. -/
theorem laidWorldS (os : Os) (args : Array Value) : laidMetH Tryz.prog laidS ((({ World.holding Tryz.prog os ⟨#[], #[], []⟩ with heap := (World.holding Tryz.prog os ⟨#[], #[], []⟩).heap.modify 1 zto } : World).layVars Tryz.prog dataS).forCall (fun _ _ => 0) ⟨#[], args, []⟩).memory :=
  laidMetH_of_parts ((laid_lay (w0 := ({ World.holding Tryz.prog os ⟨#[], #[], []⟩ with heap := (World.holding Tryz.prog os ⟨#[], #[], []⟩).heap.modify 1 zto } : World)) (by kernel_rfl) (by kernel_rfl)).of_heap (by simp [World.memory, World.forCall, Input.heap])) (by kernel_rfl)

set_option maxRecDepth 100000 in
theorem zxa (os : Os) (started : os.Started) (H : Type) (enc : TypeId × Value → H) :
    ReturnsInHanded {} Tryz.checked os 11 .any (fun w args => (Rows.fnSpoiltSpec.pre enc Tryz.prog Tryz.f11 [] false w args ∧ laidMetH Tryz.prog laidS w) ∧ sizedMet enc Tryz.prog Tryz.f11 (OpenSpec.ofChange Rows.fnSpoiltSpec) false w args)
      (Rows.fnSpoiltSpec.post enc Tryz.prog Tryz.f11 false true false false) := by
  refine returnsInHanded_of_change_and (C := Tryz.checked) (X := fun w _ => laidMetH Tryz.prog laidS w) (fun _ _ _ hh h => h.of_heap hh) Tryz.own started (by kernel_rfl) Tryz.func11
    (ChangeSpec.witness_at (enc := enc) (C := Tryz.checked) (os := os) (X := fun w _ => laidMetH Tryz.prog laidS w) false (({ World.holding Tryz.prog os ⟨#[], #[], []⟩ with heap := (World.holding Tryz.prog os ⟨#[], #[], []⟩).heap.modify 1 zto } : World).layVars Tryz.prog dataS) #[.slice none 0 0] 8 ((World.layVars_os _ _ _).trans rfl) (by kernel_rfl) (by kernel_rfl) (by kernel_rfl) (by kernel_rfl) (by kernel_rfl) (laidWorldS os _)) ?_
  intro W base args ds gs before hval0 hW _ _ hL _
  have hval : ∀ (j : Nat) t v, Tryz.f11.params[j]? = some t → args[j]? = some v → Value.okWide Tryz.prog W .any base t v := hval0
  have hW' := hW
  obtain ⟨p, q, hA0, hV0, rfl, hfz, hnd⟩ := hW
  have hA : DataW.TrodAll enc Tryz.prog W 0 (fun _ => true) true Tryz.f11.params.toList args.toList ds p := hA0
  have hV : DataW.TrodVars enc Tryz.prog W (fun _ => true) Rows.fnSpoiltSpec.vars gs q := hV0
  rw [Tryz.params11] at hA hval
  obtain ⟨v0, d0, rfl, rfl, h0⟩ := trodAll_one hA
  obtain ⟨gg, tt, cs, fg, dg, pg, rfl, -⟩ := trodVars_one (show DataW.TrodVars enc Tryz.prog W (fun _ => true) [_] gs q from hV)
  obtain ⟨a, l, c, rfl⟩ := okWide_slice Tryz.underlying22 (hval 0 22 v0 rfl rfl)
  have h0k := h0
  obtain ⟨fuel, hf⟩ := h0
  obtain ⟨n, hn, hv⟩ := ztk (show DataW.trod enc Tryz.prog W 0 (fun _ => true) true fuel 22 [.slice a l c] = some (d0, p) from hf)
  obtain rfl : l = n := by
    obtain ⟨a', c', e, -⟩ := hv
    cases e
    rfl
  have hg := handle_of_laidS hL
  clear hA0 hval0
  have hlt : ∀ x ∈ p, x.block < W.heap.size := fun x hx => hW'.lt x (List.mem_append_left _ hx)
  have e1 : Rows.fnSpoiltSpec.fn H ([d0] ++ [dg]) = { results := [.lit (.bool true)], args := [d0], vars := [dg] } := by simp [Rows.fnSpoiltSpec]
  refine (zxh a l c W hv hn hg).mono fun e W' ⟨he, hb⟩ => ?_
  subst he
  refine ⟨_, rfl, _, _, _, [], p, q, hW', ?_, ?_, ?_, hb.frame _, fun h => by cases h⟩
  · rw [e1]; exact trodAll_mk1 (shut_bool Tryz.underlying4 true)
  · rw [e1]; exact trodAll_mk1 (Below.trod Tryz.laidOut (by kernel_rfl) (of_decide_eq_true (by kernel_rfl)) h0k hb hlt)
  · rw [e1]; exact Below.trodVars Tryz.laidOut hb (by kernel_rfl) hV

set_option maxRecDepth 100000 in
theorem Tryz.jfSp : joinedFacts Tryz.prog 11 Tryz.f11 Rows.fnSpoiltSpec Rows.fnSpoiltRow = true := by
  unfold joinedFacts
  exact (zr8 (zr8 (zr8 (zr8 (zr8 (zr8 (zr8 (zr8 (zr8 (zr8 (zr8 (zr8 (zr8 (zr8 (zr8 (zr8 (zr8 (zr8 (zr8 (zr8 (zr8 (zr8 (zr8 (zr8 (zr8 (zr8 (zr8 (zr8 (zr8 (zr8 (zr8 Tryz.jfSp_0 Tryz.jf_laidOut) Tryz.jf_mapsRowed) Tryz.jfSp_3) Tryz.jfSp_4) Tryz.jfSp_5) Tryz.jf_stops) Tryz.jfSp_7) Tryz.jf_stopKnobs) Tryz.jfSp_9) Tryz.jfSp_10) Tryz.jfSp_11) Tryz.jfSp_12) Tryz.jfSp_13) Tryz.jfSp_14) Tryz.jfSp_15) Tryz.jfSp_16) Tryz.jfSp_17) Tryz.jfSp_18) Tryz.jfSp_19) Tryz.jfSp_20) Tryz.jfSp_21) Tryz.jfSp_22) Tryz.jfSp_23) Tryz.jf_heard) Tryz.jf_mayEnter) Tryz.jfSp_26) Tryz.jfSp_27) Tryz.jfSp_28) Tryz.jfSp_29) Tryz.jfSp_30) Tryz.jfSp_31)

theorem zxb : Rows.FnSpoiltSaid :=
  OpenClaim.holds_of_wide 11 Tryz.f11 rfl rfl rfl rfl rfl rfl rfl ⟨rfl, rfl, rfl, rfl, rfl⟩ rfl rfl rfl rfl rfl (by kernel_rfl) Tryz.func11 Tryz.jfSp
    (of_decide_eq_true (by kernel_rfl)) (by unfold Func.isWrapper; rw [if_neg (of_decide_eq_false (by kernel_rfl))]; exact ⟨rfl, rfl⟩)
    (fun os started H enc _ => zxa os started H enc)
end Go.Proofs.YtdhinkgjiapigaaGreatDoor

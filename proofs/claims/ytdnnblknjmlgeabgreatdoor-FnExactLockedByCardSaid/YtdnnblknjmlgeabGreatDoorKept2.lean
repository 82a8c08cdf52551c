import Derived.Test.YtdnnblknjmlgeabGreatDoorKept
namespace Go.Proofs.YtdnnblknjmlgeabGreatDoor
open Go.RowKit Go.Deep
open Classical

theorem Ints.drop {P : Nat → Prop} {w : World} {b off n : Nat} {l : List Int} (hn : n = l.length) (hb : P b) (h : ∀ i, i < n → ∀ x, l[i]? = some x → w.cell? ⟨b, off + i, none⟩ = some (.int .i64 x)) {g c m : Nat} (hm : m = (l.drop g).length) : Ints P w (.slice (some ⟨b, off + g, none⟩) m c) (l.drop g) := by
  subst hm
  refine ⟨_, _, rfl, .inr ⟨b, off + g, rfl, hb, fun i hi x hx => ?_⟩⟩
  rw [List.getElem?_drop] at hx
  have := h (g + i) (by rw [hn]; exact (List.getElem?_eq_some_iff.1 hx).1) x hx
  rwa [← Nat.add_assoc] at this

set_option maxRecDepth 100000 in
set_option maxHeartbeats 4000000 in
theorem keptBy_any (n hd ok p1 p2 p3 f1 f2 f3 : Value) (ways : List WayD) (helds : List HeldD) (i : Nat) (x : WayD) (h : HeldD) (s : Int) (w : World) (hp : WaysC (In w) w p2 ways) (hf : Helds (In w) w f3 helds)
    (hi : ways[i]? = some x) (hj : helds[i]? = some h) (_hw : ways.length ≤ 1048576) (_hh : helds.length ≤ 1048576) (hs : x.sections.length ≤ 1048576) (hg : 0 ≤ h.gone) (hg2 : h.gone < x.sections.length) :
    Calls Tryz.prog 107 #[.agg #[n, p1, p2, p3, hd, ok, f1, f2, f3, .int .i64 s], .int .i64 i] w fun e w' => e = .returned (.bool ((x.sections.drop h.gone.toNat).any (· == s))) ∧ Below w.heap.size w w' := by
  obtain ⟨ap, cp, rfl, hcp⟩ := hp
  obtain ⟨af, cf, rfl, hcf⟩ := hf
  have hil : i < ways.length := (List.getElem?_eq_some_iff.1 hi).1
  have hjl : i < helds.length := (List.getElem?_eq_some_iff.1 hj).1
  obtain h0 | ⟨bp, op, rfl, hbp, hcw⟩ := hcp
  · omega
  obtain h0 | ⟨bf, of, rfl, hbf, hch⟩ := hcf
  · omega
  obtain ⟨v0, v1, v2, v3, v4, ⟨⟨hv0, -, -, -, -⟩, hcap⟩, y0, -, -, -, -⟩ := hcw i hil x hi
  obtain ⟨asx, cs, rfl, hcs⟩ := hv0
  obtain ⟨_, _, _, e, hcap⟩ := hcap
  cases e
  obtain h0 | ⟨bs, os, rfl, hbs, hss⟩ := hcs
  · omega
  obtain ⟨u2, -, -, j1, -, -, -⟩ := hch i hjl h hj
  obtain ⟨g, hgn⟩ : ∃ g : Nat, h.gone = g := ⟨h.gone.toNat, by omega⟩
  rw [hgn] at j1 hg2 ⊢
  have hgt : ((g : Int)).toNat = g := by simp
  rw [hgt]
  have T0 := boxes1 w 128 #[n, p1, .slice (some ⟨bp, op, none⟩) ways.length cp, p3, hd, ok, f1, f2, .slice (some ⟨bf, of, none⟩) helds.length cf, .int .i64 s]
  have x0 := (T0.below.cell (p := ⟨bp, op + i * 5, none⟩) hbp).trans y0
  have z0 := (T0.below.cell (p := ⟨bf, of + i * 5 + 1, none⟩) hbf).trans j1
  have r2 := T0.cell (j := 0) (i := 2) rfl rfl
  have r8 := T0.cell (j := 0) (i := 8) rfl rfl
  have r9 := T0.cell (j := 0) (i := 9) rfl rfl
  rw [Nat.add_zero] at r2 r8 r9
  have hne : ¬ cs = g := by omega
  have hgl : (g : Int) ≤ (x.sections.length : Int) := by omega
  have hil' : (i : Int) < (ways.length : Int) := by omega
  have hjl' : (i : Int) < (helds.length : Int) := by omega
  have hsub : Ints (In (w.alloc (.cells #[n, p1, .slice (some ⟨bp, op, none⟩) ways.length cp, p3, hd, ok, f1, f2, .slice (some ⟨bf, of, none⟩) helds.length cf, .int .i64 s] 128))) _ (.slice (some ⟨bs, os + g, none⟩) (x.sections.length - g) (cs - g)) (x.sections.drop g) :=
    Ints.drop (P := In _) (b := bs) (off := os) rfl (Nat.lt_of_lt_of_le hbs T0.below.size) (fun k hk y hy => (T0.below.cell (p := ⟨bs, os + k, none⟩) hbs).trans (hss k hk y hy)) (by simp)
  have hci : ∀ n : Ext (w.alloc (.cells #[n, p1, .slice (some ⟨bp, op, none⟩) ways.length cp, p3, hd, ok, f1, f2, .slice (some ⟨bf, of, none⟩) helds.length cf, .int .i64 s] 128)), Calls Tryz.prog 140 #[.slice (some ⟨bs, os + g, none⟩) (x.sections.length - g) (cs - g), .int .i64 s] n.w fun e w' => e = .returned (.bool ((x.sections.drop g).any (· == s))) ∧ Below n.w.heap.size n.w w' := fun n =>
    (containsInt_any _ _ s _ (hsub.keep (In.keep n.below).1 (In.keep n.below).2) (by simp; omega)).mono fun e w' ⟨he, hw⟩ => ⟨he, by rw [hw]; exact Below.refl _ _⟩
  have HCI := hide hci
  have hne0 := Ext.any (w.alloc (.cells #[n, p1, .slice (some ⟨bp, op, none⟩) ways.length cp, p3, hd, ok, f1, f2, .slice (some ⟨bf, of, none⟩) helds.length cf, .int .i64 s] 128))
  have X0 := Ext.cell x0
  have Z0 := Ext.cell z0
  have R2 := Ext.cell r2
  have R8 := Ext.cell r8
  have R9 := Ext.cell r9
  clear hci hsub hcw hch hss hi hj y0 j1 x0 z0 r2 r8 r9
  have HT := hide T0
  clear T0
  go_enter Tryz.func107, Tryz.ntmps107
  go_wp2
  refine wp_region_ext (by kernel_rfl) (by kernel_rfl) ?_
  repeat (go_big_quiet_step ((go_at_call 140; exact ext_of (HCI.out _))))
  refine wpQuiet_nil ?_
  rintro _ ⟨nq, rfl⟩
  go_wp2
  go_ret
  exact ⟨rfl, (HT.out.call nq.below).below⟩
end Go.Proofs.YtdnnblknjmlgeabGreatDoor

import Derived.Test.YtdhinkgjiapigaaDoorMark5
namespace Go.Proofs.YtdhinkgjiapigaaDoor
open Go.RowKit Go.Deep

theorem rowIs_type {w : World} {b t t' n n' : Nat} {f f' : Nat → Value} (h : w.rowIs b t n f) (g : w.rowIs b t' n' f') : t = t' := by
  obtain ⟨x, hx, -⟩ := h
  obtain ⟨y, hy, -⟩ := g
  rw [hx] at hy
  cases hy
  rfl
theorem OBools.row {w : World} {v : Value} {l : List Bool} {b : Nat} (h : OBools w v l b) : ∃ N f, w.rowIs b 4 N f := by
  obtain ⟨f, N, c, -, hr, -⟩ := h
  exact ⟨N, f, hr⟩
theorem OHelds.been {w : World} {v : Value} {l : List HeldD} {bw : Nat} {bb : Nat → Nat} (h : OHelds w v l bw bb) {i : Nat} (hi : i < l.length) : ∃ N f, w.rowIs (bb i) 4 N f := by
  obtain ⟨a, cap, -, h0 | ⟨-, f, N, hr, -, hf⟩⟩ := h
  · omega
  · obtain ⟨y, hy⟩ := lt_get l hi
    exact (hf i y hy).2.2.1.row
theorem OHelds.row {w : World} {v : Value} {l : List HeldD} {bw : Nat} {bb : Nat → Nat} (h : OHelds w v l bw bb) (hi : l.length ≠ 0) : ∃ N f, w.rowIs bw 77 N f := by
  obtain ⟨a, cap, -, h0 | ⟨-, f, N, hr, -⟩⟩ := h
  · omega
  · exact ⟨N, f, hr⟩
theorem OPoints.row {w : World} {v : Value} {l : List (Int × Int)} {b : Nat} (h : OPoints w v l b) (hi : l.length ≠ 0) : ∃ N f, w.rowIs b 75 N f := by
  obtain ⟨a, cap, -, h0 | ⟨-, f, N, hr, -⟩⟩ := h
  · omega
  · exact ⟨N, f, hr⟩
/-- The occupancies of a frame become others, in their block. -/
theorem OFrame.setOcc {P : Nat → Prop} {w w' : World} {v1 v2 v3 : Value} {d : FrameD} {bo bp bw : Nat} {bb : Nat → Nat} {l : List Bool} (h : OFrame P w v1 v2 v3 d bo bp bw bb) (hb : But (fun c => c ≠ bo) w w') (ho : OBools w' v1 l bo) : OFrame P w' v1 v2 v3 { d with occ := l } bo bp bw bb := by
  obtain ⟨No, fo, hro⟩ := h.occ.row
  refine ⟨ho, h.points.but hb fun z e => ?_, h.ways.but hb (fun z e => ?_) fun i hi => h.off i hi, h.po, h.pp, h.pw, h.pb, h.inj, h.off⟩
  · obtain ⟨N, f, hr⟩ := h.points.row z
    rw [e] at hr
    exact absurd (rowIs_type hr hro) (by decide)
  · obtain ⟨N, f, hr⟩ := h.ways.row z
    rw [e] at hr
    exact absurd (rowIs_type hr hro) (by decide)
/-- A block of the points that is no other's, also where there are none. -/
theorem OFrame.apart {P : Nat → Prop} {w : World} {v1 v2 v3 : Value} {d : FrameD} {bo bp bw : Nat} {bb : Nat → Nat} (h : OFrame P w v1 v2 v3 d bo bp bw bb) : ∃ bp', OFrame P w v1 v2 v3 d bo bp' bw bb ∧ bp' ≠ bo ∧ (d.ways.length ≠ 0 → bp' ≠ bw) ∧ (∀ i, i < d.ways.length → bp' ≠ bb i) ∧ ((d.points.length = 0 ∧ bp' = w.heap.size) ∨ d.points.length ≠ 0) := by
  rcases Nat.eq_zero_or_pos d.points.length with e | e
  · refine ⟨w.heap.size, ⟨h.occ, ?_, h.ways, h.po, fun z => absurd e z, h.pw, h.pb, h.inj, h.off⟩, ?_, fun z => ?_, fun i hi => ?_, .inl ⟨e, rfl⟩⟩
    · obtain ⟨a, cap, hv, -⟩ := h.points
      exact ⟨a, cap, hv, .inl e⟩
    · have := h.occ.lt; omega
    · obtain ⟨N, f, hr⟩ := h.ways.row z
      have := hr.lt; omega
    · obtain ⟨N, f, hr⟩ := h.ways.been hi
      have := hr.lt; omega
  · obtain ⟨N, f, hr⟩ := h.points.row (by omega)
    refine ⟨bp, h, fun q => ?_, fun z q => ?_, fun i hi q => ?_, .inr (by omega)⟩
    · obtain ⟨N', f', hr'⟩ := h.occ.row
      rw [← q] at hr'
      exact absurd (rowIs_type hr hr') (by decide)
    · obtain ⟨N', f', hr'⟩ := h.ways.row z
      rw [← q] at hr'
      exact absurd (rowIs_type hr hr') (by decide)
    · obtain ⟨N', f', hr'⟩ := h.ways.been hi
      rw [← q] at hr'
      exact absurd (rowIs_type hr hr') (by decide)
theorem OFrame.setPoints {P : Nat → Prop} {w w' : World} {v1 v2 v3 : Value} {d : FrameD} {bo bp bw : Nat} {bb : Nat → Nat} {l : List (Int × Int)} (h : OFrame P w v1 v2 v3 d bo bp bw bb) (h1 : bp ≠ bo) (h2 : d.ways.length ≠ 0 → bp ≠ bw) (h3 : ∀ i, i < d.ways.length → bp ≠ bb i) (hb : But (fun c => c ≠ bp) w w') (hp : OPoints w' v2 l bp) (hl : l.length = d.points.length) : OFrame P w' v1 v2 v3 { d with points := l } bo bp bw bb :=
  ⟨h.occ.but hb (Ne.symm h1), hp, h.ways.but hb (fun z => Ne.symm (h2 z)) fun i hi => Ne.symm (h3 i hi), h.po, fun z => h.pp (by rw [← hl]; exact z), h.pw, h.pb, h.inj, h.off⟩

set_option maxHeartbeats 1000000 in
theorem markHelds_none (v : Value) (k : Int) (w : World) (hv : Emp v) (_h0 : 0 ≤ k) : Calls Tryd.prog 46 #[v, .int .i64 k] w fun e w' => e = .returned (.int .i64 k) ∧ w' = w := by
  obtain ⟨a, c, rfl⟩ := hv
  go_enter Tryd.func46, Tryd.ntmps46
  go_wp2
  go_loopw [1, 5] (fun kv i wr => i = .int .i64 0 ∧ kv = .int .i64 k ∧ wr = w) (fun _ _ _ => 0)
  case atStart => exact ⟨rfl, rfl, rfl⟩
  case round =>
    obtain ⟨rfl, rfl, rfl⟩ := hrel
    go_wp2
    go_ret
    exact ⟨rfl, rfl⟩

theorem cntF_nn (d : FrameD) : 0 ≤ cntF d := by unfold cntF; omega
theorem cntH_small {l : List HeldD} (hn : l.length ≤ 1048576) (hs : ∀ x ∈ l, x.been.length ≤ 1048576) : cntH l ≤ 1099515822080 := by
  have := cntH_le hs l.length
  rw [List.take_of_length_le (Nat.le_refl _)] at this
  have h2 : (4 + 1048576) * l.length ≤ (4 + 1048576) * 1048576 := Nat.mul_le_mul_left _ hn
  omega

set_option maxRecDepth 100000 in
set_option maxHeartbeats 2000000 in
theorem markFrameP_any (P : Nat → Prop) (ok v1 v2 v3 : Value) (d : FrameD) (k : Int) (w : World) (hf : FrameP P w v1 v2 v3 d) (hB : ∀ c, w.heap.size ≤ c → P c) (hs : d.Small 1048576) (h0 : 0 ≤ k) (h1 : k ≤ 1099511627776) :
    Calls Tryd.prog 16 #[.agg #[ok, v1, v2, v3], .int .i64 k] w fun e w' => e = .returned (.int .i64 (k + cntF d)) ∧ FrameP P w' v1 v2 v3 (markF k d) ∧ But (fun c => ¬ P c) w w' := by
  have T0 := boxes1 w 42 #[ok, v1, v2, v3]
  rcases hf with ⟨bo, bp, bw, bb, hf⟩ | ⟨rfl, rfl, rfl, e1, e2, e3⟩
  case inr =>
    have b1 := T0.cell (j := 0) (i := 1) rfl rfl
    have b2 := T0.cell (j := 0) (i := 2) rfl rfl
    have b3 := T0.cell (j := 0) (i := 3) rfl rfl
    rw [Nat.add_zero] at b1 b2 b3
    have HT := hide T0.below
    clear hs T0
    have hF : FrameP P (w.alloc (.cells #[ok, .slice none 0 0, .slice none 0 0, .slice none 0 0] 42)) (.slice none 0 0) (.slice none 0 0) (.slice none 0 0) (markF k d) := .inr ⟨rfl, rfl, rfl, by unfold markF; rw [e1]; rfl, by unfold markF; rw [e2]; rfl, by unfold markF; rw [e3]; rfl⟩
    have hC : cntF d = 0 := by unfold cntF cntH; rw [e1, e2, e3]; rfl
    have HF := hide hF
    have HC := hide hC
    clear hF hC e1 e2 e3
    go_enter Tryd.func16, Tryd.ntmps16
    go_wp2_with fail
    refine (markBools_none _ k _ ⟨_, _, rfl⟩ h0).mono ?_
    rintro e w1 ⟨rfl, rfl⟩
    go_wp2_with fail
    have hsz : w.heap.size < (w.alloc (.cells #[ok, .slice none 0 0, .slice none 0 0, .slice none 0 0] 42)).heap.size := by simp
    refine (markPointsO_any _ [] (w.heap.size + 1) k _ ⟨_, _, rfl, .inl rfl⟩ (by simp) h0 (by omega)).mono ?_
    rintro e w2 ⟨rfl, -, hB2⟩
    replace b3 := hB2.cell b3 (show w.heap.size ≠ w.heap.size + 1 by omega)
    have HF2 : Hid (FrameP P w2 (.slice none 0 0) (.slice none 0 0) (.slice none 0 0) (markF k d)) := by
      rcases HF.out with ⟨_, _, _, _, h⟩ | h
      · obtain ⟨_, _, _, hz, -⟩ := h.occ
        cases hz
      · exact .inr h
    have HB2 : Hid (But (fun c => ¬ P c) w w2) := (But.of_calls (K := fun c => ¬ P c) HT.out).trans (hB2.mono fun c hc hz e2 => by simp at hc; omega)
    clear HF hB2 HT hsz b1 b2
    rw [show k + 2 * (([] : List (Int × Int)).length : Int) = k by simp]
    go_wp2_with fail
    refine (markHelds_none _ k _ ⟨_, _, rfl⟩ h0).mono ?_
    rintro e w3 ⟨rfl, rfl⟩
    go_wp2
    go_ret
    exact ⟨ret_int (by rw [HC.out, Int.add_zero]), HF2.out, HB2.out⟩
  obtain ⟨hs1, hs2, hs3, hs4⟩ := hs
  have hbo : bo < w.heap.size := hf.occ.lt
  obtain ⟨a1, z1, e1⟩ : ∃ a c, v1 = .slice a d.occ.length c := by obtain ⟨f, N, c, e, -⟩ := hf.occ; exact ⟨_, _, e⟩
  obtain ⟨a2, z2, e2⟩ : ∃ a c, v2 = .slice a d.points.length c := by obtain ⟨a, c, e, -⟩ := hf.points; exact ⟨_, _, e⟩
  obtain ⟨a3, z3, e3⟩ : ∃ a c, v3 = .slice a d.ways.length c := by obtain ⟨a, c, e, -⟩ := hf.ways; exact ⟨_, _, e⟩
  subst e1 e2 e3
  have b2 := T0.cell (j := 0) (i := 2) rfl rfl
  have b3 := T0.cell (j := 0) (i := 3) rfl rfl
  rw [Nat.add_zero] at b2 b3
  have hf0 := hf.but (K := fun _ => True) (Q := P) (But.of_calls T0.below) (fun _ _ => trivial) fun _ z => z
  have HB0 : Hid (But (fun c => ¬ P c) w (w.alloc (.cells #[ok, .slice a1 d.occ.length z1, .slice a2 d.points.length z2, .slice a3 d.ways.length z3] 42))) := But.of_calls T0.below
  have HF0 := hide hf0
  have HS4 := hide hs4
  clear hf hf0 T0 hs4
  go_enter Tryd.func16, Tryd.ntmps16
  go_wp2_with fail
  refine (markBools_own _ d.occ bo k _ HF0.out.occ hs1 h0 (by omega)).mono ?_
  rintro e w1 ⟨rfl, hO1, hB1⟩
  replace b2 := hB1.cell b2 (show w.heap.size ≠ bo by omega)
  replace b3 := hB1.cell b3 (show w.heap.size ≠ bo by omega)
  have hf1 := HF0.out.setOcc hB1 hO1
  have HB1 := hide (HB0.out.trans (hB1.mono fun c _ hc e => hc (e ▸ HF0.out.po)))
  obtain ⟨bq, hfq, q1, q2, q3, q4⟩ := hf1.apart
  have hbq : w.heap.size ≠ bq := by
    rcases q4 with ⟨-, e⟩ | e
    · have := hB1.size; simp at this; omega
    · intro e2
      obtain ⟨N, f, hr⟩ := hfq.points.row e
      have h8 := World.rowIs_alloc w #[ok, .slice a1 d.occ.length z1, .slice a2 d.points.length z2, .slice a3 d.ways.length z3] 42 (fun i => #[ok, .slice a1 d.occ.length z1, .slice a2 d.points.length z2, .slice a3 d.ways.length z3][i]!) fun i hi => by rw [getElem!_pos _ i hi]; exact Array.getElem?_eq_getElem hi
      have h9 := hB1.row h8 (show w.heap.size ≠ bo by omega)
      rw [← e2] at hr
      exact absurd (rowIs_type hr h9) (by decide)
  have HFQ := hide hfq
  have HQ := hide (And.intro q1 (And.intro q2 q3))
  have hPB : P bq := by
    rcases q4 with ⟨-, e⟩ | e
    · exact hB _ (by rw [e]; exact HB1.out.size)
    · exact hfq.pp e
  clear HF0 HB0 hO1 hB1 hf1 hfq q1 q2 q3 q4
  go_wp2_with fail
  refine (markPointsO_any _ d.points bq (k + d.occ.length) _ HFQ.out.points hs2 (by omega) (by omega)).mono ?_
  rintro e w2 ⟨rfl, hP2, hB2⟩
  replace b3 := hB2.cell b3 hbq
  have hf2 := HFQ.out.setPoints HQ.out.1 HQ.out.2.1 HQ.out.2.2 hB2 hP2 (marksP_length _ _)
  have HF2 := hide hf2
  have HB2 : Hid (But (fun c => ¬ P c) w w2) := HB1.out.trans (hB2.mono fun c _ hc e2 => hc (e2 ▸ hPB))
  have hsz2 : ∀ c, w2.heap.size ≤ c → P c := fun c hc => hB c (Nat.le_trans HB2.out.size hc)
  clear HFQ HQ hP2 hB2 HB1 hf2 b2
  go_wp2_with fail
  refine (markHeldsO_any P _ _ _ _ bo bq bw bb (k + d.occ.length + 2 * d.points.length) _ HF2.out hsz2 hs3 HS4.out (by omega) (by omega)).mono ?_
  rintro e w3 ⟨rfl, bb', hf3, hB3⟩
  have HFIN := hide (And.intro hf3 (HB2.out.trans hB3))
  clear HF2 HB2 hf3 hB3
  go_wp2
  go_ret
  exact ⟨ret_int (by unfold cntF; omega), .inl ⟨bo, bq, bw, bb', HFIN.out.1⟩, HFIN.out.2⟩

set_option maxRecDepth 100000 in
set_option maxHeartbeats 2000000 in
theorem heldFrame_any (ok v1 v2 v3 : Value) (d : FrameD) (k : Int) (w : World) (hf : FrameAt (In w) w v1 v2 v3 (markF k d)) (hs : d.Small 1048576) (h0 : 0 ≤ k) (h1 : k ≤ 1099511627776) :
    Calls Tryd.prog 17 #[.agg #[ok, v1, v2, v3], .int .i64 k] w fun e w' => e = .returned (.int .i64 (k + cntF d)) ∧ Below w.heap.size w w' := by
  have T0 := boxes1 w 42 #[ok, v1, v2, v3]
  have hk := hf.keep (Q := In (w.alloc (.cells #[ok, v1, v2, v3] 42))) (In.keep T0.below).1 (In.keep T0.below).2
  have HF := hide hk
  obtain ⟨a1, z1, rfl⟩ := hf.1.size
  obtain ⟨a2, z2, rfl⟩ := hf.2.1.size
  obtain ⟨a3, z3, rfl⟩ := hf.2.2.size
  have b2 := T0.cell (j := 0) (i := 2) rfl rfl
  have b3 := T0.cell (j := 0) (i := 3) rfl rfl
  rw [Nat.add_zero] at b2 b3
  obtain ⟨hs1, hs2, hs3, hs4⟩ := hs
  have hc := cntH_small hs3 hs4
  have HT := hide T0.below
  have HS4 := hide hs4
  clear hf hk T0 hs4
  go_enter Tryd.func17, Tryd.ntmps17
  go_wp2_with fail
  refine (heldBoolS_any _ d.occ.length k _ HF.out.1 hs1 h0 (by omega)).mono ?_
  rintro e w1 ⟨rfl, rfl⟩
  have t1 : decide (k + (d.occ.length : Int) < 0) = false := by simp; omega
  go_wp2_with fail
  refine (heldPointS_any _ d.points.length (k + d.occ.length) _ HF.out.2.1 hs2 (by omega) (by omega)).mono ?_
  rintro e w2 ⟨rfl, rfl⟩
  have t2 : decide (k + (d.occ.length : Int) + 2 * (d.points.length : Int) < 0) = false := by simp; omega
  go_wp2_with fail
  refine (heldHeldS_any _ d.ways (k + d.occ.length + 2 * d.points.length) _ HF.out.2.2 hs3 HS4.out (by omega) (by omega)).mono ?_
  rintro e w3 ⟨rfl, rfl⟩
  have t3 : decide (k + (d.occ.length : Int) + 2 * (d.points.length : Int) + (cntH d.ways : Int) < 0) = false := by simp; omega
  go_wp2
  go_ret
  exact ⟨ret_int (by unfold cntF; omega), HT.out⟩
end Go.Proofs.YtdhinkgjiapigaaDoor

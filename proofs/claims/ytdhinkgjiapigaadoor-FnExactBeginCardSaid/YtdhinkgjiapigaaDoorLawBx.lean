import Derived.Test.YtdhinkgjiapigaaDoorBegSx
import Derived.Test.YtdhinkgjiapigaaDoorBegIx
import Derived.Test.YtdhinkgjiapigaaDoorMark6
import Derived.Test.YtdhinkgjiapigaaDoorSzA
import Derived.Test.YtdhinkgjiapigaaDoorToC
import Derived.Test.YtdhinkgjiapigaaDoorEqA
import Derived.Test.YtdhinkgjiapigaaDoorEqG
import Derived.Deep.RegionWith
import Derived.Deep.DeepCutAuto
namespace Go.Proofs.YtdhinkgjiapigaaDoor
open Go.RowKit Go.Deep
open Classical

theorem begin_small (p : PlanD) : (beginOf p).Small 1048576 := by
  unfold beginOf
  split
  · rename_i h
    have hp := h.parts.1
    refine ⟨?_, ?_, ?_, fun x hx => ?_⟩
    · show (List.replicate p.sections.toNat false).length ≤ _
      rw [List.length_replicate]
      have := hp.1.2
      omega
    · show (List.replicate p.switches.length ((1, 1) : Int × Int)).length ≤ _
      rw [List.length_replicate]
      have := hp.2.1
      omega
    · show (idles p.ways).length ≤ _
      rw [idles_length]
      have := hp.2.2.1
      omega
    · obtain ⟨y, hy, rfl⟩ := List.mem_map.1 (show x ∈ p.ways.map fun x => idleD x.sections.length from hx)
      obtain ⟨i, hi⟩ := List.getElem?_of_mem hy
      have := (Right.way h hi).2.1.2
      show (List.replicate y.sections.length false).length ≤ _
      rw [List.length_replicate]
      omega
  · exact ⟨by show 0 ≤ _; omega, by show 0 ≤ _; omega, by show 0 ≤ _; omega, fun x hx => by cases hx⟩

set_option maxRecDepth 100000 in
set_option maxHeartbeats 40000000 in
theorem lawB_any (v1 v2 v3 : Value) (p : PlanD) (w : World) (hp : PlanAt (In w) w v1 v2 v3 p) (hs : p.Small 9223372036854775807) (hg : w.cell? ⟨0, 0, none⟩ = some errT) :
    Calls Tryd.prog 4 #[.agg #[.int .i64 p.sections, v1, v2, v3, .int .i64 p.hold]] w fun e w' => e = .returned (.bool true) ∧ Below w.heap.size w w' := by
  have T0 := boxes1 w 26 #[.int .i64 p.sections, v1, v2, v3, .int .i64 p.hold]
  have hk : ∀ W, Boxes w [(26, #[.int .i64 p.sections, v1, v2, v3, .int .i64 p.hold])] W → PlanAt (In W) W v1 v2 v3 p := fun W h => hp.keep (In.keep h.below).1 (In.keep h.below).2
  have HK := hide hk
  have HKB := hide fun (W : World) (h : Below w.heap.size w W) => hp.keep (Q := In W) (In.keep h).1 (In.keep h).2
  clear hk hp
  go_enter Tryd.func4, Tryd.ntmps4
  go_wp2_with fail
  refine (szPlan_any p.sections p.hold v1 v2 v3 p 1048576 _ (HK.out _ T0) hs (by omega) (by omega)).mono ?_
  rintro e w1 ⟨r, rfl, hb, hr | ⟨pr, pr2, sm⟩⟩
  · subst hr
    have T1 := T0.call hb
    go_wp2
    go_ret
    exact ⟨rfl, T1.below⟩
  have SM := hide sm
  have T1 := T0.call hb
  clear sm hs T0 hb
  have b0 := T1.cell (j := 0) (i := 0) rfl rfl
  have b1 := T1.cell (j := 0) (i := 1) rfl rfl
  have b2 := T1.cell (j := 0) (i := 2) rfl rfl
  have b3 := T1.cell (j := 0) (i := 3) rfl rfl
  have b4 := T1.cell (j := 0) (i := 4) rfl rfl
  rw [Nat.add_zero] at b0 b1 b2 b3 b4
  go_wp2_with fail
  refine (toPlan_any p.sections p.hold v1 v2 v3 p _ (HK.out _ T1) SM.out).mono ?_
  clear b0 b1 b2 b3 b4
  rintro e w2 ⟨u1, u2, u3, rfl, hb, hu⟩
  have T2 := T1.call hb
  have HU := hide (hu.keep (same_refl _ _) (Q := In w2) fun b hb => hb.2.1)
  clear T1 hb hu
  go_wp2_with fail
  refine (specBegin_any u1 u2 u3 p _ HU.out SM.out).mono ?_
  rintro e w3 ⟨f1, f2, f3, rfl, hb, hf⟩
  have T3 := T2.call hb
  have HFS := hide hf.read
  obtain ⟨q1, s1, q2, s2, q3, s3, rfl, rfl, rfl⟩ := hf.slices
  clear T2 hb hf HU
  obtain ⟨D, hD⟩ : ∃ D, D = beginOf p := ⟨_, rfl⟩
  have hSD : D.Small 1048576 := by rw [hD]; exact begin_small p
  rw [← hD] at HFS ⊢
  have HD := hide hD
  have SD := hide hSD
  clear hD hSD
  have hzw3 : w.heap.size < w3.heap.size := T3.lt (j := 0) rfl
  have T4 := T3.call (below_new w3 (.cells #[.bool D.ok, .slice q1 D.occ.length s1, .slice q2 D.points.length s2, .slice q3 D.ways.length s3] 42))
  have X4 := boxes1 w3 42 #[.bool D.ok, .slice q1 D.occ.length s1, .slice q2 D.points.length s2, .slice q3 D.ways.length s3]
  clear T3
  have b0 := T4.cell (j := 0) (i := 0) rfl rfl
  have b1 := T4.cell (j := 0) (i := 1) rfl rfl
  have b2 := T4.cell (j := 0) (i := 2) rfl rfl
  have b3 := T4.cell (j := 0) (i := 3) rfl rfl
  have b4 := T4.cell (j := 0) (i := 4) rfl rfl
  rw [Nat.add_zero] at b0 b1 b2 b3 b4
  go_wp2_with fail
  refine (toPlan_any p.sections p.hold v1 v2 v3 p _ (HK.out _ T4) SM.out).mono ?_
  clear b0 b1 b2 b3 b4
  rintro e w5 ⟨x1, x2, x3, rfl, hb, hx⟩
  have T5 := T4.call hb
  have X5 := X4.call hb
  have hz34 : (w3.alloc (.cells #[.bool D.ok, .slice q1 D.occ.length s1, .slice q2 D.points.length s2, .slice q3 D.ways.length s3] 42)).heap.size = w3.heap.size + 1 := by simp
  obtain ⟨W4, hW4⟩ : ∃ W, W = w3.alloc (.cells #[.bool D.ok, .slice q1 D.occ.length s1, .slice q2 D.points.length s2, .slice q3 D.ways.length s3] 42) := ⟨_, rfl⟩
  rw [← hW4] at hx hz34 hb
  have hb45 := hb.size
  have hx2 := hx.keep (same_refl _ _) (Q := In w5) fun b hb => hb.2.1
  have HXF := hide hx
  have HX := hide hx2
  obtain ⟨⟨y1, z1, rfl, -⟩, ⟨y2, z2, rfl, -⟩, ⟨y3, z3, rfl, -⟩⟩ := hx2
  clear T4 X4 hb hx hW4
  have hbn := below_new w5 (.cells #[.int .i64 p.sections, .slice y1 p.switches.length z1, .slice y2 p.ways.length z2, .slice y3 p.bars.length z3, .int .i64 p.hold] 33)
  have T6 := T5.call hbn
  have X6 := X5.call hbn
  have Y6 := boxes1 w5 33 #[.int .i64 p.sections, .slice y1 p.switches.length z1, .slice y2 p.ways.length z2, .slice y3 p.bars.length z3, .int .i64 p.hold]
  clear T5 X5 hbn
  have m0 := Y6.cell (j := 0) (i := 0) rfl rfl
  have m1 := Y6.cell (j := 0) (i := 1) rfl rfl
  have m2 := Y6.cell (j := 0) (i := 2) rfl rfl
  have m3 := Y6.cell (j := 0) (i := 3) rfl rfl
  have m4 := Y6.cell (j := 0) (i := 4) rfl rfl
  rw [Nat.add_zero] at m0 m1 m2 m3 m4
  have hI := implBegin_any _ _ _ p _ (HX.out.keep (In.keep Y6.below).1 (In.keep Y6.below).2) SM.out (ck hg T6.below)
  have HI := hide hI
  clear hI
  go_wp2_with fail
  refine HI.out.mono ?_
  clear m0 m1 m2 m3 m4 HI
  rintro e w7 ⟨g1, g2, g3, rfl, hb, hgf⟩
  rw [← HD.out] at hgf ⊢
  have T7 := T6.call hb
  have X7 := X6.call hb
  have Y7 := Y6.call hb
  have hz56 : w5.heap.size + 1 < w7.heap.size + 1 := by have := Y7.lt (j := 0) rfl; omega
  have HGF : Hid (FrameM (w5.heap.size + 1 + 1) w7 g1 g2 g3 D) := by have := hgf; simp at this; exact this
  obtain ⟨j1, l1, j2, l2, j3, l3, rfl, rfl, rfl⟩ := hgf.slices
  clear T6 X6 Y6 hb hgf
  have hbn := below_new w7 (.cells #[.bool D.ok, .slice j1 D.occ.length l1, .slice j2 D.points.length l2, .slice j3 D.ways.length l3] 42)
  have T8 := T7.call hbn
  have X8 := X7.call hbn
  have Y8 := Y7.call hbn
  have Z8 := boxes1 w7 42 #[.bool D.ok, .slice j1 D.occ.length l1, .slice j2 D.points.length l2, .slice j3 D.ways.length l3]
  clear T7 X7 Y7 hbn
  have hFW8 := HFS.out.keep (In.keep X8.below).1 (In.keep X8.below).2
  have hFG8 := HGF.out.read.keep (In.keep Z8.below).1 (In.keep Z8.below).2
  have HQ8 := hide (eqFrame_any D.ok _ _ _ _ _ _ D _ hFG8 hFW8 SD.out)
  clear hFW8 hFG8
  have n0 := Z8.cell (j := 0) (i := 0) rfl rfl
  have n1 := Z8.cell (j := 0) (i := 1) rfl rfl
  have n2 := Z8.cell (j := 0) (i := 2) rfl rfl
  have n3 := Z8.cell (j := 0) (i := 3) rfl rfl
  have o0 := X8.cell (j := 0) (i := 0) rfl rfl
  have o1 := X8.cell (j := 0) (i := 1) rfl rfl
  have o2 := X8.cell (j := 0) (i := 2) rfl rfl
  have o3 := X8.cell (j := 0) (i := 3) rfl rfl
  rw [Nat.add_zero] at n0 n1 n2 n3 o0 o1 o2 o3
  go_wp2_with fail
  refine HQ8.out.mono ?_
  clear n0 n1 n2 n3 o0 o1 o2 o3 HQ8
  rintro e w9 ⟨rfl, hb9⟩
  have T9 := T8.call hb9
  have X9 := X8.call hb9
  have Y9 := Y8.call hb9
  have Z9 := Z8.call hb9
  clear T8 X8 Y8 Z8 hb9
  have HT := hide (T9.call (below_drew _))
  have HY9 := hide (Y9.call (below_drew _))
  have hq : Calls Tryd.prog 8 #[.agg #[.int .i64 p.sections, v1, v2, v3, .int .i64 p.hold]] w9.drew fun e w' => ∃ u1 u2 u3, e = .returned (.agg #[.int .i64 p.sections, u1, u2, u3, .int .i64 p.hold]) ∧ Below w9.drew.heap.size w9.drew w' ∧ PlanAt (In w') w' u1 u2 u3 p ∧ (w'.cell? ⟨w5.heap.size, 0, none⟩ = some (.int .i64 p.sections) ∧ w'.cell? ⟨w5.heap.size, 1, none⟩ = some (.slice y1 p.switches.length z1) ∧ w'.cell? ⟨w5.heap.size, 2, none⟩ = some (.slice y2 p.ways.length z2) ∧ w'.cell? ⟨w5.heap.size, 3, none⟩ = some (.slice y3 p.bars.length z3) ∧ w'.cell? ⟨w5.heap.size, 4, none⟩ = some (.int .i64 p.hold)) := by
    refine (toPlan_any p.sections p.hold v1 v2 v3 p _ (HK.out _ HT.out) SM.out).mono ?_
    rintro e w' ⟨u1, u2, u3, rfl, hb, hu⟩
    have Xa := HY9.out.call hb
    exact ⟨u1, u2, u3, rfl, hb, hu.keep (same_refl _ _) fun b hb => hb.2.1, Xa.cell (j := 0) (i := 0) rfl rfl, Xa.cell (j := 0) (i := 1) rfl rfl, Xa.cell (j := 0) (i := 2) rfl rfl, Xa.cell (j := 0) (i := 3) rfl rfl, Xa.cell (j := 0) (i := 4) rfl rfl⟩
  have HQ := hide hq
  have hq2 : ∀ W u1 u2 u3, Below w9.drew.heap.size w9.drew W → PlanAt (In W) W u1 u2 u3 p → Calls Tryd.prog 11 #[.agg #[.int .i64 p.sections, .slice y1 p.switches.length z1, .slice y2 p.ways.length z2, .slice y3 p.bars.length z3, .int .i64 p.hold], .agg #[.int .i64 p.sections, u1, u2, u3, .int .i64 p.hold]] W fun e w' => e = .returned (.bool true) ∧ Below w9.drew.heap.size w9.drew w' := fun W u1 u2 u3 hbw hpw => by
    have XX := HY9.out.call hbw
    refine (eqPlan_any p.sections p.hold _ _ _ u1 u2 u3 p W (HX.out.keep (In.keep XX.below).1 (In.keep XX.below).2) hpw SM.out).mono ?_
    rintro e w' ⟨rfl, hb⟩
    exact ⟨rfl, hbw.trans (hb.mono hbw.size)⟩
  have HQ2 := hide hq2
  have b0 := T9.cell (j := 0) (i := 0) rfl rfl
  have b1 := T9.cell (j := 0) (i := 1) rfl rfl
  have b2 := T9.cell (j := 0) (i := 2) rfl rfl
  have b3 := T9.cell (j := 0) (i := 3) rfl rfl
  have b4 := T9.cell (j := 0) (i := 4) rfl rfl
  rw [Nat.add_zero] at b0 b1 b2 b3 b4
  have m0 := Y9.cell (j := 0) (i := 0) rfl rfl
  have m1 := Y9.cell (j := 0) (i := 1) rfl rfl
  have m2 := Y9.cell (j := 0) (i := 2) rfl rfl
  have m3 := Y9.cell (j := 0) (i := 3) rfl rfl
  have m4 := Y9.cell (j := 0) (i := 4) rfl rfl
  rw [Nat.add_zero] at m0 m1 m2 m3 m4
  clear hq hq2
  go_wp2
  go_cut [31] (fun v wk => v = .bool false ∧ Below w9.heap.size w9 wk)
  case first =>
    go_region_with (first | (go_at_call 8; refine HQ.out.mono ?_; rintro e wa ⟨u1, u2, u3, rfl, hb9, hp9, k0, k1, k2, k3, k4⟩; have HP9 := hide hp9; have HB9 := hide hb9; clear hp9 hb9) | (go_at_call 11; refine (HQ2.out _ _ _ _ HB9.out HP9.out).mono ?_; rintro e wb ⟨rfl, hba⟩; have HBA := hide hba; clear hba))
    all_goals
      go_wp2_with fail
      go_meet
      exact ⟨rfl, (below_drew w9).trans (HBA.out.mono (below_drew w9).size)⟩
  case rest =>
    rename World => wB
    obtain ⟨rfl, hbk⟩ := hcut
    have TB := T9.call hbk
    have XB := X9.call hbk
    have YB := Y9.call hbk
    have ZB := Z9.call hbk
    clear b0 b1 b2 b3 b4 m0 m1 m2 m3 m4 HQ HQ2 HT HY9 T9 X9 Y9 Z9 hbk
    -- the marks in the plan: in its own blocks
    have hXB : PlanAt (Fresh W4 w5) wB (.slice y1 p.switches.length z1) (.slice y2 p.ways.length z2) (.slice y3 p.bars.length z3) p := HXF.out.keep (fun b hb o => YB.below.cell (p := ⟨b, o, none⟩) hb.2.1) fun _ h => h
    have hMay : May (Fresh W4 w5) wB := ⟨fun b hb o => (YB.below.frozen (p := ⟨b, o, none⟩) hb.2.1).trans (hb.2.2 o), fun b hb => Nat.lt_of_lt_of_le hb.2.1 YB.below.size⟩
    have HMP := hide (markPlanB_any (Fresh W4 w5) (.int .i64 p.sections) (.int .i64 p.hold) _ _ _ p wB hXB SM.out hMay)
    have m0 := YB.cell (j := 0) (i := 0) rfl rfl
    have m1 := YB.cell (j := 0) (i := 1) rfl rfl
    have m2 := YB.cell (j := 0) (i := 2) rfl rfl
    have m3 := YB.cell (j := 0) (i := 3) rfl rfl
    have m4 := YB.cell (j := 0) (i := 4) rfl rfl
    rw [Nat.add_zero] at m0 m1 m2 m3 m4
    have hz37 : w3.heap.size + 1 ≤ w7.heap.size := by omega
    have hzT : w.heap.size < w3.heap.size + 1 := by have := TB.lt (j := 0) rfl; have := hzw3; omega
    clear hXB hMay
    go_wp2_with fail
    refine HMP.out.mono ?_
    rintro e wC ⟨rk, rfl, hrk0, hrk1, MC⟩
    clear m0 m1 m2 m3 m4 HMP
    have hsC := MC.but.size
    have hnF : ∀ c, c < w3.heap.size + 1 ∨ w5.heap.size ≤ c → ¬ Fresh W4 w5 c := fun c hc hf => by have := hf.1; have := hf.2.1; omega
    have HZC : Hid (Boxes w7 [(42, #[.bool D.ok, .slice j1 D.occ.length l1, .slice j2 D.points.length l2, .slice j3 D.ways.length l3])] wB) := ZB
    have hFW3 : FrameAt (In w3) wC (.slice q1 D.occ.length s1) (.slice q2 D.points.length s2) (.slice q3 D.ways.length s3) D := HFS.out.keep ((same_below XB.below fun _ h => h).trans (MC.but.same (P := In w3) fun b hb => ⟨Nat.lt_of_lt_of_le hb XB.below.size, hnF b (.inl (Nat.lt_succ_of_lt hb))⟩)) fun _ hb => hb
    have hFW : FrameAt (In wC) wC (.slice q1 D.occ.length s1) (.slice q2 D.points.length s2) (.slice q3 D.ways.length s3) D := hFW3.keep (same_refl _ _) fun b hb => Nat.lt_of_lt_of_le hb (Nat.le_trans XB.below.size hsC)
    have hFG : FrameP (fun c => w5.heap.size + 1 + 1 ≤ c ∧ c < w7.heap.size) wC (.slice j1 D.occ.length l1) (.slice j2 D.points.length l2) (.slice j3 D.ways.length l3) D :=
      ((HGF.out.to (P := fun c => w5.heap.size + 1 + 1 ≤ c ∧ c < w7.heap.size) fun c h1 h2 => ⟨h1, h2⟩).but (K := fun _ => True) (Q := fun c => w5.heap.size + 1 + 1 ≤ c ∧ c < w7.heap.size) (But.of_calls ZB.below) (fun _ _ => trivial) fun _ h => h).but (Q := fun c => w5.heap.size + 1 + 1 ≤ c ∧ c < w7.heap.size) MC.but (fun c hc => hnF c (.inr (by have := hc.1; omega))) fun _ h => h
    have hsB7 : w7.heap.size < wB.heap.size := ZB.lt (j := 0) rfl
    have n0 : wC.cell? ⟨w7.heap.size, 0, none⟩ = some (Value.bool D.ok) := MC.but.cell (ZB.cell (j := 0) (i := 0) rfl rfl) (hnF _ (.inr (by omega)))
    have n1 : wC.cell? ⟨w7.heap.size, 1, none⟩ = some (.slice j1 D.occ.length l1) := MC.but.cell (ZB.cell (j := 0) (i := 1) rfl rfl) (hnF _ (.inr (by omega)))
    have n2 : wC.cell? ⟨w7.heap.size, 2, none⟩ = some (.slice j2 D.points.length l2) := MC.but.cell (ZB.cell (j := 0) (i := 2) rfl rfl) (hnF _ (.inr (by omega)))
    have n3 : wC.cell? ⟨w7.heap.size, 3, none⟩ = some (.slice j3 D.ways.length l3) := MC.but.cell (ZB.cell (j := 0) (i := 3) rfl rfl) (hnF _ (.inr (by omega)))
    have o0 : wC.cell? ⟨w3.heap.size, 0, none⟩ = some (Value.bool D.ok) := MC.but.cell (XB.cell (j := 0) (i := 0) rfl rfl) (hnF _ (.inl (by omega)))
    have o1 : wC.cell? ⟨w3.heap.size, 1, none⟩ = some (.slice q1 D.occ.length s1) := MC.but.cell (XB.cell (j := 0) (i := 1) rfl rfl) (hnF _ (.inl (by omega)))
    have o2 : wC.cell? ⟨w3.heap.size, 2, none⟩ = some (.slice q2 D.points.length s2) := MC.but.cell (XB.cell (j := 0) (i := 2) rfl rfl) (hnF _ (.inl (by omega)))
    have o3 : wC.cell? ⟨w3.heap.size, 3, none⟩ = some (.slice q3 D.ways.length s3) := MC.but.cell (XB.cell (j := 0) (i := 3) rfl rfl) (hnF _ (.inl (by omega)))
    have b0 : wC.cell? ⟨w.heap.size, 0, none⟩ = some (Value.int .i64 p.sections) := MC.but.cell (TB.cell (j := 0) (i := 0) rfl rfl) (hnF _ (.inl (by omega)))
    have b1 : wC.cell? ⟨w.heap.size, 1, none⟩ = some (v1) := MC.but.cell (TB.cell (j := 0) (i := 1) rfl rfl) (hnF _ (.inl (by omega)))
    have b2 : wC.cell? ⟨w.heap.size, 2, none⟩ = some (v2) := MC.but.cell (TB.cell (j := 0) (i := 2) rfl rfl) (hnF _ (.inl (by omega)))
    have b3 : wC.cell? ⟨w.heap.size, 3, none⟩ = some (v3) := MC.but.cell (TB.cell (j := 0) (i := 3) rfl rfl) (hnF _ (.inl (by omega)))
    have b4 : wC.cell? ⟨w.heap.size, 4, none⟩ = some (.int .i64 p.hold) := MC.but.cell (TB.cell (j := 0) (i := 4) rfl rfl) (hnF _ (.inl (by omega)))
    have HBC : Hid (Below w.heap.size w wC) := TB.below.trans (MC.but.below TB.below.size fun c hc => hnF c (.inl (by omega)))
    have HQC := hide (eqFrame_any D.ok _ _ _ _ _ _ D _ ((hFG.there.read).keep (same_refl _ _) (Q := In wC) fun b hb => hb.2) hFW SD.out)
    have HFW := hide hFW3
    have hs3C : w3.heap.size ≤ wC.heap.size := Nat.le_trans XB.below.size hsC
    have HFG := hide hFG
    have HC := hide (And.intro (And.intro n0 (And.intro n1 (And.intro n2 n3))) (And.intro (And.intro o0 (And.intro o1 (And.intro o2 o3))) (And.intro b0 (And.intro b1 (And.intro b2 (And.intro b3 b4))))))
    have t0 : decide (rk < 0) = false := by simp; omega
    clear hFW hFW3 hFG MC TB XB YB ZB HZC hnF b0 b1 b2 b3 b4
    go_wp2_with fail
    refine HQC.out.mono ?_
    clear n0 n1 n2 n3 o0 o1 o2 o3 HQC
    rintro e wD ⟨rfl, hbD⟩
    have hsD := hbD.size
    have n0 : wD.cell? ⟨w7.heap.size, 0, none⟩ = some (Value.bool D.ok) := ckb' HC.out.1.1 hbD
    have n1 : wD.cell? ⟨w7.heap.size, 1, none⟩ = some (.slice j1 D.occ.length l1) := ckb' HC.out.1.2.1 hbD
    have n2 : wD.cell? ⟨w7.heap.size, 2, none⟩ = some (.slice j2 D.points.length l2) := ckb' HC.out.1.2.2.1 hbD
    have n3 : wD.cell? ⟨w7.heap.size, 3, none⟩ = some (.slice j3 D.ways.length l3) := ckb' HC.out.1.2.2.2 hbD
    have hP : ∀ c, wD.heap.size ≤ c → (w5.heap.size + 1 + 1 ≤ c ∧ c ≠ w7.heap.size) := fun c hc => by omega
    have hFD : FrameP (fun c => w5.heap.size + 1 + 1 ≤ c ∧ c ≠ w7.heap.size) wD (.slice j1 D.occ.length l1) (.slice j2 D.points.length l2) (.slice j3 D.ways.length l3) D := HFG.out.but (K := fun _ => True) (But.of_calls hbD) (fun _ _ => trivial) fun c hc => ⟨hc.1, by have := hc.2; omega⟩
    have HMF := hide (markFrameP_any _ (.bool D.ok) _ _ _ D 1 wD hFD hP SD.out (by omega) (by omega))
    clear hFD hP t0
    go_wp2_with fail
    refine HMF.out.mono ?_
    clear n0 n1 n2 n3 HMF
    rintro e wE ⟨rfl, hFE, hBE⟩
    have hsE := hBE.size
    have hnP : ∀ c, c < w5.heap.size + 1 + 1 ∨ c = w7.heap.size → ¬ (w5.heap.size + 1 + 1 ≤ c ∧ c ≠ w7.heap.size) := fun c hc hf => by omega
    have n0 : wE.cell? ⟨w7.heap.size, 0, none⟩ = some (Value.bool D.ok) := hBE.cell (ckb' HC.out.1.1 hbD) (hnP _ (.inr rfl))
    have n1 : wE.cell? ⟨w7.heap.size, 1, none⟩ = some (.slice j1 D.occ.length l1) := hBE.cell (ckb' HC.out.1.2.1 hbD) (hnP _ (.inr rfl))
    have n2 : wE.cell? ⟨w7.heap.size, 2, none⟩ = some (.slice j2 D.points.length l2) := hBE.cell (ckb' HC.out.1.2.2.1 hbD) (hnP _ (.inr rfl))
    have n3 : wE.cell? ⟨w7.heap.size, 3, none⟩ = some (.slice j3 D.ways.length l3) := hBE.cell (ckb' HC.out.1.2.2.2 hbD) (hnP _ (.inr rfl))
    have o0 : wE.cell? ⟨w3.heap.size, 0, none⟩ = some (Value.bool D.ok) := hBE.cell (ckb' HC.out.2.1.1 hbD) (hnP _ (.inl (by omega)))
    have o1 : wE.cell? ⟨w3.heap.size, 1, none⟩ = some (.slice q1 D.occ.length s1) := hBE.cell (ckb' HC.out.2.1.2.1 hbD) (hnP _ (.inl (by omega)))
    have o2 : wE.cell? ⟨w3.heap.size, 2, none⟩ = some (.slice q2 D.points.length s2) := hBE.cell (ckb' HC.out.2.1.2.2.1 hbD) (hnP _ (.inl (by omega)))
    have o3 : wE.cell? ⟨w3.heap.size, 3, none⟩ = some (.slice q3 D.ways.length s3) := hBE.cell (ckb' HC.out.2.1.2.2.2 hbD) (hnP _ (.inl (by omega)))
    have b0 : wE.cell? ⟨w.heap.size, 0, none⟩ = some (Value.int .i64 p.sections) := hBE.cell (ckb' HC.out.2.2.1 hbD) (hnP _ (.inl (by omega)))
    have b1 : wE.cell? ⟨w.heap.size, 1, none⟩ = some (v1) := hBE.cell (ckb' HC.out.2.2.2.1 hbD) (hnP _ (.inl (by omega)))
    have b2 : wE.cell? ⟨w.heap.size, 2, none⟩ = some (v2) := hBE.cell (ckb' HC.out.2.2.2.2.1 hbD) (hnP _ (.inl (by omega)))
    have b3 : wE.cell? ⟨w.heap.size, 3, none⟩ = some (v3) := hBE.cell (ckb' HC.out.2.2.2.2.2.1 hbD) (hnP _ (.inl (by omega)))
    have b4 : wE.cell? ⟨w.heap.size, 4, none⟩ = some (.int .i64 p.hold) := hBE.cell (ckb' HC.out.2.2.2.2.2.2 hbD) (hnP _ (.inl (by omega)))
    have HBE : Hid (Below w.heap.size w wE) := (HBC.out.trans (hbD.mono HBC.out.size)).trans (hBE.below (Nat.le_trans HBC.out.size hsD) fun c hc => hnP c (.inl (by omega)))
    have hFWE : FrameAt (In w3) wE (.slice q1 D.occ.length s1) (.slice q2 D.points.length s2) (.slice q3 D.ways.length s3) D := HFW.out.keep ((same_below hbD fun b (hb : b < w3.heap.size) => Nat.lt_of_lt_of_le hb hs3C).trans (hBE.same (P := In w3) fun b (hb : b < w3.heap.size) => ⟨by omega, hnP b (.inl (by omega))⟩)) fun _ hb => hb
    have hFGE := hFE.there.read
    have HFWE := hide hFWE
    have HFGE := hide hFGE
    have HHE := hide (heldFrame_any (.bool D.ok) _ _ _ D 1 wE (hFGE.keep (same_refl _ _) fun b hb => hb.2) SD.out (by omega) (by omega))
    have hcn := cntF_nn D
    obtain ⟨cn, hcn'⟩ : ∃ c, cntF D = c := ⟨_, rfl⟩
    rw [hcn'] at hcn HHE ⊢
    have HCN := hide hcn'
    have t1 : decide (1 + cn < 0) = false := by simp; omega
    clear hFWE hFGE hFE hBE HC hcn'
    go_wp2_with fail
    refine HHE.out.mono ?_
    clear HHE
    rintro e wF ⟨rfl, hbF⟩
    have HBF := hide (HBE.out.trans (hbF.mono HBE.out.size))
    replace n0 := ckb' n0 hbF
    replace n1 := ckb' n1 hbF
    replace n2 := ckb' n2 hbF
    replace n3 := ckb' n3 hbF
    replace o0 := ckb' o0 hbF
    replace o1 := ckb' o1 hbF
    replace o2 := ckb' o2 hbF
    replace o3 := ckb' o3 hbF
    replace b0 := ckb' b0 hbF
    replace b1 := ckb' b1 hbF
    replace b2 := ckb' b2 hbF
    replace b3 := ckb' b3 hbF
    replace b4 := ckb' b4 hbF
    have HTP := hide (toPlan_any p.sections p.hold v1 v2 v3 p wF (HKB.out _ HBF.out) SM.out)
    go_wp2_with fail
    refine HTP.out.mono ?_
    clear b0 b1 b2 b3 b4 HTP
    rintro e wG ⟨u1, u2, u3, rfl, hbG, hu⟩
    have hI := implBegin_any u1 u2 u3 p wG (hu.keep (same_refl _ _) fun b hb => hb.2.1) SM.out (ck hg (HBF.out.trans (hbG.mono HBF.out.size)))
    have HI := hide hI
    have hbFG := hbF.trans (hbG.mono hbF.size)
    clear hI hu
    go_wp2_with fail
    refine HI.out.mono ?_
    clear HI
    rintro e wH ⟨k1, k2, k3, rfl, hbH, hkf⟩
    rw [← HD.out] at hkf ⊢
    have hbFH := hbFG.trans (hbH.mono hbFG.size)
    have hbn := below_new wH (.cells #[.bool D.ok, k1, k2, k3] 42)
    have hbJ := hbFH.trans (hbn.mono hbFH.size)
    have Q := boxes1 wH 42 #[.bool D.ok, k1, k2, k3]
    have hFK := hkf.read.keep (In.keep Q.below).1 (In.keep Q.below).2
    have hFWJ := HFWE.out.keep (Q := In (wH.alloc (.cells #[.bool D.ok, k1, k2, k3] 42))) (same_below hbJ fun b (hb : b < w3.heap.size) => by omega) fun b (hb : b < w3.heap.size) => Nat.lt_of_lt_of_le (by omega) hbJ.size
    have HQJ := hide (eqFrame_any D.ok _ _ _ _ _ _ D _ hFK hFWJ SD.out)
    obtain ⟨c1, d1, c2, d2, c3, d3, rfl, rfl, rfl⟩ := hkf.slices
    have r0 := Q.cell (j := 0) (i := 0) rfl rfl
    have r1 := Q.cell (j := 0) (i := 1) rfl rfl
    have r2 := Q.cell (j := 0) (i := 2) rfl rfl
    have r3 := Q.cell (j := 0) (i := 3) rfl rfl
    rw [Nat.add_zero] at r0 r1 r2 r3
    have hbFJ := (hbG.trans (hbH.mono hbG.size))
    have hbFJ := hbFJ.trans (hbn.mono hbFJ.size)
    replace o0 := ckb' o0 hbFJ
    replace o1 := ckb' o1 hbFJ
    replace o2 := ckb' o2 hbFJ
    replace o3 := ckb' o3 hbFJ
    replace n0 := ckb' n0 hbFJ
    replace n1 := ckb' n1 hbFJ
    replace n2 := ckb' n2 hbFJ
    replace n3 := ckb' n3 hbFJ
    have HBJ := hide hbJ
    clear hFK hFWJ hkf Q hbn hbFH hbFG hbG hbH hbF hbFJ hbJ
    go_wp2_with fail
    refine HQJ.out.mono ?_
    clear HQJ r0 r1 r2 r3 o0 o1 o2 o3
    rintro e wK ⟨rfl, hbK⟩
    replace n0 := ckb' n0 hbK
    replace n1 := ckb' n1 hbK
    replace n2 := ckb' n2 hbK
    replace n3 := ckb' n3 hbK
    have hbEK := HBJ.out.trans (hbK.mono HBJ.out.size)
    have HHK := hide (heldFrame_any (.bool D.ok) _ _ _ D 1 wK (HFGE.out.keep (Q := In wK) (same_below hbEK fun b hb => hb.2) fun b hb => Nat.lt_of_lt_of_le hb.2 hbEK.size) SD.out (by omega) (by omega))
    rw [HCN.out] at HHK
    have HFK := hide (HBE.out.trans (hbEK.mono HBE.out.size))
    clear hbEK hbK HBJ
    go_wp2_with fail
    refine HHK.out.mono ?_
    clear HHK n0 n1 n2 n3
    rintro e wL ⟨rfl, hbL⟩
    have HFL := hide (HFK.out.trans (hbL.mono HFK.out.size))
    clear hbL
    go_wp2
    go_ret
    exact ⟨rfl, HFL.out⟩
end Go.Proofs.YtdhinkgjiapigaaDoor

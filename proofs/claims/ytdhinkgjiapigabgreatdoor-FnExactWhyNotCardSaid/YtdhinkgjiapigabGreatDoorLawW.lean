import Derived.Test.YtdhinkgjiapigabGreatDoorWhyW
import Derived.Test.YtdhinkgjiapigabGreatDoorSzA
import Derived.Test.YtdhinkgjiapigabGreatDoorToC
import Derived.Test.YtdhinkgjiapigabGreatDoorEqG
import Derived.Deep.RegionWith
import Derived.Deep.DeepCutAuto
namespace Go.Proofs.YtdhinkgjiapigabGreatDoor
open Go.RowKit Go.Deep
open Classical

set_option maxRecDepth 100000 in
set_option maxHeartbeats 8000000 in
theorem lawW_any (v1 v2 v3 f1 f2 f3 : Value) (p : PlanD) (d : FrameD) (k : Int) (w : World) (hp : PlanAt (In w) w v1 v2 v3 p) (hf : FrameAt (In w) w f1 f2 f3 d) (hs : p.Small 9223372036854775807) (hfs : d.Small 9223372036854775807) (hg : w.cell? ⟨1, 0, none⟩ = some errT) :
    Calls Tryz.prog 9 #[.agg #[.int .i64 p.sections, v1, v2, v3, .int .i64 p.hold], .agg #[.bool d.ok, f1, f2, f3], .int .i64 k] w fun e w' => e = .returned (.bool true) ∧ Below w.heap.size w w' := by
  have T0 := boxes2 w 26 31 #[.int .i64 p.sections, v1, v2, v3, .int .i64 p.hold] #[.bool d.ok, f1, f2, f3]
  have hk : ∀ W, Boxes w [(26, #[.int .i64 p.sections, v1, v2, v3, .int .i64 p.hold]), (31, #[.bool d.ok, f1, f2, f3])] W → PlanAt (In W) W v1 v2 v3 p := fun W h => hp.keep (In.keep h.below).1 (In.keep h.below).2
  have hkf : ∀ W, Boxes w [(26, #[.int .i64 p.sections, v1, v2, v3, .int .i64 p.hold]), (31, #[.bool d.ok, f1, f2, f3])] W → FrameAt (In W) W f1 f2 f3 d := fun W h => hf.keep (In.keep h.below).1 (In.keep h.below).2
  have HK := hide hk
  have HF := hide hkf
  clear hk hkf hp hf
  go_enter Tryz.func9, Tryz.ntmps9
  go_wp2_with fail
  refine (szPlan_any p.sections p.hold v1 v2 v3 p 1048576 _ (HK.out _ T0) hs (by omega) (by omega)).mono ?_
  rintro e w1 ⟨r, rfl, hb, hr | ⟨pr, pr2, sm⟩⟩
  · subst hr
    have T1 := T0.call hb
    go_wp2
    go_ret
    exact ⟨rfl, T1.below⟩
  have SM := hide sm
  have T1 := T0.call hb
  clear sm hs T0 hb
  have b0 := T1.cell (j := 0) (i := 0) rfl rfl
  have b1 := T1.cell (j := 0) (i := 1) rfl rfl
  have b2 := T1.cell (j := 0) (i := 2) rfl rfl
  have b3 := T1.cell (j := 0) (i := 3) rfl rfl
  have b4 := T1.cell (j := 0) (i := 4) rfl rfl
  have e0 := T1.cell (j := 1) (i := 0) rfl rfl
  have e1 := T1.cell (j := 1) (i := 1) rfl rfl
  have e2 := T1.cell (j := 1) (i := 2) rfl rfl
  have e3 := T1.cell (j := 1) (i := 3) rfl rfl
  rw [Nat.add_zero] at b0 b1 b2 b3 b4
  go_wp2_with fail
  refine (szFrame_any _ f1 f2 f3 d r _ (HF.out _ T1) hfs pr (by omega)).mono ?_
  clear b0 b1 b2 b3 b4 e0 e1 e2 e3
  rintro e w2 ⟨r2, rfl, hb, hr | ⟨pr3, -, sm⟩⟩
  · subst hr
    have T2 := T1.call hb
    go_wp2
    go_ret
    exact ⟨rfl, T2.below⟩
  have SF := hide sm
  have T2 := T1.call hb
  clear sm hfs T1 hb
  have b0 := T2.cell (j := 0) (i := 0) rfl rfl
  have b1 := T2.cell (j := 0) (i := 1) rfl rfl
  have b2 := T2.cell (j := 0) (i := 2) rfl rfl
  have b3 := T2.cell (j := 0) (i := 3) rfl rfl
  have b4 := T2.cell (j := 0) (i := 4) rfl rfl
  have e0 := T2.cell (j := 1) (i := 0) rfl rfl
  have e1 := T2.cell (j := 1) (i := 1) rfl rfl
  have e2 := T2.cell (j := 1) (i := 2) rfl rfl
  have e3 := T2.cell (j := 1) (i := 3) rfl rfl
  rw [Nat.add_zero] at b0 b1 b2 b3 b4
  have HT := hide (T2.call (below_drew _))
  have hq : Calls Tryz.prog 16 #[.agg #[.int .i64 p.sections, v1, v2, v3, .int .i64 p.hold]] w2.drew fun e w' => ∃ u1 u2 u3, e = .returned (.agg #[.int .i64 p.sections, u1, u2, u3, .int .i64 p.hold]) ∧ Boxes w [(26, #[.int .i64 p.sections, v1, v2, v3, .int .i64 p.hold]), (31, #[.bool d.ok, f1, f2, f3])] w' ∧ PlanAt (In w') w' u1 u2 u3 p := by
    refine (toPlan_any p.sections p.hold v1 v2 v3 p _ (HK.out _ HT.out) SM.out).mono ?_
    rintro e w' ⟨u1, u2, u3, rfl, hb, hu⟩
    exact ⟨u1, u2, u3, rfl, HT.out.call hb, hu.keep (same_refl _ _) fun b hb => hb.2.1⟩
  have HQ := hide hq
  clear hq
  go_upto_region 8 with fail
  go_cut [8] (fun v wc => v = .int .i64 (whyOf p d k) ∧ Boxes w [(26, #[.int .i64 p.sections, v1, v2, v3, .int .i64 p.hold]), (31, #[.bool d.ok, f1, f2, f3])] wc)
  case first =>
    go_region_with (first | (go_at_call 16; refine HQ.out.mono ?_; rintro e w3 ⟨u1, u2, u3, rfl, T3, hu⟩; have HU := hide hu; have HT3 := hide T3; clear hu; have i0 := T3.cell (j := 1) (i := 0) rfl rfl; have i1 := T3.cell (j := 1) (i := 1) rfl rfl; have i2 := T3.cell (j := 1) (i := 2) rfl rfl; have i3 := T3.cell (j := 1) (i := 3) rfl rfl; clear T3) | (go_at_call 17; refine (toFrame_any _ f1 f2 f3 d _ (HF.out _ HT3.out) SF.out).mono ?_; rintro e w4 ⟨g1, g2, g3, rfl, hb4, hgf⟩; have HG := hide hgf; have HB4 := hide hb4; clear hgf hb4) | (go_at_call 47; refine (specWhyNot_any _ _ _ _ _ _ p d k _ (HU.out.keep (In.keep HB4.out).1 (In.keep HB4.out).2) (HG.out.keep (same_refl _ _) fun b hb => hb.2.1) SM.out SF.out).mono ?_; rintro e w5 ⟨rfl, hb5⟩; have HB5 := hide hb5; clear hb5))
    all_goals
      go_wp2_with fail
      go_meet
      exact ⟨rfl, (HT3.out.call HB4.out).call HB5.out⟩
  case rest =>
    obtain ⟨rfl, T3⟩ := hcut
    clear b0 b1 b2 b3 b4 e0 e1 e2 e3 HQ HT T2
    have b0 := T3.cell (j := 0) (i := 0) rfl rfl
    have b1 := T3.cell (j := 0) (i := 1) rfl rfl
    have b2 := T3.cell (j := 0) (i := 2) rfl rfl
    have b3 := T3.cell (j := 0) (i := 3) rfl rfl
    have b4 := T3.cell (j := 0) (i := 4) rfl rfl
    have e0 := T3.cell (j := 1) (i := 0) rfl rfl
    have e1 := T3.cell (j := 1) (i := 1) rfl rfl
    have e2 := T3.cell (j := 1) (i := 2) rfl rfl
    have e3 := T3.cell (j := 1) (i := 3) rfl rfl
    rw [Nat.add_zero] at b0 b1 b2 b3 b4
    go_wp2_with fail
    refine (toPlanC_any p.sections p.hold v1 v2 v3 p _ (HK.out _ T3) SM.out).mono ?_
    clear b0 b1 b2 b3 b4 e0 e1 e2 e3
    rintro e w4 ⟨x1, x2, x3, rfl, hb, hx, hxc⟩
    have HXC := hide (hxc.keep (same_refl _ _) (Q := In w4) fun b hb => hb.2.1)
    clear hxc
    have T4 := T3.call hb
    have hx2 := hx.keep (same_refl _ _) (Q := In w4) fun b hb => hb.2.1
    clear T3 hb hx
    have HX := hide hx2
    obtain ⟨⟨y1, z1, rfl, -⟩, ⟨y2, z2, rfl, -⟩, ⟨y3, z3, rfl, -⟩⟩ := hx2
    have T5 := T4.call (below_new w4 (.cells #[.int .i64 p.sections, .slice y1 p.switches.length z1, .slice y2 p.ways.length z2, .slice y3 p.bars.length z3, .int .i64 p.hold] 37))
    have X5 := boxes1 w4 37 #[.int .i64 p.sections, .slice y1 p.switches.length z1, .slice y2 p.ways.length z2, .slice y3 p.bars.length z3, .int .i64 p.hold]
    clear T4
    have b0 := T5.cell (j := 0) (i := 0) rfl rfl
    have b1 := T5.cell (j := 0) (i := 1) rfl rfl
    have b2 := T5.cell (j := 0) (i := 2) rfl rfl
    have b3 := T5.cell (j := 0) (i := 3) rfl rfl
    have b4 := T5.cell (j := 0) (i := 4) rfl rfl
    have e0 := T5.cell (j := 1) (i := 0) rfl rfl
    have e1 := T5.cell (j := 1) (i := 1) rfl rfl
    have e2 := T5.cell (j := 1) (i := 2) rfl rfl
    have e3 := T5.cell (j := 1) (i := 3) rfl rfl
    rw [Nat.add_zero] at b0 b1 b2 b3 b4
    go_wp2_with fail
    refine (toFrame_any _ f1 f2 f3 d _ (HF.out _ T5) SF.out).mono ?_
    clear b0 b1 b2 b3 b4 e0 e1 e2 e3
    rintro e w6 ⟨g1, g2, g3, rfl, hb, hgf⟩
    have T6 := T5.call hb
    have X6 := X5.call hb
    have hg2 := hgf.keep (same_refl _ _) (Q := In w6) fun b hb => hb.2.1
    clear T5 X5 hb hgf
    have HG := hide hg2
    obtain ⟨⟨q1, s1, rfl, -⟩, ⟨q2, s2, rfl, -⟩, ⟨q3, s3, rfl, -⟩⟩ := hg2
    have hbn := below_new w6 (.cells #[.bool d.ok, .slice q1 d.occ.length s1, .slice q2 d.points.length s2, .slice q3 d.ways.length s3] 42)
    have T7 := T6.call hbn
    have X7 := X6.call hbn
    have Y7 := boxes1 w6 42 #[.bool d.ok, .slice q1 d.occ.length s1, .slice q2 d.points.length s2, .slice q3 d.ways.length s3]
    clear T6 X6 hbn
    have m0 := X7.cell (j := 0) (i := 0) rfl rfl
    have m1 := X7.cell (j := 0) (i := 1) rfl rfl
    have m2 := X7.cell (j := 0) (i := 2) rfl rfl
    have m3 := X7.cell (j := 0) (i := 3) rfl rfl
    have m4 := X7.cell (j := 0) (i := 4) rfl rfl
    rw [Nat.add_zero] at m0 m1 m2 m3 m4
    have n0 := Y7.cell (j := 0) (i := 0) rfl rfl
    have n1 := Y7.cell (j := 0) (i := 1) rfl rfl
    have n2 := Y7.cell (j := 0) (i := 2) rfl rfl
    have n3 := Y7.cell (j := 0) (i := 3) rfl rfl
    rw [Nat.add_zero] at n0 n1 n2 n3
    have hI := implWhyNot_any _ _ _ _ _ _ p d k _ (HX.out.keep (In.keep X7.below).1 (In.keep X7.below).2) (HXC.out.keep (In.keep X7.below).1 (In.keep X7.below).2) (HG.out.keep (In.keep Y7.below).1 (In.keep Y7.below).2) SM.out SF.out (ck hg T7.below)
    have HI := hide hI
    clear hI
    go_wp2_with fail
    refine HI.out.mono ?_
    clear m0 m1 m2 m3 m4 n0 n1 n2 n3
    rintro e w8 ⟨rfl, hb⟩
    have T8 := T7.call hb
    have X8 := X7.call hb
    have Y8 := Y7.call hb
    clear T7 X7 Y7 hb HI
    have HT := hide (T8.call (below_drew _))
    have HX8 := hide (X8.call (below_drew _))
    have HY8 := hide (Y8.call (below_drew _))
    have hq : Calls Tryz.prog 16 #[.agg #[.int .i64 p.sections, v1, v2, v3, .int .i64 p.hold]] w8.drew fun e w' => ∃ u1 u2 u3, e = .returned (.agg #[.int .i64 p.sections, u1, u2, u3, .int .i64 p.hold]) ∧ Below w8.drew.heap.size w8.drew w' ∧ PlanAt (In w') w' u1 u2 u3 p ∧ (w'.cell? ⟨w4.heap.size, 0, none⟩ = some (.int .i64 p.sections) ∧ w'.cell? ⟨w4.heap.size, 1, none⟩ = some (.slice y1 p.switches.length z1) ∧ w'.cell? ⟨w4.heap.size, 2, none⟩ = some (.slice y2 p.ways.length z2) ∧ w'.cell? ⟨w4.heap.size, 3, none⟩ = some (.slice y3 p.bars.length z3) ∧ w'.cell? ⟨w4.heap.size, 4, none⟩ = some (.int .i64 p.hold)) := by
      refine (toPlan_any p.sections p.hold v1 v2 v3 p _ (HK.out _ HT.out) SM.out).mono ?_
      rintro e w' ⟨u1, u2, u3, rfl, hb, hu⟩
      have X9 := HX8.out.call hb
      exact ⟨u1, u2, u3, rfl, hb, hu.keep (same_refl _ _) fun b hb => hb.2.1, X9.cell (j := 0) (i := 0) rfl rfl, X9.cell (j := 0) (i := 1) rfl rfl, X9.cell (j := 0) (i := 2) rfl rfl, X9.cell (j := 0) (i := 3) rfl rfl, X9.cell (j := 0) (i := 4) rfl rfl⟩
    have HQ := hide hq
    have hq2 : ∀ W u1 u2 u3, Below w8.drew.heap.size w8.drew W → PlanAt (In W) W u1 u2 u3 p → Calls Tryz.prog 19 #[.agg #[.int .i64 p.sections, .slice y1 p.switches.length z1, .slice y2 p.ways.length z2, .slice y3 p.bars.length z3, .int .i64 p.hold], .agg #[.int .i64 p.sections, u1, u2, u3, .int .i64 p.hold]] W fun e w' => e = .returned (.bool true) ∧ Below w8.drew.heap.size w8.drew w' := fun W u1 u2 u3 hbw hpw => by
      have XX := HX8.out.call hbw
      refine (eqPlan_any p.sections p.hold _ _ _ u1 u2 u3 p W (HX.out.keep (In.keep XX.below).1 (In.keep XX.below).2) hpw SM.out).mono ?_
      rintro e w' ⟨rfl, hb⟩
      exact ⟨rfl, hbw.trans (hb.mono hbw.size)⟩
    have HQ2 := hide hq2
    have b0 := T8.cell (j := 0) (i := 0) rfl rfl
    have b1 := T8.cell (j := 0) (i := 1) rfl rfl
    have b2 := T8.cell (j := 0) (i := 2) rfl rfl
    have b3 := T8.cell (j := 0) (i := 3) rfl rfl
    have b4 := T8.cell (j := 0) (i := 4) rfl rfl
    have e0 := T8.cell (j := 1) (i := 0) rfl rfl
    have e1 := T8.cell (j := 1) (i := 1) rfl rfl
    have e2 := T8.cell (j := 1) (i := 2) rfl rfl
    have e3 := T8.cell (j := 1) (i := 3) rfl rfl
    rw [Nat.add_zero] at b0 b1 b2 b3 b4
    have m0 := X8.cell (j := 0) (i := 0) rfl rfl
    have m1 := X8.cell (j := 0) (i := 1) rfl rfl
    have m2 := X8.cell (j := 0) (i := 2) rfl rfl
    have m3 := X8.cell (j := 0) (i := 3) rfl rfl
    have m4 := X8.cell (j := 0) (i := 4) rfl rfl
    rw [Nat.add_zero] at m0 m1 m2 m3 m4
    clear hq hq2
    go_wp2
    go_cut [43] (fun v wc => v = .bool false ∧ Below w8.heap.size w8 wc)
    case first =>
      go_region_with (first | (go_at_call 16; refine HQ.out.mono ?_; rintro e w9 ⟨u1, u2, u3, rfl, hb9, hp9, k0, k1, k2, k3, k4⟩; have HP9 := hide hp9; have HB9 := hide hb9; clear hp9 hb9) | (go_at_call 19; refine (HQ2.out _ _ _ _ HB9.out HP9.out).mono ?_; rintro e wa ⟨rfl, hba⟩; have HBA := hide hba; clear hba))
      all_goals
        go_wp2_with fail
        go_meet
        exact ⟨rfl, (below_drew w8).trans (HBA.out.mono (below_drew w8).size)⟩
    case rest =>
      obtain ⟨rfl, hbc⟩ := hcut
      have T9 := T8.call hbc
      have Y9 := Y8.call hbc
      clear b0 b1 b2 b3 b4 e0 e1 e2 e3 m0 m1 m2 m3 m4 HQ HQ2 HT HX8 HY8 T8 X8 Y8 hbc
      have HT := hide (T9.call (below_drew _))
      have HY9 := hide (Y9.call (below_drew _))
      have hq : Calls Tryz.prog 17 #[.agg #[.bool d.ok, f1, f2, f3]] wc.drew fun e w' => ∃ u1 u2 u3, e = .returned (.agg #[.bool d.ok, u1, u2, u3]) ∧ Below wc.drew.heap.size wc.drew w' ∧ FrameAt (In w') w' u1 u2 u3 d ∧ (w'.cell? ⟨w6.heap.size, 0, none⟩ = some (.bool d.ok) ∧ w'.cell? ⟨w6.heap.size, 1, none⟩ = some (.slice q1 d.occ.length s1) ∧ w'.cell? ⟨w6.heap.size, 2, none⟩ = some (.slice q2 d.points.length s2) ∧ w'.cell? ⟨w6.heap.size, 3, none⟩ = some (.slice q3 d.ways.length s3)) := by
        refine (toFrame_any _ f1 f2 f3 d _ (HF.out _ HT.out) SF.out).mono ?_
        rintro e w' ⟨u1, u2, u3, rfl, hb, hu⟩
        have Ya := HY9.out.call hb
        exact ⟨u1, u2, u3, rfl, hb, hu.keep (same_refl _ _) fun b hb => hb.2.1, Ya.cell (j := 0) (i := 0) rfl rfl, Ya.cell (j := 0) (i := 1) rfl rfl, Ya.cell (j := 0) (i := 2) rfl rfl, Ya.cell (j := 0) (i := 3) rfl rfl⟩
      have HQ := hide hq
      have hq2 : ∀ W u1 u2 u3, Below wc.drew.heap.size wc.drew W → FrameAt (In W) W u1 u2 u3 d → Calls Tryz.prog 20 #[.agg #[.bool d.ok, .slice q1 d.occ.length s1, .slice q2 d.points.length s2, .slice q3 d.ways.length s3], .agg #[.bool d.ok, u1, u2, u3]] W fun e w' => e = .returned (.bool true) ∧ Below w.heap.size w w' := fun W u1 u2 u3 hbw hpw => by
        have TT := HT.out.call hbw
        have YY := HY9.out.call hbw
        refine (eqFrame_any d.ok _ _ _ u1 u2 u3 d W (HG.out.keep (In.keep YY.below).1 (In.keep YY.below).2) hpw SF.out).mono ?_
        rintro e w' ⟨rfl, hb⟩
        exact ⟨rfl, TT.below.trans (hb.mono TT.below.size)⟩
      have HQ2 := hide hq2
      have b0 := T9.cell (j := 0) (i := 0) rfl rfl
      have b1 := T9.cell (j := 0) (i := 1) rfl rfl
      have b2 := T9.cell (j := 0) (i := 2) rfl rfl
      have b3 := T9.cell (j := 0) (i := 3) rfl rfl
      have b4 := T9.cell (j := 0) (i := 4) rfl rfl
      have e0 := T9.cell (j := 1) (i := 0) rfl rfl
      have e1 := T9.cell (j := 1) (i := 1) rfl rfl
      have e2 := T9.cell (j := 1) (i := 2) rfl rfl
      have e3 := T9.cell (j := 1) (i := 3) rfl rfl
      rw [Nat.add_zero] at b0 b1 b2 b3 b4
      have n0 := Y9.cell (j := 0) (i := 0) rfl rfl
      have n1 := Y9.cell (j := 0) (i := 1) rfl rfl
      have n2 := Y9.cell (j := 0) (i := 2) rfl rfl
      have n3 := Y9.cell (j := 0) (i := 3) rfl rfl
      rw [Nat.add_zero] at n0 n1 n2 n3
      clear hq hq2
      go_wp2
      go_region_with (first | (go_at_call 17; refine HQ.out.mono ?_; rintro e wd ⟨u1, u2, u3, rfl, hb9, hp9, k0, k1, k2, k3⟩; have HP9 := hide hp9; have HB9 := hide hb9; clear hp9 hb9) | (go_at_call 20; refine (HQ2.out _ _ _ _ HB9.out HP9.out).mono ?_; rintro e wa ⟨rfl, hba⟩))
      all_goals
        go_wp2
        go_ret
        exact ⟨rfl, hba⟩
end Go.Proofs.YtdhinkgjiapigabGreatDoor

import Derived.Test.YtdhinkgjiapigabGreatDoorPlB
import Derived.Test.YtdhinkgjiapigabGreatDoorPlS
import Derived.Test.YtdhinkgjiapigabGreatDoorMarkA
import Derived.Test.YtdhinkgjiapigabGreatDoorSzA
import Derived.Test.YtdhinkgjiapigabGreatDoorToC
import Derived.Test.YtdhinkgjiapigabGreatDoorEqG
import Derived.Deep.RegionWith
import Derived.Deep.DeepCutAuto
namespace Go.Proofs.YtdhinkgjiapigabGreatDoor
open Go.RowKit Go.Deep
open Classical

theorem OwnI.at {base : Nat} {w : World} {v : Value} {l : List Int} (h : OwnI base w v l) : ∃ b, base ≤ b ∧ Ints (fun c => c = b) w v l ∧ Thaw w b ∧ (l.length = 0 ∨ b < w.heap.size) ∧ l.length ≤ l.length := by
  obtain ⟨m, h⟩ := h
  have hm : m = l.length := by have := h.1; rw [ints_length] at this; omega
  subst hm
  rcases Nat.eq_zero_or_pos l.length with e | e
  · refine ⟨base + w.heap.size, by omega, ?_, fun o => ?_, .inl e, Nat.le_refl _⟩
    · rcases h.2 with ⟨rfl, -⟩ | ⟨g, cap, cur, rfl, -⟩
      · exact ⟨none, 0, by rw [e], .inl e⟩
      · exact ⟨_, cap, rfl, .inl e⟩
    · have : w.heap[base + w.heap.size]? = none := Array.getElem?_eq_none (by omega)
      simp [World.frozen?]
  · obtain ⟨g, cap, f, rfl, hb, hr, hc, hf⟩ := own_row h e
    exact ⟨g, hb, ⟨_, cap, rfl, .inr ⟨g, 0, rfl, rfl, fun i hi x hx => by rw [Nat.zero_add, hr.cell (by omega), hf i (.int .i64 x) (by unfold ints; rw [List.getElem?_map, hx]; rfl)]⟩⟩, fun o => hr.frozen o, .inr hr.lt, Nat.le_refl _⟩
theorem Ints.at_keep {w W : World} {v : Value} {l : List Int} {b : Nat} (h : Ints (fun c => c = b) w v l) (hb : l.length = 0 ∨ b < W.heap.size) (hs : Same (fun c => c = b) w W) : Ints (In W) W v l := by
  rcases hb with e | e
  · obtain ⟨a, cap, rfl, -⟩ := h
    exact ⟨a, cap, rfl, .inl e⟩
  · exact h.keep hs fun c hc => by rw [hc]; exact e

set_option maxRecDepth 100000 in
set_option maxHeartbeats 40000000 in
theorem lawL_any (v1 v2 v3 f1 f2 f3 : Value) (p : PlanD) (d : FrameD) (k : Int) (w : World) (hp : PlanAt (In w) w v1 v2 v3 p) (hf : FrameAt (In w) w f1 f2 f3 d) (hs : p.Small 9223372036854775807) (hfs : d.Small 9223372036854775807) (hg : w.cell? ⟨1, 0, none⟩ = some errT) :
    Calls Tryz.prog 8 #[.agg #[.int .i64 p.sections, v1, v2, v3, .int .i64 p.hold], .agg #[.bool d.ok, f1, f2, f3], .int .i64 k] w fun e w' => e = .returned (.bool true) ∧ Below w.heap.size w w' := by
  have T0 := boxes2 w 26 31 #[.int .i64 p.sections, v1, v2, v3, .int .i64 p.hold] #[.bool d.ok, f1, f2, f3]
  have hk : ∀ W, Boxes w [(26, #[.int .i64 p.sections, v1, v2, v3, .int .i64 p.hold]), (31, #[.bool d.ok, f1, f2, f3])] W → PlanAt (In W) W v1 v2 v3 p := fun W h => hp.keep (In.keep h.below).1 (In.keep h.below).2
  have hkf : ∀ W, Boxes w [(26, #[.int .i64 p.sections, v1, v2, v3, .int .i64 p.hold]), (31, #[.bool d.ok, f1, f2, f3])] W → FrameAt (In W) W f1 f2 f3 d := fun W h => hf.keep (In.keep h.below).1 (In.keep h.below).2
  have HK := hide hk
  have HF := hide hkf
  clear hk hkf hp hf
  go_enter Tryz.func8, Tryz.ntmps8
  go_wp2_with fail
  refine (szPlan_any p.sections p.hold v1 v2 v3 p 1048576 _ (HK.out _ T0) hs (by omega) (by omega)).mono ?_
  rintro e w1 ⟨r, rfl, hb, hr | ⟨pr, pr2, sm⟩⟩
  · subst hr
    have T1 := T0.call hb
    go_wp2
    go_ret
    exact ⟨rfl, T1.below⟩
  have SM := hide sm
  have T1 := T0.call hb
  clear sm hs T0 hb
  have b0 := T1.cell (j := 0) (i := 0) rfl rfl
  have b1 := T1.cell (j := 0) (i := 1) rfl rfl
  have b2 := T1.cell (j := 0) (i := 2) rfl rfl
  have b3 := T1.cell (j := 0) (i := 3) rfl rfl
  have b4 := T1.cell (j := 0) (i := 4) rfl rfl
  have e0 := T1.cell (j := 1) (i := 0) rfl rfl
  have e1 := T1.cell (j := 1) (i := 1) rfl rfl
  have e2 := T1.cell (j := 1) (i := 2) rfl rfl
  have e3 := T1.cell (j := 1) (i := 3) rfl rfl
  rw [Nat.add_zero] at b0 b1 b2 b3 b4
  go_wp2_with fail
  refine (szFrame_any _ f1 f2 f3 d r _ (HF.out _ T1) hfs pr (by omega)).mono ?_
  clear b0 b1 b2 b3 b4 e0 e1 e2 e3
  rintro e w2 ⟨r2, rfl, hb, hr | ⟨pr3, -, sm⟩⟩
  · subst hr
    have T2 := T1.call hb
    go_wp2
    go_ret
    exact ⟨rfl, T2.below⟩
  have SF := hide sm
  have T2 := T1.call hb
  clear sm hfs T1 hb
  have b0 := T2.cell (j := 0) (i := 0) rfl rfl
  have b1 := T2.cell (j := 0) (i := 1) rfl rfl
  have b2 := T2.cell (j := 0) (i := 2) rfl rfl
  have b3 := T2.cell (j := 0) (i := 3) rfl rfl
  have b4 := T2.cell (j := 0) (i := 4) rfl rfl
  have e0 := T2.cell (j := 1) (i := 0) rfl rfl
  have e1 := T2.cell (j := 1) (i := 1) rfl rfl
  have e2 := T2.cell (j := 1) (i := 2) rfl rfl
  have e3 := T2.cell (j := 1) (i := 3) rfl rfl
  rw [Nat.add_zero] at b0 b1 b2 b3 b4
  have HT := hide (T2.call (below_drew _))
  have hq : Calls Tryz.prog 16 #[.agg #[.int .i64 p.sections, v1, v2, v3, .int .i64 p.hold]] w2.drew fun e w' => ∃ u1 u2 u3, e = .returned (.agg #[.int .i64 p.sections, u1, u2, u3, .int .i64 p.hold]) ∧ Boxes w [(26, #[.int .i64 p.sections, v1, v2, v3, .int .i64 p.hold]), (31, #[.bool d.ok, f1, f2, f3])] w' ∧ PlanAt (In w') w' u1 u2 u3 p := by
    refine (toPlan_any p.sections p.hold v1 v2 v3 p _ (HK.out _ HT.out) SM.out).mono ?_
    rintro e w' ⟨u1, u2, u3, rfl, hb, hu⟩
    exact ⟨u1, u2, u3, rfl, HT.out.call hb, hu.keep (same_refl _ _) fun b hb => hb.2.1⟩
  have HQ := hide hq
  clear hq
  go_upto_region 8 with fail
  go_cut [8] (fun v wc => Boxes w [(26, #[.int .i64 p.sections, v1, v2, v3, .int .i64 p.hold]), (31, #[.bool d.ok, f1, f2, f3])] wc ∧ OwnI (w.heap.size + 2) wc v (pointsOf p d k))
  case first =>
    go_region_with (first | (go_at_call 16; refine HQ.out.mono ?_; rintro e w3 ⟨u1, u2, u3, rfl, T3, hu⟩; have HU := hide hu; have HT3 := hide T3; clear hu; have i0 := T3.cell (j := 1) (i := 0) rfl rfl; have i1 := T3.cell (j := 1) (i := 1) rfl rfl; have i2 := T3.cell (j := 1) (i := 2) rfl rfl; have i3 := T3.cell (j := 1) (i := 3) rfl rfl; clear T3) | (go_at_call 17; refine (toFrame_any _ f1 f2 f3 d _ (HF.out _ HT3.out) SF.out).mono ?_; rintro e w4 ⟨g1, g2, g3, rfl, hb4, hgf⟩; have HG := hide hgf; have HB4 := hide hb4; clear hgf hb4) | (go_at_call 42; refine (specPointLock_any _ _ _ _ _ _ p d k _ (HU.out.keep (In.keep HB4.out).1 (In.keep HB4.out).2) (HG.out.keep (same_refl _ _) fun b hb => hb.2.1) SM.out SF.out).mono ?_; rintro e w5 ⟨v5, rfl, hb5, ho5⟩; have HB5 := hide hb5; have HO5 := hide ho5; clear hb5 ho5))
    all_goals
      go_wp2_with fail
      go_meet
      exact ⟨(HT3.out.call HB4.out).call HB5.out, HO5.out.low (by have := (HT3.out.call HB4.out).lt (j := 1) rfl; omega)⟩
  case rest =>
    rename World => wZ
    obtain ⟨T3, hown⟩ := hcut
    have hcsz := T3.lt (j := 1) rfl
    obtain ⟨mw, hrow⟩ := hown
    have hIw := (own_ints hrow).2
    have hvw := hIw.size
    obtain ⟨aw, cw, rfl⟩ := hvw
    have HIW := hide (hIw.keep (same_refl _ _) (Q := In wZ) fun c hc => hc.2)
    clear hrow hIw
    clear b0 b1 b2 b3 b4 e0 e1 e2 e3 HQ HT T2
    have b0 := T3.cell (j := 0) (i := 0) rfl rfl
    have b1 := T3.cell (j := 0) (i := 1) rfl rfl
    have b2 := T3.cell (j := 0) (i := 2) rfl rfl
    have b3 := T3.cell (j := 0) (i := 3) rfl rfl
    have b4 := T3.cell (j := 0) (i := 4) rfl rfl
    have e0 := T3.cell (j := 1) (i := 0) rfl rfl
    have e1 := T3.cell (j := 1) (i := 1) rfl rfl
    have e2 := T3.cell (j := 1) (i := 2) rfl rfl
    have e3 := T3.cell (j := 1) (i := 3) rfl rfl
    rw [Nat.add_zero] at b0 b1 b2 b3 b4
    go_wp2_with fail
    refine (toPlanC_any p.sections p.hold v1 v2 v3 p _ (HK.out _ T3) SM.out).mono ?_
    clear b0 b1 b2 b3 b4 e0 e1 e2 e3
    rintro e w4 ⟨x1, x2, x3, rfl, hb, hx, hxc⟩
    have T4 := T3.call hb
    have hb4c := hb
    have HXC := hide (hxc.keep (same_refl _ _) (Q := In w4) fun b hb => hb.2.1)
    have hx2 := hx.keep (same_refl _ _) (Q := In w4) fun b hb => hb.2.1
    have HXF := hide hx
    clear hxc T3 hb hx
    have HX := hide hx2
    obtain ⟨⟨y1, z1, rfl, -⟩, ⟨y2, z2, rfl, -⟩, ⟨y3, z3, rfl, -⟩⟩ := hx2
    have T5 := T4.call (below_new w4 (.cells #[.int .i64 p.sections, .slice y1 p.switches.length z1, .slice y2 p.ways.length z2, .slice y3 p.bars.length z3, .int .i64 p.hold] 37))
    have X5 := boxes1 w4 37 #[.int .i64 p.sections, .slice y1 p.switches.length z1, .slice y2 p.ways.length z2, .slice y3 p.bars.length z3, .int .i64 p.hold]
    clear T4
    have b0 := T5.cell (j := 0) (i := 0) rfl rfl
    have b1 := T5.cell (j := 0) (i := 1) rfl rfl
    have b2 := T5.cell (j := 0) (i := 2) rfl rfl
    have b3 := T5.cell (j := 0) (i := 3) rfl rfl
    have b4 := T5.cell (j := 0) (i := 4) rfl rfl
    have e0 := T5.cell (j := 1) (i := 0) rfl rfl
    have e1 := T5.cell (j := 1) (i := 1) rfl rfl
    have e2 := T5.cell (j := 1) (i := 2) rfl rfl
    have e3 := T5.cell (j := 1) (i := 3) rfl rfl
    rw [Nat.add_zero] at b0 b1 b2 b3 b4
    go_wp2_with fail
    refine (toFrame_any _ f1 f2 f3 d _ (HF.out _ T5) SF.out).mono ?_
    clear b0 b1 b2 b3 b4 e0 e1 e2 e3
    rintro e w6 ⟨g1, g2, g3, rfl, hb, hgf⟩
    have T6 := T5.call hb
    have X6 := X5.call hb
    have hg2 := hgf.keep (same_refl _ _) (Q := In w6) fun b hb => hb.2.1
    have HGF := hide hgf
    have hb56 := hb.size
    clear T5 X5 hb hgf
    have HG := hide hg2
    obtain ⟨⟨q1, s1, rfl, -⟩, ⟨q2, s2, rfl, -⟩, ⟨q3, s3, rfl, -⟩⟩ := hg2
    have hbn := below_new w6 (.cells #[.bool d.ok, .slice q1 d.occ.length s1, .slice q2 d.points.length s2, .slice q3 d.ways.length s3] 42)
    have T7 := T6.call hbn
    have X7 := X6.call hbn
    have Y7 := boxes1 w6 42 #[.bool d.ok, .slice q1 d.occ.length s1, .slice q2 d.points.length s2, .slice q3 d.ways.length s3]
    have hs45 : w4.heap.size < w6.heap.size := X6.lt (j := 0) rfl
    clear T6 X6 hbn
    have m0 := X7.cell (j := 0) (i := 0) rfl rfl
    have m1 := X7.cell (j := 0) (i := 1) rfl rfl
    have m2 := X7.cell (j := 0) (i := 2) rfl rfl
    have m3 := X7.cell (j := 0) (i := 3) rfl rfl
    have m4 := X7.cell (j := 0) (i := 4) rfl rfl
    rw [Nat.add_zero] at m0 m1 m2 m3 m4
    have n0 := Y7.cell (j := 0) (i := 0) rfl rfl
    have n1 := Y7.cell (j := 0) (i := 1) rfl rfl
    have n2 := Y7.cell (j := 0) (i := 2) rfl rfl
    have n3 := Y7.cell (j := 0) (i := 3) rfl rfl
    rw [Nat.add_zero] at n0 n1 n2 n3
    have hI := implPointLock_any _ _ _ _ _ _ p d k _ (HX.out.keep (In.keep X7.below).1 (In.keep X7.below).2) (HXC.out.keep (In.keep X7.below).1 (In.keep X7.below).2) (HG.out.keep (In.keep Y7.below).1 (In.keep Y7.below).2) SM.out SF.out (ck hg T7.below)
    have HI := hide hI
    clear hI
    go_wp2_with fail
    refine HI.out.mono ?_
    clear m0 m1 m2 m3 m4 n0 n1 n2 n3
    rintro e w8 ⟨vg, rfl, hb, hog⟩
    have T8 := T7.call hb
    have X8 := X7.call hb
    have Y8 := Y7.call hb
    have hs8 := Y8.lt (j := 0) rfl
    obtain ⟨bg, hbg, hIg, hTg, hlg, -⟩ := hog.at
    have hbg6 : w6.heap.size < bg := by
      have : (w6.alloc (.cells #[.bool d.ok, .slice q1 d.occ.length s1, .slice q2 d.points.length s2, .slice q3 d.ways.length s3] 42)).heap.size = w6.heap.size + 1 := by simp
      omega
    obtain ⟨ag, cg, rfl⟩ := hIg.size
    have HIG := hide hIg
    have HTG := hide hTg
    clear T7 X7 Y7 hb HI hog hIg hTg hbg
    have hLn := pointsOf_length p d k SM.out
    obtain ⟨L, hL⟩ : ∃ L, L = pointsOf p d k := ⟨_, rfl⟩
    rw [← hL] at HIG hlg hLn HIW ⊢
    have HL := hide hL
    clear hL
    have hbcw : Below wZ.heap.size wZ w8 := hb4c.trans (X8.below.mono hb4c.size)
    have hIw8 := HIW.out.keep (In.keep hbcw).1 (In.keep hbcw).2
    have hIg8 := HIG.out.at_keep hlg (same_refl _ _)
    have HQ8 := hide (eqIntS_any _ _ L w8 hIg8 hIw8 hLn)
    clear hIw8 hIg8
    go_wp2_with fail
    refine HQ8.out.mono ?_
    rintro e w9 ⟨rfl, nd, hw9⟩
    have hb9 : Below w8.heap.size w8 w9 := by rw [hw9]; exact ⟨rfl, rfl, rfl, Nat.le_refl _, fun _ _ => rfl⟩
    have T9 := T8.call hb9
    have X9 := X8.call hb9
    have Y9 := Y8.call hb9
    have hs9 := hb9.size
    have hbg9 : Same (fun c => c = bg) w8 w9 := fun c _ o => by rw [hw9]; rfl
    have hth9 : Thaw w9 bg := fun o => by rw [hw9]; exact HTG.out o
    have HIG9 := hide (HIG.out.keep hbg9 (Q := fun c => c = bg) fun _ h => h)
    have HTG9 := hide hth9
    have hlg9 : L.length = 0 ∨ bg < w9.heap.size := hlg.imp id fun h => by omega
    have hbc9 : Below wZ.heap.size wZ w9 := hbcw.trans (hb9.mono hbcw.size)
    clear T8 X8 Y8 hb9 hw9 HQ8 HIG HTG hbg9 hth9 hlg hbcw
    have HT := hide (T9.call (below_drew _))
    have HX9 := hide (X9.call (below_drew _))
    have hq : Calls Tryz.prog 16 #[.agg #[.int .i64 p.sections, v1, v2, v3, .int .i64 p.hold]] w9.drew fun e w' => ∃ u1 u2 u3, e = .returned (.agg #[.int .i64 p.sections, u1, u2, u3, .int .i64 p.hold]) ∧ Below w9.drew.heap.size w9.drew w' ∧ PlanAt (In w') w' u1 u2 u3 p ∧ (w'.cell? ⟨w4.heap.size, 0, none⟩ = some (.int .i64 p.sections) ∧ w'.cell? ⟨w4.heap.size, 1, none⟩ = some (.slice y1 p.switches.length z1) ∧ w'.cell? ⟨w4.heap.size, 2, none⟩ = some (.slice y2 p.ways.length z2) ∧ w'.cell? ⟨w4.heap.size, 3, none⟩ = some (.slice y3 p.bars.length z3) ∧ w'.cell? ⟨w4.heap.size, 4, none⟩ = some (.int .i64 p.hold)) := by
      refine (toPlan_any p.sections p.hold v1 v2 v3 p _ (HK.out _ HT.out) SM.out).mono ?_
      rintro e w' ⟨u1, u2, u3, rfl, hb, hu⟩
      have Xa := HX9.out.call hb
      exact ⟨u1, u2, u3, rfl, hb, hu.keep (same_refl _ _) fun b hb => hb.2.1, Xa.cell (j := 0) (i := 0) rfl rfl, Xa.cell (j := 0) (i := 1) rfl rfl, Xa.cell (j := 0) (i := 2) rfl rfl, Xa.cell (j := 0) (i := 3) rfl rfl, Xa.cell (j := 0) (i := 4) rfl rfl⟩
    have HQ := hide hq
    have hq2 : ∀ W u1 u2 u3, Below w9.drew.heap.size w9.drew W → PlanAt (In W) W u1 u2 u3 p → Calls Tryz.prog 19 #[.agg #[.int .i64 p.sections, .slice y1 p.switches.length z1, .slice y2 p.ways.length z2, .slice y3 p.bars.length z3, .int .i64 p.hold], .agg #[.int .i64 p.sections, u1, u2, u3, .int .i64 p.hold]] W fun e w' => e = .returned (.bool true) ∧ Below w9.drew.heap.size w9.drew w' := fun W u1 u2 u3 hbw hpw => by
      have XX := HX9.out.call hbw
      refine (eqPlan_any p.sections p.hold _ _ _ u1 u2 u3 p W (HX.out.keep (In.keep XX.below).1 (In.keep XX.below).2) hpw SM.out).mono ?_
      rintro e w' ⟨rfl, hb⟩
      exact ⟨rfl, hbw.trans (hb.mono hbw.size)⟩
    have HQ2 := hide hq2
    have b0 := T9.cell (j := 0) (i := 0) rfl rfl
    have b1 := T9.cell (j := 0) (i := 1) rfl rfl
    have b2 := T9.cell (j := 0) (i := 2) rfl rfl
    have b3 := T9.cell (j := 0) (i := 3) rfl rfl
    have b4 := T9.cell (j := 0) (i := 4) rfl rfl
    have e0 := T9.cell (j := 1) (i := 0) rfl rfl
    have e1 := T9.cell (j := 1) (i := 1) rfl rfl
    have e2 := T9.cell (j := 1) (i := 2) rfl rfl
    have e3 := T9.cell (j := 1) (i := 3) rfl rfl
    rw [Nat.add_zero] at b0 b1 b2 b3 b4
    have m0 := X9.cell (j := 0) (i := 0) rfl rfl
    have m1 := X9.cell (j := 0) (i := 1) rfl rfl
    have m2 := X9.cell (j := 0) (i := 2) rfl rfl
    have m3 := X9.cell (j := 0) (i := 3) rfl rfl
    have m4 := X9.cell (j := 0) (i := 4) rfl rfl
    rw [Nat.add_zero] at m0 m1 m2 m3 m4
    clear hq hq2
    go_wp2
    go_cut [48] (fun v wk => v = .bool false ∧ Below w9.heap.size w9 wk)
    case first =>
      go_region_with (first | (go_at_call 16; refine HQ.out.mono ?_; rintro e wa ⟨u1, u2, u3, rfl, hb9, hp9, k0, k1, k2, k3, k4⟩; have HP9 := hide hp9; have HB9 := hide hb9; clear hp9 hb9) | (go_at_call 19; refine (HQ2.out _ _ _ _ HB9.out HP9.out).mono ?_; rintro e wb ⟨rfl, hba⟩; have HBA := hide hba; clear hba))
      all_goals
        go_wp2_with fail
        go_meet
        exact ⟨rfl, (below_drew w9).trans (HBA.out.mono (below_drew w9).size)⟩
    case rest =>
      rename World => wk
      obtain ⟨rfl, hbk⟩ := hcut
      have TA := T9.call hbk
      have YA := Y9.call hbk
      clear b0 b1 b2 b3 b4 e0 e1 e2 e3 m0 m1 m2 m3 m4 HQ HQ2 HT HX9
      have HT := hide (TA.call (below_drew _))
      have HYA := hide (YA.call (below_drew _))
      have hq : Calls Tryz.prog 17 #[.agg #[.bool d.ok, f1, f2, f3]] wk.drew fun e w' => ∃ u1 u2 u3, e = .returned (.agg #[.bool d.ok, u1, u2, u3]) ∧ Below wk.drew.heap.size wk.drew w' ∧ FrameAt (In w') w' u1 u2 u3 d ∧ (w'.cell? ⟨w6.heap.size, 0, none⟩ = some (.bool d.ok) ∧ w'.cell? ⟨w6.heap.size, 1, none⟩ = some (.slice q1 d.occ.length s1) ∧ w'.cell? ⟨w6.heap.size, 2, none⟩ = some (.slice q2 d.points.length s2) ∧ w'.cell? ⟨w6.heap.size, 3, none⟩ = some (.slice q3 d.ways.length s3)) := by
        refine (toFrame_any _ f1 f2 f3 d _ (HF.out _ HT.out) SF.out).mono ?_
        rintro e w' ⟨u1, u2, u3, rfl, hb, hu⟩
        have Ya := HYA.out.call hb
        exact ⟨u1, u2, u3, rfl, hb, hu.keep (same_refl _ _) fun b hb => hb.2.1, Ya.cell (j := 0) (i := 0) rfl rfl, Ya.cell (j := 0) (i := 1) rfl rfl, Ya.cell (j := 0) (i := 2) rfl rfl, Ya.cell (j := 0) (i := 3) rfl rfl⟩
      have HQ := hide hq
      have hq2 : ∀ W u1 u2 u3, Below wk.drew.heap.size wk.drew W → FrameAt (In W) W u1 u2 u3 d → Calls Tryz.prog 20 #[.agg #[.bool d.ok, .slice q1 d.occ.length s1, .slice q2 d.points.length s2, .slice q3 d.ways.length s3], .agg #[.bool d.ok, u1, u2, u3]] W fun e w' => e = .returned (.bool true) ∧ Below wk.drew.heap.size wk.drew w' := fun W u1 u2 u3 hbw hpw => by
        have YY := HYA.out.call hbw
        refine (eqFrame_any d.ok _ _ _ u1 u2 u3 d W (HG.out.keep (In.keep YY.below).1 (In.keep YY.below).2) hpw SF.out).mono ?_
        rintro e w' ⟨rfl, hb⟩
        exact ⟨rfl, hbw.trans (hb.mono hbw.size)⟩
      have HQ2 := hide hq2
      have b0 := TA.cell (j := 0) (i := 0) rfl rfl
      have b1 := TA.cell (j := 0) (i := 1) rfl rfl
      have b2 := TA.cell (j := 0) (i := 2) rfl rfl
      have b3 := TA.cell (j := 0) (i := 3) rfl rfl
      have b4 := TA.cell (j := 0) (i := 4) rfl rfl
      have e0 := TA.cell (j := 1) (i := 0) rfl rfl
      have e1 := TA.cell (j := 1) (i := 1) rfl rfl
      have e2 := TA.cell (j := 1) (i := 2) rfl rfl
      have e3 := TA.cell (j := 1) (i := 3) rfl rfl
      rw [Nat.add_zero] at b0 b1 b2 b3 b4
      have n0 := YA.cell (j := 0) (i := 0) rfl rfl
      have n1 := YA.cell (j := 0) (i := 1) rfl rfl
      have n2 := YA.cell (j := 0) (i := 2) rfl rfl
      have n3 := YA.cell (j := 0) (i := 3) rfl rfl
      rw [Nat.add_zero] at n0 n1 n2 n3
      clear hq hq2
      go_wp2
      go_cut [53] (fun v wk2 => v = .bool false ∧ Below wk.heap.size wk wk2)
      case first =>
        go_region_with (first | (go_at_call 17; refine HQ.out.mono ?_; rintro e wd ⟨u1, u2, u3, rfl, hb9, hp9, k0, k1, k2, k3⟩; have HP9 := hide hp9; have HB9 := hide hb9; clear hp9 hb9) | (go_at_call 20; refine (HQ2.out _ _ _ _ HB9.out HP9.out).mono ?_; rintro e we ⟨rfl, hba⟩; have HBA := hide hba; clear hba))
        all_goals
          go_wp2_with fail
          go_meet
          exact ⟨rfl, (below_drew wk).trans (HBA.out.mono (below_drew wk).size)⟩
      case rest =>
        rename World => wB
        obtain ⟨rfl, hbB⟩ := hcut
        clear b0 b1 b2 b3 b4 e0 e1 e2 e3 n0 n1 n2 n3 HQ HQ2 HT HYA
        have hb9B : Below w9.heap.size w9 wB := hbk.trans (hbB.mono hbk.size)
        have TB := T9.call hb9B
        have XB := X9.call hb9B
        have YB := Y9.call hb9B
        have hsB := hb9B.size
        clear TA YA hbk hbB T9 X9 Y9
        -- marks in the plan: in its blocks
        have hXB : PlanAt (Fresh wZ w4) wB (.slice y1 p.switches.length z1) (.slice y2 p.ways.length z2) (.slice y3 p.bars.length z3) p := HXF.out.keep (fun b hb o => XB.below.cell (p := ⟨b, o, none⟩) hb.2.1) fun _ h => h
        have hMay : May (Fresh wZ w4) wB := ⟨fun b hb o => (XB.below.frozen (p := ⟨b, o, none⟩) hb.2.1).trans (hb.2.2 o), fun b hb => Nat.lt_of_lt_of_le hb.2.1 XB.below.size⟩
        have HMP := hide (markPlanB_any (Fresh wZ w4) (.int .i64 p.sections) (.int .i64 p.hold) _ _ _ p wB hXB SM.out hMay)
        have m0 := XB.cell (j := 0) (i := 0) rfl rfl
        have m1 := XB.cell (j := 0) (i := 1) rfl rfl
        have m2 := XB.cell (j := 0) (i := 2) rfl rfl
        have m3 := XB.cell (j := 0) (i := 3) rfl rfl
        have m4 := XB.cell (j := 0) (i := 4) rfl rfl
        rw [Nat.add_zero] at m0 m1 m2 m3 m4
        clear hXB hMay
        go_wp2_with fail
        refine HMP.out.mono ?_
        rintro e wC ⟨rk, rfl, hrk0, hrk1, MC⟩
        clear m0 m1 m2 m3 m4 HMP
        have hsC := MC.but.size
        have hFB : FrameAt (Fresh (w4.alloc (.cells #[.int .i64 p.sections, .slice y1 p.switches.length z1, .slice y2 p.ways.length z2, .slice y3 p.bars.length z3, .int .i64 p.hold] 37)) w6) wB (.slice q1 d.occ.length s1) (.slice q2 d.points.length s2) (.slice q3 d.ways.length s3) d := HGF.out.keep (fun b hb o => YB.below.cell (p := ⟨b, o, none⟩) hb.2.1) fun _ h => h
        have hw5 : (w4.alloc (.cells #[.int .i64 p.sections, .slice y1 p.switches.length z1, .slice y2 p.ways.length z2, .slice y3 p.bars.length z3, .int .i64 p.hold] 37)).heap.size = w4.heap.size + 1 := by simp
        have hnP : ∀ b, Fresh (w4.alloc (.cells #[.int .i64 p.sections, .slice y1 p.switches.length z1, .slice y2 p.ways.length z2, .slice y3 p.bars.length z3, .int .i64 p.hold] 37)) w6 b → ¬ Fresh wZ w4 b := fun b hb hc => by have := hb.1; have := hc.2.1; omega
        have hMayB : May (Fresh (w4.alloc (.cells #[.int .i64 p.sections, .slice y1 p.switches.length z1, .slice y2 p.ways.length z2, .slice y3 p.bars.length z3, .int .i64 p.hold] 37)) w6) wB := ⟨fun b hb o => (YB.below.frozen (p := ⟨b, o, none⟩) hb.2.1).trans (hb.2.2 o), fun b hb => Nat.lt_of_lt_of_le hb.2.1 YB.below.size⟩
        have hFC : FrameAt (Fresh (w4.alloc (.cells #[.int .i64 p.sections, .slice y1 p.switches.length z1, .slice y2 p.ways.length z2, .slice y3 p.bars.length z3, .int .i64 p.hold] 37)) w6) wC (.slice q1 d.occ.length s1) (.slice q2 d.points.length s2) (.slice q3 d.ways.length s3) d := hFB.keep (MC.but.same fun b hb => ⟨hMayB.there b hb, hnP b hb⟩) fun _ h => h
        have HMF := hide (markFrameS_any _ (.bool d.ok) _ _ _ d rk wC hFC SF.out (hMayB.marked MC) hrk0 hrk1)
        have hn6 : ¬ Fresh wZ w4 w6.heap.size := fun hc => by have := hc.2.1; omega
        have n0 : wC.cell? ⟨w6.heap.size, 0, none⟩ = some (.bool d.ok) := MC.but.cell (YB.cell (j := 0) (i := 0) rfl rfl) hn6
        have n1 : wC.cell? ⟨w6.heap.size, 1, none⟩ = some (.slice q1 d.occ.length s1) := MC.but.cell (YB.cell (j := 0) (i := 1) rfl rfl) hn6
        have n2 : wC.cell? ⟨w6.heap.size, 2, none⟩ = some (.slice q2 d.points.length s2) := MC.but.cell (YB.cell (j := 0) (i := 2) rfl rfl) hn6
        have n3 : wC.cell? ⟨w6.heap.size, 3, none⟩ = some (.slice q3 d.ways.length s3) := MC.but.cell (YB.cell (j := 0) (i := 3) rfl rfl) hn6
        clear hFB hFC hMayB hnP
        go_wp2_with fail
        refine HMF.out.mono ?_
        rintro e wD ⟨rd, rfl, hrd0, MD⟩
        have hsD := MD.but.size
        clear n0 n1 n2 n3 HMF
        -- what lay ahead of the plan lies there yet, and the answer too
        have hBD : Below wZ.heap.size wB wD := (MC.but.below (by have := hbc9.size; omega) fun c hc hf => by have := hf.1; omega).trans (MD.but.below (by have := hbc9.size; omega) fun c hc hf => by have := hf.1; have := hb4c.size; omega)
        have hbcB : Below wZ.heap.size wZ wB := hbc9.trans (hb9B.mono hbc9.size)
        have hbcD : Below wZ.heap.size wZ wD := hbcB.trans hBD
        have hIgD : Ints (In wD) wD (.slice ag L.length cg) L := by
          rcases hlg9 with e | e
          · exact ⟨_, _, rfl, .inl e⟩
          · refine HIG9.out.keep (fun c hc o => ?_) fun c hc => by rw [hc]; show bg < wD.heap.size; omega
            subst hc
            have k1 := (hb9B.cell (p := ⟨c, o, none⟩) e)
            rw [MD.but.same (P := fun x => x = c) (fun b hb => ⟨by omega, fun hf => by have := hf.2.1; omega⟩) c rfl o, MC.but.same (P := fun x => x = c) (fun b hb => ⟨by omega, fun hf => by have := hf.2.1; omega⟩) c rfl o, k1]
        have hThD : L.length ≠ 0 → bg < wD.heap.size ∧ Thaw wD bg := fun hne => by
          have e : bg < w9.heap.size := hlg9.resolve_left hne
          refine ⟨by omega, ?_⟩
          exact MD.thaw bg (by omega) (MC.thaw bg (by omega) fun o => (hb9B.frozen (p := ⟨bg, o, none⟩) e).trans (HTG9.out o))
        have HTHD := hide hThD
        have TD : Boxes w [(26, #[.int .i64 p.sections, v1, v2, v3, .int .i64 p.hold]), (31, #[.bool d.ok, f1, f2, f3])] wD := TB.but (K := fun c => c < wZ.heap.size) (But.of_below hBD fun _ _ z => z) fun c hc => by have : c < w.heap.size + 2 := hc; omega
        have hIwD := HIW.out.keep (Q := In wD) (fun b hb o => hbcD.cell (p := ⟨b, o, none⟩) hb) fun b hb => Nat.lt_of_lt_of_le hb hbcD.size
        have HQD := hide (eqIntS_any _ _ L wD hIgD hIwD hLn)
        have HIGD := hide hIgD
        clear hIgD hIwD hThD TB XB YB MC MD hBD
        go_wp2_with fail
        refine HQD.out.mono ?_
        rintro e wE ⟨rfl, nd2, hwE⟩
        have hbE : Below wD.heap.size wD wE := by rw [hwE]; exact ⟨rfl, rfl, rfl, Nat.le_refl _, fun _ _ => rfl⟩
        have TE := TD.call hbE
        have hbcE : Below wZ.heap.size wZ wE := hbcD.trans (hbE.mono hbcD.size)
        have hsE := hbE.size
        obtain ⟨bE, hbE6, hIE, hTE, hlE⟩ : ∃ b, w6.heap.size < b ∧ IntsS (fun c => c = b) wE (.slice ag L.length cg) L.length ∧ Thaw wE b ∧ (L.length = 0 ∨ b < wE.heap.size) := by
          rcases Nat.eq_zero_or_pos L.length with e | e
          · refine ⟨wE.heap.size, by omega, ⟨_, _, rfl, .inl e⟩, fun o => ?_, .inl e⟩
            have : wE.heap[wE.heap.size]? = none := Array.getElem?_eq_none (Nat.le_refl _)
            simp [World.frozen?]
          · obtain ⟨k1, k2⟩ := HTHD.out (by omega)
            refine ⟨bg, hbg6, ?_, fun o => (hbE.frozen (p := ⟨bg, o, none⟩) k1).trans (k2 o), .inr (by omega)⟩
            obtain ⟨ax, cx, hv, hcx⟩ := HIG9.out
            cases hv
            obtain z | ⟨b', off, rfl, hb', -⟩ := hcx
            · omega
            cases hb'
            obtain ⟨ay, cy, hv, hcy⟩ := HIGD.out
            cases hv
            obtain z | ⟨b', off', he, hb', hcell⟩ := hcy
            · omega
            cases he
            refine ⟨_, _, rfl, .inr ⟨bg, off, rfl, rfl, fun i hi => ?_⟩⟩
            obtain ⟨x, hx⟩ := lt_get L hi
            exact ⟨x, (hbE.cell (p := ⟨bg, off + i, none⟩) k1).trans (hcell i hi x hx)⟩
        have HMI := hide (markInts_at _ L.length bE 1 wE hIE hTE hlE hLn (by omega) (by omega))
        clear HQD hwE TD hIE hTE HTHD
        go_wp2_with fail
        refine HMI.out.mono ?_
        rintro e wF ⟨rfl, hbutF, am, cm, hvm, hcm⟩
        have hBF : Below wZ.heap.size wE wF := hbutF.below (by have := hbcE.size; omega) fun c hc => by have := hb4c.size; omega
        have hbcF : Below wZ.heap.size wZ wF := hbcE.trans hBF
        have hsF := hbutF.size
        have TF : Boxes w [(26, #[.int .i64 p.sections, v1, v2, v3, .int .i64 p.hold]), (31, #[.bool d.ok, f1, f2, f3])] wF := TE.but (K := fun c => c < wZ.heap.size) (But.of_below hBF fun _ _ z => z) fun c hc => by have : c < w.heap.size + 2 := hc; omega
        have hIF : Ints (fun c => c < wF.heap.size) wF (.slice ag L.length cg) (marksI 1 L.length) := by
          cases hvm
          refine ⟨ag, cg, by rw [marksI_length], ?_⟩
          rw [marksI_length]
          rcases hcm with e | ⟨off, rfl, hc⟩
          · exact .inl e
          · rcases Nat.eq_zero_or_pos L.length with e | e
            · exact .inl e
            · refine .inr ⟨bE, off, rfl, ?_, fun i hi x hx => ?_⟩
              · show bE < wF.heap.size
                omega
              · rw [marksI_get hi] at hx
                cases hx
                exact hc i hi
        have HIF := hide hIF
        have HHF := hide (heldIntS_any _ L.length 1 wF (hIF.keep (same_refl _ _) fun _ h => h) hLn (by omega) (by omega))
        clear HMI hvm hcm hbutF TE hBF hIF hlE
        go_wp2_with fail
        refine HHF.out.mono ?_
        rintro e wF' ⟨rfl, rfl⟩
        clear HHF
        have HT := hide (TF.call (below_drew _))
        have hq : Calls Tryz.prog 16 #[.agg #[.int .i64 p.sections, v1, v2, v3, .int .i64 p.hold]] wF'.drew fun e w' => ∃ u1 u2 u3, e = .returned (.agg #[.int .i64 p.sections, u1, u2, u3, .int .i64 p.hold]) ∧ Boxes w [(26, #[.int .i64 p.sections, v1, v2, v3, .int .i64 p.hold]), (31, #[.bool d.ok, f1, f2, f3])] w' ∧ Below wF'.heap.size wF' w' ∧ PlanAt (In w') w' u1 u2 u3 p ∧ WaysC (In w') w' u2 p.ways := by
          refine (toPlanC_any p.sections p.hold v1 v2 v3 p _ (HK.out _ HT.out) SM.out).mono ?_
          rintro e w' ⟨u1, u2, u3, rfl, hb, hu, hu2⟩
          exact ⟨u1, u2, u3, rfl, HT.out.call hb, (below_drew _).trans hb, hu.keep (same_refl _ _) fun b hb => hb.2.1, hu2.keep (same_refl _ _) fun b hb => hb.2.1⟩
        have HQ := hide hq
        have b0 := TF.cell (j := 0) (i := 0) rfl rfl
        have b1 := TF.cell (j := 0) (i := 1) rfl rfl
        have b2 := TF.cell (j := 0) (i := 2) rfl rfl
        have b3 := TF.cell (j := 0) (i := 3) rfl rfl
        have b4 := TF.cell (j := 0) (i := 4) rfl rfl
        have e0 := TF.cell (j := 1) (i := 0) rfl rfl
        have e1 := TF.cell (j := 1) (i := 1) rfl rfl
        have e2 := TF.cell (j := 1) (i := 2) rfl rfl
        have e3 := TF.cell (j := 1) (i := 3) rfl rfl
        rw [Nat.add_zero] at b0 b1 b2 b3 b4
        clear hq
        go_wp2
        go_cut [15] (fun v wG => Below wF'.heap.size wF' wG ∧ OwnI wF'.heap.size wG v L)
        case first =>
          go_region_with (first | (go_at_call 16; refine HQ.out.mono ?_; rintro e w3 ⟨u1, u2, u3, rfl, T3, hb3, hu, huc⟩; have HU := hide hu; have HUC := hide huc; have HT3 := hide T3; have HB3 := hide hb3; clear hu huc hb3; have i0 := T3.cell (j := 1) (i := 0) rfl rfl; have i1 := T3.cell (j := 1) (i := 1) rfl rfl; have i2 := T3.cell (j := 1) (i := 2) rfl rfl; have i3 := T3.cell (j := 1) (i := 3) rfl rfl; clear T3) | (go_at_call 17; refine (toFrame_any _ f1 f2 f3 d _ (HF.out _ HT3.out) SF.out).mono ?_; rintro e wx ⟨g1, g2, g3, rfl, hb4, hgf⟩; have HG4 := hide hgf; have HB4 := hide hb4; clear hgf hb4) | (go_at_call 43; refine (implPointLock_any _ _ _ _ _ _ p d k _ (HU.out.keep (In.keep HB4.out).1 (In.keep HB4.out).2) (HUC.out.keep (In.keep HB4.out).1 (In.keep HB4.out).2) (HG4.out.keep (same_refl _ _) fun b hb => hb.2.1) SM.out SF.out (ck hg ((HT3.out.call HB4.out).below))).mono ?_; rintro e wy ⟨v5, rfl, hb5, ho5⟩; have HB5 := hide hb5; have HO5 := hide ho5; clear hb5 ho5))
          all_goals
            go_wp2_with fail
            go_meet
            have hbx := HB3.out.trans (HB4.out.mono HB3.out.size)
            exact ⟨hbx.trans (HB5.out.mono hbx.size), by rw [HL.out]; exact HO5.out.low hbx.size⟩
        case rest =>
          rename World => wG
          obtain ⟨hbG, hoG⟩ := hcut
          obtain ⟨mh, hrow⟩ := hoG
          have hIh := (own_ints hrow).2
          obtain ⟨ah, ch, rfl⟩ := hIh.size
          have hbcG : Below wZ.heap.size wZ wG := hbcF.trans (hbG.mono hbcF.size)
          have hIwG := HIW.out.keep (Q := In wG) (fun b hb o => hbcG.cell (p := ⟨b, o, none⟩) hb) fun b hb => Nat.lt_of_lt_of_le hb hbcG.size
          have HQG := hide (eqIntS_any _ _ L wG (hIh.keep (same_refl _ _) fun c hc => hc.2) hIwG hLn)
          have HTG := hide (TF.call hbG).below
          have HIG2 := hide (HIF.out.keep (Q := In wG) (fun b hb o => hbG.cell (p := ⟨b, o, none⟩) hb) fun b hb => Nat.lt_of_lt_of_le hb hbG.size)
          clear hrow hIh hIwG b0 b1 b2 b3 b4 e0 e1 e2 e3 HQ HT TF
          go_wp2_with fail
          refine HQG.out.mono ?_
          rintro e wH ⟨rfl, nd3, hwH⟩
          have hbH : Below wG.heap.size wG wH := by rw [hwH]; exact ⟨rfl, rfl, rfl, Nat.le_refl _, fun _ _ => rfl⟩
          have HHH := hide (heldIntS_any _ L.length 1 wH (HIG2.out.keep (In.keep hbH).1 (In.keep hbH).2) hLn (by omega) (by omega))
          have HFIN := hide (HTG.out.trans (hbH.mono HTG.out.size))
          clear hwH hbH HQG HTG HIG2
          go_wp2_with fail
          refine HHH.out.mono ?_
          rintro e wI ⟨rfl, rfl⟩
          go_wp2
          go_ret
          exact ⟨rfl, HFIN.out⟩
end Go.Proofs.YtdhinkgjiapigabGreatDoor

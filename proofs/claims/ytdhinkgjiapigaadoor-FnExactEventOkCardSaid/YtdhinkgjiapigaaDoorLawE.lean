import Derived.Test.YtdhinkgjiapigaaDoorEventJ
import Derived.Test.YtdhinkgjiapigaaDoorEventS
import Derived.Test.YtdhinkgjiapigaaDoorSzA
import Derived.Test.YtdhinkgjiapigaaDoorToC
import Derived.Test.YtdhinkgjiapigaaDoorEqA
import Derived.Test.YtdhinkgjiapigaaDoorToA
import Derived.Deep.RegionWith
import Derived.Deep.DeepCutAuto
namespace Go.Proofs.YtdhinkgjiapigaaDoor
open Go.RowKit Go.Deep
open Classical

set_option maxHeartbeats 1000000 in
theorem toEvent_any (op of lie : Int) (w : World) :
    Calls Tryd.prog 19 #[.agg #[.int .i64 op, .int .i64 of, .int .i64 lie]] w fun e w' => e = .returned (.agg #[.int .i64 op, .int .i64 of, .int .i64 lie]) ∧ Below w.heap.size w w' := by
  go_enter Tryd.func19, Tryd.ntmps19
  go_wp2
  exact bodyPost_ret (v := .agg #[.int .i64 op, .int .i64 of, .int .i64 lie]) (by simp [results, Tryd.results19, go_sem]) rfl ⟨rfl, (((Below.refl _ _).alloc (Nat.le_refl _) _).alloc (by simp) _).alloc (by simp; omega) _⟩

set_option maxRecDepth 100000 in
set_option maxHeartbeats 4000000 in
theorem lawE_any (v1 v2 v3 : Value) (d : PlanD) (op of lie : Int) (w : World) (hp : PlanAt (In w) w v1 v2 v3 d) (hs : d.Small 9223372036854775807) (hg : w.cell? ⟨0, 0, none⟩ = some errT) :
    Calls Tryd.prog 5 #[.agg #[.int .i64 d.sections, v1, v2, v3, .int .i64 d.hold], .agg #[.int .i64 op, .int .i64 of, .int .i64 lie]] w fun e w' => e = .returned (.bool true) ∧ Below w.heap.size w w' := by
  have T0 := boxes2 w 26 48 #[.int .i64 d.sections, v1, v2, v3, .int .i64 d.hold] #[.int .i64 op, .int .i64 of, .int .i64 lie]
  have hk : ∀ W, Boxes w [(26, #[.int .i64 d.sections, v1, v2, v3, .int .i64 d.hold]), (48, #[.int .i64 op, .int .i64 of, .int .i64 lie])] W → PlanAt (In W) W v1 v2 v3 d := fun W h => hp.keep (In.keep h.below).1 (In.keep h.below).2
  have HK := hide hk
  clear hk hp
  go_enter Tryd.func5, Tryd.ntmps5
  go_wp2_with fail
  refine (szPlan_any d.sections d.hold v1 v2 v3 d 1048576 _ (HK.out _ T0) hs (by omega) (by omega)).mono ?_
  rintro e w1 ⟨r, rfl, hb, hr | ⟨p, -, sm⟩⟩
  · subst hr
    have T1 := T0.call hb
    go_wp2
    go_ret
    exact ⟨rfl, T1.below⟩
  have SM := hide sm
  have T1 := T0.call hb
  clear sm hs T0 hb
  have b0 := T1.cell (j := 0) (i := 0) rfl rfl
  have b1 := T1.cell (j := 0) (i := 1) rfl rfl
  have b2 := T1.cell (j := 0) (i := 2) rfl rfl
  have b3 := T1.cell (j := 0) (i := 3) rfl rfl
  have b4 := T1.cell (j := 0) (i := 4) rfl rfl
  have d0 := T1.cell (j := 1) (i := 0) rfl rfl
  have d1 := T1.cell (j := 1) (i := 1) rfl rfl
  have d2 := T1.cell (j := 1) (i := 2) rfl rfl
  rw [Nat.add_zero] at b0 b1 b2 b3 b4
  have hT : Boxes w [(26, #[.int .i64 d.sections, v1, v2, v3, .int .i64 d.hold]), (48, #[.int .i64 op, .int .i64 of, .int .i64 lie])] w1.drew := T1.call (below_drew _)
  have HT := hide hT
  clear hT
  have hq : Calls Tryd.prog 8 #[.agg #[.int .i64 d.sections, v1, v2, v3, .int .i64 d.hold]] w1.drew fun e w' => ∃ u1 u2 u3, e = .returned (.agg #[.int .i64 d.sections, u1, u2, u3, .int .i64 d.hold]) ∧ Boxes w [(26, #[.int .i64 d.sections, v1, v2, v3, .int .i64 d.hold]), (48, #[.int .i64 op, .int .i64 of, .int .i64 lie])] w' ∧ PlanAt (In w') w' u1 u2 u3 d := by
    refine (toPlan_any d.sections d.hold v1 v2 v3 d _ (HK.out _ HT.out) SM.out).mono ?_
    rintro e w' ⟨u1, u2, u3, rfl, hb, hu⟩
    exact ⟨u1, u2, u3, rfl, HT.out.call hb, hu.keep (same_refl _ _) fun b hb => hb.2.1⟩
  have HQ := hide hq
  clear hq
  go_upto_region 5 with fail
  go_cut [6] (fun v wc => v = .bool (B (Right d ∧ EventD d.sections d.switches.length d.ways.length op of lie)) ∧ Boxes w [(26, #[.int .i64 d.sections, v1, v2, v3, .int .i64 d.hold]), (48, #[.int .i64 op, .int .i64 of, .int .i64 lie])] wc)
  case first =>
    go_region_with (first | (go_at_call 8; refine HQ.out.mono ?_; rintro e w2 ⟨u1, u2, u3, rfl, T2, hu⟩; have HU := hide hu; have HT2 := hide T2; clear hu; have e0 := T2.cell (j := 1) (i := 0) rfl rfl; have e1 := T2.cell (j := 1) (i := 1) rfl rfl; have e2 := T2.cell (j := 1) (i := 2) rfl rfl; clear T2) | (go_at_call 19; refine (toEvent_any op of lie _).mono ?_; rintro e w3 ⟨rfl, hb3⟩; have HB3 := hide hb3; clear hb3) | (go_at_call 18; refine (specEventOk_any _ _ _ d op of lie _ (HU.out.keep (In.keep HB3.out).1 (In.keep HB3.out).2) SM.out).mono ?_; rintro e w4 ⟨rfl, hb4⟩; have HB4 := hide hb4; clear hb4))
    all_goals
      go_wp2_with fail
      go_meet
      exact ⟨rfl, (HT2.out.call HB3.out).call HB4.out⟩
  case rest =>
    obtain ⟨rfl, T2⟩ := hcut
    clear b0 b1 b2 b3 b4 d0 d1 d2 HQ HT T1
    have b0 := T2.cell (j := 0) (i := 0) rfl rfl
    have b1 := T2.cell (j := 0) (i := 1) rfl rfl
    have b2 := T2.cell (j := 0) (i := 2) rfl rfl
    have b3 := T2.cell (j := 0) (i := 3) rfl rfl
    have b4 := T2.cell (j := 0) (i := 4) rfl rfl
    rw [Nat.add_zero] at b0 b1 b2 b3 b4
    go_wp2_with fail
    refine (toPlan_any d.sections d.hold v1 v2 v3 d _ (HK.out _ T2) SM.out).mono ?_
    clear b0 b1 b2 b3 b4
    rintro e w4 ⟨x1, x2, x3, rfl, hb, hx⟩
    have T5 := T2.call hb
    have hx2 := hx.keep (same_refl _ _) (Q := In w4) fun b hb => hb.2.1
    clear T2 hb hx
    have hbn := below_new w4 (.cells #[.int .i64 d.sections, x1, x2, x3, .int .i64 d.hold] 33)
    have T6 := T5.call hbn
    have X := boxes1 w4 33 #[.int .i64 d.sections, x1, x2, x3, .int .i64 d.hold]
    have hx3 := hx2.keep (In.keep hbn).1 (In.keep hbn).2
    have HX := hide hx2
    have hg6 := ck hg T6.below
    obtain ⟨⟨y1, z1, rfl, -⟩, ⟨y2, z2, rfl, -⟩, ⟨y3, z3, rfl, -⟩⟩ := hx2
    have hI : ∀ n : Ext (w4.alloc (.cells #[.int .i64 d.sections, .slice y1 d.switches.length z1, .slice y2 d.ways.length z2, .slice y3 d.bars.length z3, .int .i64 d.hold] 33)), Calls Tryd.prog 20 #[.agg #[.int .i64 d.sections, .slice y1 d.switches.length z1, .slice y2 d.ways.length z2, .slice y3 d.bars.length z3, .int .i64 d.hold], .agg #[.int .i64 op, .int .i64 of, .int .i64 lie]] n.w fun e w' => e = .returned (.bool (B (Right d ∧ EventD d.sections d.switches.length d.ways.length op of lie))) ∧ Below n.w.heap.size n.w w' :=
      fun n => implEventOk_any _ _ _ d op of lie n.w (hx3.keep (In.keep n.below).1 (In.keep n.below).2) SM.out (ck hg6 n.below)
    have HI := hide hI
    have hne := Ext.any (w4.alloc (.cells #[.int .i64 d.sections, .slice y1 d.switches.length z1, .slice y2 d.ways.length z2, .slice y3 d.bars.length z3, .int .i64 d.hold] 33))
    have q0 := X.cell (j := 0) (i := 0) rfl rfl
    have q1 := X.cell (j := 0) (i := 1) rfl rfl
    have q2 := X.cell (j := 0) (i := 2) rfl rfl
    have q3 := X.cell (j := 0) (i := 3) rfl rfl
    have q4 := X.cell (j := 0) (i := 4) rfl rfl
    rw [Nat.add_zero] at q0 q1 q2 q3 q4
    have E0 := Ext.cell (show (w4.alloc (.cells #[.int .i64 d.sections, .slice y1 d.switches.length z1, .slice y2 d.ways.length z2, .slice y3 d.bars.length z3, .int .i64 d.hold] 33)).cell? ⟨w4.heap.size, 0, none⟩ = some (.int .i64 d.sections) from q0)
    have E1 := Ext.cell (show (w4.alloc (.cells #[.int .i64 d.sections, .slice y1 d.switches.length z1, .slice y2 d.ways.length z2, .slice y3 d.bars.length z3, .int .i64 d.hold] 33)).cell? ⟨w4.heap.size, 1, none⟩ = some (.slice y1 d.switches.length z1) from q1)
    have E2 := Ext.cell (show (w4.alloc (.cells #[.int .i64 d.sections, .slice y1 d.switches.length z1, .slice y2 d.ways.length z2, .slice y3 d.bars.length z3, .int .i64 d.hold] 33)).cell? ⟨w4.heap.size, 2, none⟩ = some (.slice y2 d.ways.length z2) from q2)
    have E3 := Ext.cell (show (w4.alloc (.cells #[.int .i64 d.sections, .slice y1 d.switches.length z1, .slice y2 d.ways.length z2, .slice y3 d.bars.length z3, .int .i64 d.hold] 33)).cell? ⟨w4.heap.size, 3, none⟩ = some (.slice y3 d.bars.length z3) from q3)
    have E4 := Ext.cell (show (w4.alloc (.cells #[.int .i64 d.sections, .slice y1 d.switches.length z1, .slice y2 d.ways.length z2, .slice y3 d.bars.length z3, .int .i64 d.hold] 33)).cell? ⟨w4.heap.size, 4, none⟩ = some (.int .i64 d.hold) from q4)
    have E5 := Ext.cell (show (w4.alloc (.cells #[.int .i64 d.sections, .slice y1 d.switches.length z1, .slice y2 d.ways.length z2, .slice y3 d.bars.length z3, .int .i64 d.hold] 33)).cell? ⟨w.heap.size + 1, 0, none⟩ = some (.int .i64 op) from T6.cell (j := 1) (i := 0) rfl rfl)
    have E6 := Ext.cell (show (w4.alloc (.cells #[.int .i64 d.sections, .slice y1 d.switches.length z1, .slice y2 d.ways.length z2, .slice y3 d.bars.length z3, .int .i64 d.hold] 33)).cell? ⟨w.heap.size + 1, 1, none⟩ = some (.int .i64 of) from T6.cell (j := 1) (i := 1) rfl rfl)
    have E7 := Ext.cell (show (w4.alloc (.cells #[.int .i64 d.sections, .slice y1 d.switches.length z1, .slice y2 d.ways.length z2, .slice y3 d.bars.length z3, .int .i64 d.hold] 33)).cell? ⟨w.heap.size + 1, 2, none⟩ = some (.int .i64 lie) from T6.cell (j := 1) (i := 2) rfl rfl)
    clear hbn T5 hI hx3 hg6 q0 q1 q2 q3 q4
    go_wp2
    refine wp_region_ext (by kernel_rfl) (by kernel_rfl) ?_
    repeat (go_big_quiet_step ((first | (go_at_call 19; exact ext_of (toEvent_any op of lie _)) | (go_at_call 20; exact ext_of (HI.out _)))))
    refine wpQuiet_nil ?_
    rintro _ ⟨nq, rfl⟩
    have T9 := T6.call nq.below
    have X9 := X.call nq.below
    clear T6 X E0 E1 E2 E3 E4 E5 E6 E7 HI hne
    obtain ⟨w6, hw6⟩ : ∃ w6, w6 = nq.w := ⟨_, rfl⟩
    rw [← hw6] at T9 X9 ⊢
    clear hw6
    have b0 := T9.cell (j := 0) (i := 0) rfl rfl
    have b1 := T9.cell (j := 0) (i := 1) rfl rfl
    have b2 := T9.cell (j := 0) (i := 2) rfl rfl
    have b3 := T9.cell (j := 0) (i := 3) rfl rfl
    have b4 := T9.cell (j := 0) (i := 4) rfl rfl
    have q0 := X9.cell (j := 0) (i := 0) rfl rfl
    have q1 := X9.cell (j := 0) (i := 1) rfl rfl
    have q2 := X9.cell (j := 0) (i := 2) rfl rfl
    have q3 := X9.cell (j := 0) (i := 3) rfl rfl
    have q4 := X9.cell (j := 0) (i := 4) rfl rfl
    rw [Nat.add_zero] at b0 b1 b2 b3 b4 q0 q1 q2 q3 q4
    have hq : Calls Tryd.prog 8 #[.agg #[.int .i64 d.sections, v1, v2, v3, .int .i64 d.hold]] w6.drew fun e w' => ∃ u1 u2 u3, e = .returned (.agg #[.int .i64 d.sections, u1, u2, u3, .int .i64 d.hold]) ∧ Below w6.drew.heap.size w6.drew w' ∧ PlanAt (Fresh w6.drew w') w' u1 u2 u3 d :=
      toPlan_any d.sections d.hold v1 v2 v3 d w6.drew (HK.out _ (T9.call (below_drew _))) SM.out
    have HQ := hide hq
    have hq2 : ∀ W q1 q2 q3, Below w6.drew.heap.size w6.drew W → PlanAt (Fresh w6.drew W) W q1 q2 q3 d → Calls Tryd.prog 11 #[.agg #[.int .i64 d.sections, .slice y1 d.switches.length z1, .slice y2 d.ways.length z2, .slice y3 d.bars.length z3, .int .i64 d.hold], .agg #[.int .i64 d.sections, q1, q2, q3, .int .i64 d.hold]] W fun e w' => e = .returned (.bool true) ∧ Below w.heap.size w w' := fun W q1 q2 q3 hbw hpw => by
      have TT := (T9.call (below_drew _)).call hbw
      have XX := (X9.call (below_drew _)).call hbw
      refine (eqPlan_any d.sections d.hold _ _ _ q1 q2 q3 d W (HX.out.keep (In.keep XX.below).1 (In.keep XX.below).2) (hpw.keep (same_refl _ _) fun b hb => hb.2.1) SM.out).mono ?_
      rintro e w' ⟨rfl, hb⟩
      exact ⟨rfl, TT.below.trans (hb.mono TT.below.size)⟩
    have HQ2 := hide hq2
    have X10 := X9.call (below_drew _)
    have hxc : ∀ W, Below w6.drew.heap.size w6.drew W → W.cell? ⟨w4.heap.size, 0, none⟩ = some (.int .i64 d.sections) ∧ W.cell? ⟨w4.heap.size, 1, none⟩ = some (.slice y1 d.switches.length z1) ∧ W.cell? ⟨w4.heap.size, 2, none⟩ = some (.slice y2 d.ways.length z2) ∧ W.cell? ⟨w4.heap.size, 3, none⟩ = some (.slice y3 d.bars.length z3) ∧ W.cell? ⟨w4.heap.size, 4, none⟩ = some (.int .i64 d.hold) := fun W h => ⟨(X10.call h).cell (j := 0) (i := 0) rfl rfl, (X10.call h).cell (j := 0) (i := 1) rfl rfl, (X10.call h).cell (j := 0) (i := 2) rfl rfl, (X10.call h).cell (j := 0) (i := 3) rfl rfl, (X10.call h).cell (j := 0) (i := 4) rfl rfl⟩
    have HXC := hide hxc
    clear hq hq2 hxc X10
    go_wp2
    go_region_with (first | (go_at_call 8; refine HQ.out.mono ?_; rintro e w7 ⟨q1, q2, q3, rfl, hb7, hp7⟩; have HP7 := hide hp7; clear hp7; obtain ⟨k0, k1, k2, k3, k4⟩ := HXC.out w7 hb7) | (go_at_call 11; refine (HQ2.out _ _ _ _ hb7 HP7.out).mono ?_; rintro e w8 ⟨rfl, hb8⟩))
    all_goals
      go_wp2
      go_ret
      exact ⟨rfl, hb8⟩
end Go.Proofs.YtdhinkgjiapigaaDoor

import Derived.Test.YtdhinkgjiapigaaDoorImpl
import Derived.Test.YtdhinkgjiapigaaDoorSpec4
import Derived.Test.YtdhinkgjiapigaaDoorSzA
import Derived.Test.YtdhinkgjiapigaaDoorToC
import Derived.Test.YtdhinkgjiapigaaDoorEqA
import Derived.Test.YtdhinkgjiapigaaDoorEqF
import Derived.Deep.RegionWith
namespace Go.Proofs.YtdhinkgjiapigaaDoor
open Go.RowKit Go.Deep

set_option maxHeartbeats 2000000 in
theorem law_any (v1 v2 v3 : Value) (d : PlanD) (w : World) (hp : PlanAt (In w) w v1 v2 v3 d) (hs : d.Small 9223372036854775807) (hg : w.cell? ⟨0, 0, none⟩ = some errT) :
    Calls Tryd.prog 3 #[.agg #[.int .i64 d.sections, v1, v2, v3, .int .i64 d.hold]] w fun e w' => e = .returned (.bool true) ∧ Below w.heap.size w w' := by
  have T0 := Bx1.start w 26 (.int .i64 d.sections) v1 v2 v3 (.int .i64 d.hold)
  have hk : ∀ W, Bx1 w 26 (five (.int .i64 d.sections) v1 v2 v3 (.int .i64 d.hold)) W → PlanAt (In W) W v1 v2 v3 d := fun W h => hp.keep (In.keep h.below).1 (In.keep h.below).2
  have HK := hide hk
  clear hk hp
  go_enter Tryd.func3, Tryd.ntmps3
  go_wp2_with fail
  refine (szPlan_any d.sections d.hold v1 v2 v3 d 1048576 _ (HK.out _ T0) hs (by omega) (by omega)).mono ?_
  rintro e w1 ⟨r, rfl, hb, hr | ⟨p, -, sm⟩⟩
  · subst hr
    have T1 := T0.call hb
    go_wp2
    go_ret
    exact ⟨rfl, T1.below⟩
  have SM := hide sm
  have T1 := T0.call hb
  clear sm hs T0 hb
  obtain ⟨b0, b1, b2, b3, b4⟩ := T1.cells
  go_wp2_with fail
  refine (toPlan_any d.sections d.hold v1 v2 v3 d _ (HK.out _ T1) SM.out).mono ?_
  clear b0 b1 b2 b3 b4
  rintro e w2 ⟨u1, u2, u3, rfl, hb, hu⟩
  have T2 := T1.call hb
  have hu2 := hu.keep (same_refl _ _) (Q := In w2) fun b hb => hb.2.1
  clear T1 hb hu
  go_wp2_with fail
  refine (specPlanOk_any u1 u2 u3 d _ hu2 SM.out).mono ?_
  clear hu2
  rintro e w3 ⟨c, a, rfl, hf, hb⟩
  have HF := hide hf
  have T3 := T2.call hb
  clear hf T2 hb
  have hbn := below_new w3 (.cells #[.int .i64 c, .int .i64 a] 29)
  have T4 := T3.call hbn
  have p0 : (w3.alloc (.cells #[.int .i64 c, .int .i64 a] 29)).cell? ⟨w3.heap.size, 0, none⟩ = some (.int .i64 c) := by simp
  have p1 : (w3.alloc (.cells #[.int .i64 c, .int .i64 a] 29)).cell? ⟨w3.heap.size, 1, none⟩ = some (.int .i64 a) := by simp
  obtain ⟨b0, b1, b2, b3, b4⟩ := T4.cells
  clear hbn
  go_wp2_with fail
  refine (toPlan_any d.sections d.hold v1 v2 v3 d _ (HK.out _ T4) SM.out).mono ?_
  clear b0 b1 b2 b3 b4 T3
  rintro e w4 ⟨x1, x2, x3, rfl, hb, hx⟩
  have T5 := T4.call hb
  replace p0 := ck p0 hb
  replace p1 := ck p1 hb
  have hx2 := hx.keep (same_refl _ _) (Q := In w4) fun b hb => hb.2.1
  clear T4 hb hx
  have hbn := below_new w4 (.cells #[.int .i64 d.sections, x1, x2, x3, .int .i64 d.hold] 33)
  have T6 := T5.call hbn
  replace p0 := ck p0 hbn
  replace p1 := ck p1 hbn
  have X := Bx1.start w4 33 (.int .i64 d.sections) x1 x2 x3 (.int .i64 d.hold)
  have hx3 := hx2.keep (In.keep hbn).1 (In.keep hbn).2
  have HX := hide hx2
  have hg6 := ck hg T6.below
  obtain ⟨b0, b1, b2, b3, b4⟩ := X.cells
  obtain ⟨⟨y1, z1, rfl, -⟩, ⟨y2, z2, rfl, -⟩, ⟨y3, z3, rfl, -⟩⟩ := hx2
  clear hbn T5
  go_wp2_with fail
  refine (implPlanOk_any _ _ _ d _ hx3 SM.out hg6).mono ?_
  clear b0 b1 b2 b3 b4 hx3
  rintro e w5 ⟨c', a', rfl, hf, hb⟩
  obtain ⟨rfl, rfl⟩ := FaultBy.uniq _ _ _ _ _ _ HF.out (fault5.2 hf)
  have T7 := T6.call hb
  have X7 := X.call hb
  replace p0 := ck p0 hb
  replace p1 := ck p1 hb
  clear hf T6 X hb hg6
  have hbn := below_new w5 (.cells #[.int .i64 c, .int .i64 a] 29)
  have T8 := T7.call hbn
  have X8 := X7.call hbn
  replace p0 := ck p0 hbn
  replace p1 := ck p1 hbn
  clear T7 X7 hbn
  go_wp2_with fail
  refine (eqFault_any c a _).mono ?_
  rintro e w6 ⟨rfl, hb⟩
  have T9 := T8.call hb
  have X9 := X8.call hb
  clear T8 X8 hb p0 p1
  obtain ⟨b0, b1, b2, b3, b4⟩ := T9.cells
  obtain ⟨d0, d1, d2, d3, d4⟩ := X9.cells
  have hq : Calls Tryd.prog 8 #[.agg #[.int .i64 d.sections, v1, v2, v3, .int .i64 d.hold]] w6.drew fun e w' => ∃ u1 u2 u3, e = .returned (.agg #[.int .i64 d.sections, u1, u2, u3, .int .i64 d.hold]) ∧ Below w6.drew.heap.size w6.drew w' ∧ PlanAt (Fresh w6.drew w') w' u1 u2 u3 d :=
    toPlan_any d.sections d.hold v1 v2 v3 d w6.drew (HK.out _ (T9.call (below_drew _))) SM.out
  have HQ := hide hq
  have hq2 : ∀ W q1 q2 q3, Below w6.drew.heap.size w6.drew W → PlanAt (Fresh w6.drew W) W q1 q2 q3 d → Calls Tryd.prog 11 #[.agg #[.int .i64 d.sections, .slice y1 d.switches.length z1, .slice y2 d.ways.length z2, .slice y3 d.bars.length z3, .int .i64 d.hold], .agg #[.int .i64 d.sections, q1, q2, q3, .int .i64 d.hold]] W fun e w' => e = .returned (.bool true) ∧ Below w.heap.size w w' := fun W q1 q2 q3 hbw hpw => by
    have TT := (T9.call (below_drew _)).call hbw
    have XX := (X9.call (below_drew _)).call hbw
    refine (eqPlan_any d.sections d.hold _ _ _ q1 q2 q3 d W (HX.out.keep (In.keep XX.below).1 (In.keep XX.below).2) (hpw.keep (same_refl _ _) fun b hb => hb.2.1) SM.out).mono ?_
    rintro e w' ⟨rfl, hb⟩
    exact ⟨rfl, TT.below.trans (hb.mono TT.below.size)⟩
  have HQ2 := hide hq2
  have hz1 := T9.one.lt
  have hz2 := X9.one.lt
  have X10 := X9.call (below_drew _)
  have hxc : ∀ W, Below w6.drew.heap.size w6.drew W → W.cell? ⟨w4.heap.size, 0, none⟩ = some (.int .i64 d.sections) ∧ W.cell? ⟨w4.heap.size, 1, none⟩ = some (.slice y1 d.switches.length z1) ∧ W.cell? ⟨w4.heap.size, 2, none⟩ = some (.slice y2 d.ways.length z2) ∧ W.cell? ⟨w4.heap.size, 3, none⟩ = some (.slice y3 d.bars.length z3) ∧ W.cell? ⟨w4.heap.size, 4, none⟩ = some (.int .i64 d.hold) := fun W h => (X10.call h).cells
  have HXC := hide hxc
  clear hq hq2 hxc X10
  go_wp2
  go_region_with (first | (go_at_call 8; refine HQ.out.mono ?_; rintro e w7 ⟨q1, q2, q3, rfl, hb7, hp7⟩; have HP7 := hide hp7; clear hp7; obtain ⟨k0, k1, k2, k3, k4⟩ := HXC.out w7 hb7) | (go_at_call 11; refine (HQ2.out _ _ _ _ hb7 HP7.out).mono ?_; rintro e w8 ⟨rfl, hb8⟩))
  all_goals
    go_wp2
    go_ret
    exact ⟨rfl, hb8⟩
end Go.Proofs.YtdhinkgjiapigaaDoor

import Derived.Test.YtdnnblknjmlgeaaDoorCheck2
namespace Go.Proofs.YtdnnblknjmlgeaaDoor
open Go.RowKit Go.Deep

set_option maxHeartbeats 1000000 in
theorem checkPlan_any (v1 v2 v3 : Value) (d : PlanD) (w : World) (hp : PlanAt (In w) w v1 v2 v3 d) (hs : d.Small 1048576) :
    Calls Tryd.prog 31 #[.agg #[.int .i64 d.sections, v1, v2, v3, .int .i64 d.hold]] w fun e w' => ∃ v, e = .returned v ∧ ((∃ c a, v = errV c a ∧ FaultBy (Bad5' d) d c a) ∨ (v = .nilIface ∧ FaultBy (Bad5' d) d 0 0)) ∧ Below w.heap.size w w' := by
  have T0 := Bx2.start w 33 69 (.int .i64 d.sections) v1 v2 v3 (.int .i64 d.hold) (.func (.func 62) #[] #[]) (.func (.func 63) #[] #[]) (.func (.func 64) #[] #[]) (.func (.func 65) #[] #[]) (.func (.func 66) #[] #[])
  have hk : ∀ W, Bx2 w 33 69 (five (.int .i64 d.sections) v1 v2 v3 (.int .i64 d.hold)) (five (.func (.func 62) #[] #[]) (.func (.func 63) #[] #[]) (.func (.func 64) #[] #[]) (.func (.func 65) #[] #[]) (.func (.func 66) #[] #[])) W → PlanAt (In W) W v1 v2 v3 d := fun W h => hp.keep (In.keep h.below).1 (In.keep h.below).2
  have HK := hide hk
  have HS := hide hs
  clear hk hp hs
  go_enter Tryd.func31, Tryd.ntmps31
  go_wp2
  refine wp_loop_rounds 6 ?_
  rw [rounds_succ]
  go_wp2_with fail
  refine (checkSizes_any v1 v2 v3 d _ (HK.out _ T0) HS.out).mono ?_
  rintro e w1 ⟨v, rfl, ⟨hbad, rfl⟩ | ⟨n1, rfl⟩, hb⟩
  · have HB := hide hbad
    clear hbad
    go_wp2
    go_ret
    exact ⟨_, rfl, .inl ⟨1, 0, rfl, fault1 HB.out⟩, (T0.call hb).below⟩
  have N1 := hide n1
  have T1 := T0.call hb
  clear n1 T0 hb
  obtain ⟨⟨b0, b1, b2, b3, b4⟩, ⟨z0, z1, z2, z3, z4⟩⟩ := T1.cells
  go_wp2
  rw [rounds_succ]
  go_wp2_with fail
  refine (checkSwitches_any v1 v2 v3 d _ (HK.out _ T1) HS.out).mono ?_
  clear b0 b1 b2 b3 b4 z0 z1 z2 z3 z4
  rintro e w2 ⟨v, rfl, ⟨k, hbad, rfl⟩ | ⟨n2, rfl⟩, hb⟩
  · have HB := hide hbad
    clear hbad
    go_wp2
    go_ret
    exact ⟨_, rfl, .inl ⟨2, k, rfl, fault2 N1.out HB.out⟩, (T1.call hb).below⟩
  have N2 := hide n2
  have T2 := T1.call hb
  clear n2 T1 hb
  obtain ⟨⟨b0, b1, b2, b3, b4⟩, ⟨z0, z1, z2, z3, z4⟩⟩ := T2.cells
  go_wp2
  rw [rounds_succ]
  go_wp2_with fail
  refine (checkWays_any v1 v2 v3 d _ (HK.out _ T2) HS.out N1.out N2.out).mono ?_
  clear b0 b1 b2 b3 b4 z0 z1 z2 z3 z4
  rintro e w3 ⟨v, rfl, ⟨k, hbad, rfl⟩ | ⟨n3, rfl⟩, hb⟩
  · have HB := hide hbad
    clear hbad
    go_wp2
    go_ret
    exact ⟨_, rfl, .inl ⟨3, k, rfl, fault3 N1.out N2.out HB.out⟩, (T2.call hb).below⟩
  have N3 := hide n3
  have T3 := T2.call hb
  clear n3 T2 hb
  obtain ⟨⟨b0, b1, b2, b3, b4⟩, ⟨z0, z1, z2, z3, z4⟩⟩ := T3.cells
  go_wp2
  rw [rounds_succ]
  go_wp2_with fail
  refine (checkRows_any v1 v2 v3 d _ (HK.out _ T3) HS.out).mono ?_
  clear b0 b1 b2 b3 b4 z0 z1 z2 z3 z4
  rintro e w4 ⟨v, rfl, ⟨hbad, rfl⟩ | ⟨hl, ⟨k, hbad, rfl⟩ | ⟨n4, rfl⟩⟩, hb⟩
  · have HB := hide hbad
    clear hbad
    go_wp2
    go_ret
    exact ⟨_, rfl, .inl ⟨4, 0, rfl, fault4a N1.out N2.out N3.out HB.out⟩, (T3.call hb).below⟩
  · have HB := hide hbad
    have Hl := hide hl
    clear hbad hl
    go_wp2
    go_ret
    exact ⟨_, rfl, .inl ⟨4, k, rfl, fault4b N1.out N2.out N3.out Hl.out HB.out⟩, (T3.call hb).below⟩
  have N4 := hide n4
  have Hl := hide hl
  have T4 := T3.call hb
  clear n4 T3 hb hl
  obtain ⟨⟨b0, b1, b2, b3, b4⟩, ⟨z0, z1, z2, z3, z4⟩⟩ := T4.cells
  go_wp2
  rw [rounds_succ]
  go_wp2_with fail
  refine (checkBars_any v1 v2 v3 d _ (HK.out _ T4) HS.out N1.out N3.out Hl.out N4.out).mono ?_
  clear b0 b1 b2 b3 b4 z0 z1 z2 z3 z4
  rintro e w5 ⟨v, rfl, ⟨k, hbad, rfl⟩ | ⟨n5, rfl⟩, hb⟩
  · have HB := hide hbad
    clear hbad
    go_wp2
    go_ret
    exact ⟨_, rfl, .inl ⟨5, k, rfl, fault5of N1.out N2.out N3.out Hl.out N4.out HB.out⟩, (T4.call hb).below⟩
  have N5 := hide n5
  have T5 := T4.call hb
  clear n5 T4 hb
  go_wp2
  rw [rounds_succ]
  go_wp2
  go_ret
  exact ⟨_, rfl, .inr ⟨rfl, fault0 N1.out N2.out N3.out Hl.out N4.out N5.out⟩, T5.below⟩
end Go.Proofs.YtdnnblknjmlgeaaDoor

import Derived.Test.YtdnnblknjmlgeaaDoorSets
import Derived.Test.YtdnnblknjmlgeaaDoorFault
namespace Go.Proofs.YtdnnblknjmlgeaaDoor
open Go.RowKit Go.Deep
open Classical

/-- A fault as an error. -/
abbrev errV (c a : Int) : Value := .iface 65 (.agg #[.int .i64 c, .int .i64 a])

set_option maxHeartbeats 1000000 in
theorem checkSizes_any (v1 v2 v3 : Value) (d : PlanD) (w : World) (hp : PlanAt (In w) w v1 v2 v3 d) (hs : d.Small 1048576) :
    Calls Tryd.prog 62 #[.agg #[.int .i64 d.sections, v1, v2, v3, .int .i64 d.hold]] w fun e w' => ∃ v, e = .returned v ∧ ((Bad1 d ∧ v = errV 1 0) ∨ (¬ Bad1 d ∧ v = .nilIface)) ∧ Below w.heap.size w w' := by
  obtain ⟨⟨a1, c1, rfl, -⟩, ⟨a2, c2, rfl, -⟩, -⟩ := hp
  obtain ⟨hs1, hs2, -⟩ := hs
  by_cases q0 : 1 ≤ d.sections
  case neg =>
    go_enter Tryd.func62, Tryd.ntmps62
    go_wp2
    go_ret
    exact ⟨_, rfl, .inl ⟨fun h => by have := h.1.1; omega, rfl⟩, below_new _ _⟩
  by_cases q1 : d.sections ≤ 60
  case neg =>
    go_enter Tryd.func62, Tryd.ntmps62
    go_wp2
    go_ret
    exact ⟨_, rfl, .inl ⟨fun h => by have := h.1.2; omega, rfl⟩, below_new _ _⟩
  by_cases q2 : 1 ≤ d.hold
  case neg =>
    go_enter Tryd.func62, Tryd.ntmps62
    go_wp2
    go_ret
    exact ⟨_, rfl, .inl ⟨fun h => by have := h.2.2.2.1; omega, rfl⟩, below_new _ _⟩
  by_cases q3 : d.hold ≤ 300
  case neg =>
    go_enter Tryd.func62, Tryd.ntmps62
    go_wp2
    go_ret
    exact ⟨_, rfl, .inl ⟨fun h => by have := h.2.2.2.2; omega, rfl⟩, below_new _ _⟩
  by_cases q4 : d.switches.length ≤ 40
  case neg =>
    go_enter Tryd.func62, Tryd.ntmps62
    go_wp2
    go_ret
    exact ⟨_, rfl, .inl ⟨fun h => by have := h.2.1; omega, rfl⟩, below_new _ _⟩
  by_cases q5 : d.ways.length ≤ 100
  case neg =>
    go_enter Tryd.func62, Tryd.ntmps62
    go_wp2
    go_ret
    exact ⟨_, rfl, .inl ⟨fun h => by have := h.2.2.1; omega, rfl⟩, below_new _ _⟩
  go_enter Tryd.func62, Tryd.ntmps62
  go_wp2
  go_ret
  exact ⟨_, rfl, .inr ⟨fun h => h ⟨⟨q0, q1⟩, q4, q5, q2, q3⟩, rfl⟩, below_new _ _⟩

set_option maxHeartbeats 1000000 in
theorem checkSwitches_any (v1 v2 v3 : Value) (d : PlanD) (w : World) (hp : PlanAt (In w) w v1 v2 v3 d) (hs : d.Small 1048576) :
    Calls Tryd.prog 63 #[.agg #[.int .i64 d.sections, v1, v2, v3, .int .i64 d.hold]] w fun e w' => ∃ v, e = .returned v ∧ ((∃ k : Nat, First (Bad2 d) k ∧ v = errV 2 k) ∨ ((∀ k, ¬ Bad2 d k) ∧ v = .nilIface)) ∧ Below w.heap.size w w' := by
  have T0 := Bx1.start w 33 (.int .i64 d.sections) v1 v2 v3 (.int .i64 d.hold)
  obtain ⟨⟨a1, c1, rfl, hc1⟩, -, -⟩ := hp
  obtain ⟨hs1, -⟩ := hs
  have H1 := hide hc1
  clear hc1
  go_enter Tryd.func63, Tryd.ntmps63
  go_wp2
  go_loopw [8] (fun i wr => ∃ (k : Nat), k ≤ d.switches.length ∧ i = .int .i64 k ∧ (∀ j, j < k → ¬ Bad2 d j) ∧ Bx1 w 33 (five (.int .i64 d.sections) (.slice a1 d.switches.length c1) v2 v3 (.int .i64 d.hold)) wr) (fun i _ => d.switches.length - (intOf i).toNat)
  case atStart => exact ⟨0, Nat.zero_le _, rfl, fun j hj => by omega, T0⟩
  case round =>
    obtain ⟨k, hk, rfl, hok, T1⟩ := hrel
    have HO := hide hok
    clear hok T0
    obtain ⟨b0, b1, b2, b3, b4⟩ := T1.cells
    by_cases hlt : k < d.switches.length
    · obtain h0 | ⟨b, off, rfl, hb0, hc⟩ := H1.out
      · omega
      obtain ⟨x, hx⟩ := get_some d.switches (hide rfl) hlt
      have g0 := hc k hlt x hx
      rw [← T1.below.cell (p := ⟨b, _, none⟩) hb0] at g0
      have Hx := hide hx
      clear hx hc
      go_wp2_with fail
      refine (isSection_any d.sections x _ _ _ _ _).mono ?_
      clear b0 b1 b2 b3 b4 g0
      rintro e w1 ⟨rfl, hb1⟩
      have T2 := T1.call hb1
      clear T1 hb1
      by_cases hin : InR x 0 (d.sections - 1)
      · rw [B_true hin]
        have Hin := hide hin
        clear hin
        go_wp2
        go_roundw
        case rel => exact ⟨k + 1, by omega, by go_num, no_snoc HO.out fun h => (bad2_iff Hx.out).1 h Hin.out, T2⟩
        case measure => simp [intOf]; omega
      · rw [B_false hin]
        have Hin := hide hin
        clear hin
        go_wp2
        go_ret
        exact ⟨_, rfl, .inl ⟨k, ⟨(bad2_iff Hx.out).2 Hin.out, HO.out⟩, rfl⟩, T2.below⟩
    · go_wp2
      go_ret
      exact ⟨_, rfl, .inr ⟨no2 HO.out (by omega), rfl⟩, T1.below⟩

set_option maxHeartbeats 1000000 in
theorem checkWays_any (v1 v2 v3 : Value) (d : PlanD) (w : World) (hp : PlanAt (In w) w v1 v2 v3 d) (hs : d.Small 1048576) (n1 : ¬ Bad1 d) (n2 : ∀ k, ¬ Bad2 d k) :
    Calls Tryd.prog 64 #[.agg #[.int .i64 d.sections, v1, v2, v3, .int .i64 d.hold]] w fun e w' => ∃ v, e = .returned v ∧ ((∃ k : Nat, First (Bad3 d) k ∧ v = errV 3 k) ∨ ((∀ k, ¬ Bad3 d k) ∧ v = .nilIface)) ∧ Below w.heap.size w w' := by
  have T0 := Bx1.start w 33 (.int .i64 d.sections) v1 v2 v3 (.int .i64 d.hold)
  have hk : ∀ W, Bx1 w 33 (five (.int .i64 d.sections) v1 v2 v3 (.int .i64 d.hold)) W → PlanAt (In W) W v1 v2 v3 d := fun W h => hp.keep (In.keep h.below).1 (In.keep h.below).2
  have HK := hide hk
  obtain ⟨-, ⟨a2, c2, rfl, hc2⟩, -⟩ := hp
  obtain ⟨-, hs2, hs3, -⟩ := hs
  have H2 := hide hc2
  have HS3 := hide hs3
  obtain ⟨⟨s1, s60⟩, q1, -, -⟩ := Classical.byContradiction fun h => n1 h
  have HR : Hid (∀ s ∈ d.switches, 0 ≤ s ∧ s < 64) := fun s hs => by
    obtain ⟨i, hi⟩ := List.getElem?_of_mem hs
    have := Classical.byContradiction fun h => n2 i ⟨s, hi, h⟩
    exact ⟨this.1, by have := this.2; omega⟩
  clear hc2 hs3 hk n1 n2
  go_enter Tryd.func64, Tryd.ntmps64
  go_wp2
  go_loopw [8] (fun i wr => ∃ (k : Nat), k ≤ d.ways.length ∧ i = .int .i64 k ∧ (∀ j, j < k → ¬ Bad3 d j) ∧ Bx1 w 33 (five (.int .i64 d.sections) v1 (.slice a2 d.ways.length c2) v3 (.int .i64 d.hold)) wr) (fun i _ => d.ways.length - (intOf i).toNat)
  case atStart => exact ⟨0, Nat.zero_le _, rfl, fun j hj => by omega, T0⟩
  case round =>
    obtain ⟨k, hk, rfl, hok, T1⟩ := hrel
    have HO := hide hok
    clear hok T0
    obtain ⟨b0, b1, b2, b3, b4⟩ := T1.cells
    by_cases hlt : k < d.ways.length
    · obtain h0 | ⟨b, off, rfl, hb0, hc⟩ := H2.out
      · omega
      obtain ⟨x, hx⟩ := get_some d.ways (hide rfl) hlt
      obtain ⟨u0, u1, u2, u3, u4, hw, g0, g1, g2, g3, g4⟩ := hc k hlt x hx
      rw [← T1.below.cell (p := ⟨b, _, none⟩) hb0] at g0 g1 g2 g3 g4
      have hsx := HS3.out x (List.mem_of_getElem? hx)
      have Hx := hide hx
      have hz := T1.one.lt
      have T2 := T1.call (below_new _ (.cells #[u0, u1, u2, u3, u4] 59))
      have hq := wayOk_any d.sections (.int .i64 d.hold) v1 (.slice (some ⟨b, off, none⟩) d.ways.length c2) v3 u0 u1 u2 u3 u4 d.switches x _ (HK.out _ T2).1 (hw.keep (In.keep T2.below).1 (In.keep T2.below).2) s60 q1 hsx HR.out
      have HQ := hide hq
      obtain ⟨⟨p0, o0, rfl, -⟩, ⟨p1, o1, rfl, -⟩, ⟨p2, o2, rfl, -⟩, ⟨p3, o3, rfl, -⟩, ⟨p4, o4, rfl, -⟩⟩ := hw
      clear hx hc hsx hq
      go_wp2_with fail
      refine HQ.out.mono ?_
      clear b0 b1 b2 b3 b4 g0 g1 g2 g3 g4 hz HQ
      rintro e w1 ⟨rfl, hb1⟩
      have T3 := T2.call hb1
      clear T1 T2 hb1
      by_cases hin : WayOk d.sections d.switches x
      · rw [B_true hin]
        have Hin := hide hin
        clear hin
        go_wp2
        go_roundw
        case rel => exact ⟨k + 1, by omega, by go_num, no_snoc HO.out fun h => (bad3_iff Hx.out).1 h Hin.out, T3⟩
        case measure => simp [intOf]; omega
      · rw [B_false hin]
        have Hin := hide hin
        clear hin
        go_wp2
        go_ret
        exact ⟨_, rfl, .inl ⟨k, ⟨(bad3_iff Hx.out).2 Hin.out, HO.out⟩, rfl⟩, T3.below⟩
    · go_wp2
      go_ret
      exact ⟨_, rfl, .inr ⟨no3 HO.out (by omega), rfl⟩, T1.below⟩

set_option maxHeartbeats 1000000 in
theorem checkRows_any (v1 v2 v3 : Value) (d : PlanD) (w : World) (hp : PlanAt (In w) w v1 v2 v3 d) (hs : d.Small 1048576) :
    Calls Tryd.prog 65 #[.agg #[.int .i64 d.sections, v1, v2, v3, .int .i64 d.hold]] w fun e w' => ∃ v, e = .returned v ∧ ((d.bars.length ≠ d.ways.length ∧ v = errV 4 0) ∨ (d.bars.length = d.ways.length ∧ ((∃ k : Nat, First (Bad4 d) k ∧ v = errV 4 k) ∨ ((∀ k, ¬ Bad4 d k) ∧ v = .nilIface)))) ∧ Below w.heap.size w w' := by
  have T0 := Bx1.start w 33 (.int .i64 d.sections) v1 v2 v3 (.int .i64 d.hold)
  obtain ⟨-, ⟨a2, c2, rfl, -⟩, ⟨a3, c3, rfl, hc3⟩⟩ := hp
  obtain ⟨-, hs2, -, hs4, hs5⟩ := hs
  have H3 := hide hc3
  have HS5 := hide hs5
  clear hc3 hs5
  by_cases hlen : d.bars.length = d.ways.length
  case neg =>
    have hl' : ((d.bars.length : Int) != (d.ways.length : Int)) = true := by simp; omega
    have Hl := hide hlen
    clear hlen
    go_enter Tryd.func65, Tryd.ntmps65
    go_wp2
    go_ret
    exact ⟨_, rfl, .inl ⟨Hl.out, rfl⟩, T0.below⟩
  have hl' : ((d.bars.length : Int) != (d.ways.length : Int)) = false := by simp; omega
  have Hl := hide hlen
  clear hlen
  go_enter Tryd.func65, Tryd.ntmps65
  go_wp2
  go_loopw [17] (fun i wr => ∃ (k : Nat), k ≤ d.bars.length ∧ i = .int .i64 k ∧ (∀ j, j < k → ¬ Bad4 d j) ∧ Bx1 w 33 (five (.int .i64 d.sections) v1 (.slice a2 d.ways.length c2) (.slice a3 d.bars.length c3) (.int .i64 d.hold)) wr) (fun i _ => d.bars.length - (intOf i).toNat)
  case atStart => exact ⟨0, Nat.zero_le _, rfl, fun j hj => by omega, T0⟩
  case round =>
    obtain ⟨k3, hk3, rfl, hok, T3⟩ := hrel
    have HO := hide hok
    clear hok T0
    obtain ⟨b0, b1, b2, b3, b4⟩ := T3.cells
    by_cases hlt3 : k3 < d.bars.length
    · obtain h0 | ⟨b, off, rfl, hb0, hc⟩ := H3.out
      · omega
      obtain ⟨x, hx⟩ := get_some d.bars (hide rfl) hlt3
      obtain ⟨u0, ⟨p0, o0, rfl, -⟩, g0⟩ := hc k3 hlt3 x hx
      rw [← T3.below.cell (p := ⟨b, _, none⟩) hb0] at g0
      have Hx := hide hx
      clear hx hc
      by_cases hin : x.length = d.ways.length
      · have hin' : ((x.length : Int) != (d.ways.length : Int)) = false := by simp; omega
        have Hin := hide hin
        clear hin
        go_wp2
        go_roundw
        case rel => exact ⟨k3 + 1, by omega, by go_num, no_snoc HO.out fun h => (bad4_iff Hx.out).1 h Hin.out, T3⟩
        case measure => simp [intOf]; omega
      · have hin' : ((x.length : Int) != (d.ways.length : Int)) = true := by simp; omega
        have Hin := hide hin
        clear hin
        go_wp2
        go_ret
        exact ⟨_, rfl, .inr ⟨Hl.out, .inl ⟨k3, ⟨(bad4_iff Hx.out).2 Hin.out, HO.out⟩, rfl⟩⟩, T3.below⟩
    · go_wp2
      go_ret
      exact ⟨_, rfl, .inr ⟨Hl.out, .inr ⟨no4 HO.out (by omega), rfl⟩⟩, T3.below⟩
end Go.Proofs.YtdnnblknjmlgeaaDoor

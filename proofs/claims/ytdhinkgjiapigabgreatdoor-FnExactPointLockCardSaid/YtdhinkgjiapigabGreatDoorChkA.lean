import Derived.Test.YtdhinkgjiapigabGreatDoorSwA
import Derived.Test.YtdhinkgjiapigabGreatDoorBase
namespace Go.Proofs.YtdhinkgjiapigabGreatDoor
open Go.RowKit Go.Deep
open Classical

/-- A fault as an error. -/
abbrev errV (c a : Int) : Value := .iface 205 (.agg #[.int .i64 c, .int .i64 a])

set_option maxHeartbeats 1000000 in
theorem checkSizes_any (v1 v2 v3 : Value) (d : PlanD) (w : World) (hp : PlanAt (In w) w v1 v2 v3 d) (hs : d.Small 1048576) :
    Calls Tryz.prog 219 #[.agg #[.int .i64 d.sections, v1, v2, v3, .int .i64 d.hold]] w fun e w' => ∃ v, e = .returned v ∧ ((Bad1 d ∧ v = errV 1 0) ∨ (¬ Bad1 d ∧ v = .nilIface)) ∧ Below w.heap.size w w' := by
  obtain ⟨⟨a1, c1, rfl, -⟩, ⟨a2, c2, rfl, -⟩, -⟩ := hp
  obtain ⟨hs1, hs2, -⟩ := hs
  by_cases q0 : 1 ≤ d.sections
  case neg =>
    go_enter Tryz.func219, Tryz.ntmps219
    go_wp2
    go_ret
    exact ⟨_, rfl, .inl ⟨fun h => by have := h.1.1; omega, rfl⟩, below_new _ _⟩
  by_cases q1 : d.sections ≤ 60
  case neg =>
    go_enter Tryz.func219, Tryz.ntmps219
    go_wp2
    go_ret
    exact ⟨_, rfl, .inl ⟨fun h => by have := h.1.2; omega, rfl⟩, below_new _ _⟩
  by_cases q2 : 1 ≤ d.hold
  case neg =>
    go_enter Tryz.func219, Tryz.ntmps219
    go_wp2
    go_ret
    exact ⟨_, rfl, .inl ⟨fun h => by have := h.2.2.2.1; omega, rfl⟩, below_new _ _⟩
  by_cases q3 : d.hold ≤ 300
  case neg =>
    go_enter Tryz.func219, Tryz.ntmps219
    go_wp2
    go_ret
    exact ⟨_, rfl, .inl ⟨fun h => by have := h.2.2.2.2; omega, rfl⟩, below_new _ _⟩
  by_cases q4 : d.switches.length ≤ 40
  case neg =>
    go_enter Tryz.func219, Tryz.ntmps219
    go_wp2
    go_ret
    exact ⟨_, rfl, .inl ⟨fun h => by have := h.2.1; omega, rfl⟩, below_new _ _⟩
  by_cases q5 : d.ways.length ≤ 100
  case neg =>
    go_enter Tryz.func219, Tryz.ntmps219
    go_wp2
    go_ret
    exact ⟨_, rfl, .inl ⟨fun h => by have := h.2.2.1; omega, rfl⟩, below_new _ _⟩
  go_enter Tryz.func219, Tryz.ntmps219
  go_wp2
  go_ret
  exact ⟨_, rfl, .inr ⟨fun h => h ⟨⟨q0, q1⟩, q4, q5, q2, q3⟩, rfl⟩, below_new _ _⟩

set_option maxHeartbeats 1000000 in
theorem checkSwitches_any (v1 v2 v3 : Value) (d : PlanD) (w : World) (hp : PlanAt (In w) w v1 v2 v3 d) (hs : d.Small 1048576) :
    Calls Tryz.prog 220 #[.agg #[.int .i64 d.sections, v1, v2, v3, .int .i64 d.hold]] w fun e w' => ∃ v, e = .returned v ∧ ((∃ k : Nat, First (Bad2 d) k ∧ v = errV 2 k) ∨ ((∀ k, ¬ Bad2 d k) ∧ v = .nilIface)) ∧ Below w.heap.size w w' := by
  have T0 := Bx1.start w 37 (.int .i64 d.sections) v1 v2 v3 (.int .i64 d.hold)
  obtain ⟨⟨a1, c1, rfl, hc1⟩, -, -⟩ := hp
  obtain ⟨hs1, -⟩ := hs
  have H1 := hide hc1
  clear hc1
  go_enter Tryz.func220, Tryz.ntmps220
  go_wp2
  go_loopw [8] (fun i wr => ∃ (k : Nat), k ≤ d.switches.length ∧ i = .int .i64 k ∧ (∀ j, j < k → ¬ Bad2 d j) ∧ Bx1 w 37 (five (.int .i64 d.sections) (.slice a1 d.switches.length c1) v2 v3 (.int .i64 d.hold)) wr) (fun i _ => d.switches.length - (intOf i).toNat)
  case atStart => exact ⟨0, Nat.zero_le _, rfl, fun j hj => by omega, T0⟩
  case round =>
    obtain ⟨k, hk, rfl, hok, T1⟩ := hrel
    have HO := hide hok
    clear hok T0
    obtain ⟨b0, b1, b2, b3, b4⟩ := T1.cells
    by_cases hlt : k < d.switches.length
    · obtain h0 | ⟨b, off, rfl, hb0, hc⟩ := H1.out
      · omega
      obtain ⟨x, hx⟩ := get_some d.switches (hide rfl) hlt
      have g0 := hc k hlt x hx
      rw [← T1.below.cell (p := ⟨b, _, none⟩) hb0] at g0
      have Hx := hide hx
      clear hx hc
      go_wp2_with fail
      refine (isSection_any d.sections x _ _ _ _ _).mono ?_
      clear b0 b1 b2 b3 b4 g0
      rintro e w1 ⟨rfl, hb1⟩
      have T2 := T1.call hb1
      clear T1 hb1
      by_cases hin : InR x 0 (d.sections - 1)
      · rw [B_true hin]
        have Hin := hide hin
        clear hin
        go_wp2
        go_roundw
        case rel => exact ⟨k + 1, by omega, by go_num, no_snoc HO.out fun h => (bad2_iff Hx.out).1 h Hin.out, T2⟩
        case measure => simp [intOf]; omega
      · rw [B_false hin]
        have Hin := hide hin
        clear hin
        go_wp2
        go_ret
        exact ⟨_, rfl, .inl ⟨k, ⟨(bad2_iff Hx.out).2 Hin.out, HO.out⟩, rfl⟩, T2.below⟩
    · go_wp2
      go_ret
      exact ⟨_, rfl, .inr ⟨no2 HO.out (by omega), rfl⟩, T1.below⟩

set_option maxHeartbeats 1000000 in
theorem checkWays_any (v1 v2 v3 : Value) (d : PlanD) (w : World) (hp : PlanAt (In w) w v1 v2 v3 d) (hs : d.Small 1048576) (n1 : ¬ Bad1 d) (n2 : ∀ k, ¬ Bad2 d k) :
    Calls Tryz.prog 221 #[.agg #[.int .i64 d.sections, v1, v2, v3, .int .i64 d.hold]] w fun e w' => ∃ v, e = .returned v ∧ ((∃ k : Nat, First (Bad3 d) k ∧ v = errV 3 k) ∨ ((∀ k, ¬ Bad3 d k) ∧ v = .nilIface)) ∧ Below w.heap.size w w' := by
  have T0 := Bx1.start w 37 (.int .i64 d.sections) v1 v2 v3 (.int .i64 d.hold)
  have hk : ∀ W, Bx1 w 37 (five (.int .i64 d.sections) v1 v2 v3 (.int .i64 d.hold)) W → PlanAt (In W) W v1 v2 v3 d := fun W h => hp.keep (In.keep h.below).1 (In.keep h.below).2
  have HK := hide hk
  obtain ⟨-, ⟨a2, c2, rfl, hc2⟩, -⟩ := hp
  obtain ⟨-, hs2, hs3, -⟩ := hs
  have H2 := hide hc2
  have HS3 := hide hs3
  obtain ⟨⟨s1, s60⟩, q1, -, -⟩ := Classical.byContradiction fun h => n1 h
  have HR : Hid (∀ s ∈ d.switches, 0 ≤ s ∧ s < 64) := fun s hs => by
    obtain ⟨i, hi⟩ := List.getElem?_of_mem hs
    have := Classical.byContradiction fun h => n2 i ⟨s, hi, h⟩
    exact ⟨this.1, by have := this.2; omega⟩
  clear hc2 hs3 hk n1 n2
  go_enter Tryz.func221, Tryz.ntmps221
  go_wp2
  go_loopw [8] (fun i wr => ∃ (k : Nat), k ≤ d.ways.length ∧ i = .int .i64 k ∧ (∀ j, j < k → ¬ Bad3 d j) ∧ Bx1 w 37 (five (.int .i64 d.sections) v1 (.slice a2 d.ways.length c2) v3 (.int .i64 d.hold)) wr) (fun i _ => d.ways.length - (intOf i).toNat)
  case atStart => exact ⟨0, Nat.zero_le _, rfl, fun j hj => by omega, T0⟩
  case round =>
    obtain ⟨k, hk, rfl, hok, T1⟩ := hrel
    have HO := hide hok
    clear hok T0
    obtain ⟨b0, b1, b2, b3, b4⟩ := T1.cells
    by_cases hlt : k < d.ways.length
    · obtain h0 | ⟨b, off, rfl, hb0, hc⟩ := H2.out
      · omega
      obtain ⟨x, hx⟩ := get_some d.ways (hide rfl) hlt
      obtain ⟨u0, u1, u2, u3, u4, hw, g0, g1, g2, g3, g4⟩ := hc k hlt x hx
      rw [← T1.below.cell (p := ⟨b, _, none⟩) hb0] at g0 g1 g2 g3 g4
      have hsx := HS3.out x (List.mem_of_getElem? hx)
      have Hx := hide hx
      have hz := T1.one.lt
      have T2 := T1.call (below_new _ (.cells #[u0, u1, u2, u3, u4] 122))
      have hq := wayOk_any d.sections (.int .i64 d.hold) v1 (.slice (some ⟨b, off, none⟩) d.ways.length c2) v3 u0 u1 u2 u3 u4 d.switches x _ (HK.out _ T2).1 (hw.keep (In.keep T2.below).1 (In.keep T2.below).2) s60 q1 hsx HR.out
      have HQ := hide hq
      obtain ⟨⟨p0, o0, rfl, -⟩, ⟨p1, o1, rfl, -⟩, ⟨p2, o2, rfl, -⟩, ⟨p3, o3, rfl, -⟩, ⟨p4, o4, rfl, -⟩⟩ := hw
      clear hx hc hsx hq
      go_wp2_with fail
      refine HQ.out.mono ?_
      clear b0 b1 b2 b3 b4 g0 g1 g2 g3 g4 hz HQ
      rintro e w1 ⟨rfl, hb1⟩
      have T3 := T2.call hb1
      clear T1 T2 hb1
      by_cases hin : WayOk d.sections d.switches x
      · rw [B_true hin]
        have Hin := hide hin
        clear hin
        go_wp2
        go_roundw
        case rel => exact ⟨k + 1, by omega, by go_num, no_snoc HO.out fun h => (bad3_iff Hx.out).1 h Hin.out, T3⟩
        case measure => simp [intOf]; omega
      · rw [B_false hin]
        have Hin := hide hin
        clear hin
        go_wp2
        go_ret
        exact ⟨_, rfl, .inl ⟨k, ⟨(bad3_iff Hx.out).2 Hin.out, HO.out⟩, rfl⟩, T3.below⟩
    · go_wp2
      go_ret
      exact ⟨_, rfl, .inr ⟨no3 HO.out (by omega), rfl⟩, T1.below⟩

set_option maxHeartbeats 1000000 in
theorem checkRows_any (v1 v2 v3 : Value) (d : PlanD) (w : World) (hp : PlanAt (In w) w v1 v2 v3 d) (hs : d.Small 1048576) :
    Calls Tryz.prog 222 #[.agg #[.int .i64 d.sections, v1, v2, v3, .int .i64 d.hold]] w fun e w' => ∃ v, e = .returned v ∧ ((d.bars.length ≠ d.ways.length ∧ v = errV 4 0) ∨ (d.bars.length = d.ways.length ∧ ((∃ k : Nat, First (Bad4 d) k ∧ v = errV 4 k) ∨ ((∀ k, ¬ Bad4 d k) ∧ v = .nilIface)))) ∧ Below w.heap.size w w' := by
  have T0 := Bx1.start w 37 (.int .i64 d.sections) v1 v2 v3 (.int .i64 d.hold)
  obtain ⟨-, ⟨a2, c2, rfl, -⟩, ⟨a3, c3, rfl, hc3⟩⟩ := hp
  obtain ⟨-, hs2, -, hs4, hs5⟩ := hs
  have H3 := hide hc3
  have HS5 := hide hs5
  clear hc3 hs5
  by_cases hlen : d.bars.length = d.ways.length
  case neg =>
    have hl' : ((d.bars.length : Int) != (d.ways.length : Int)) = true := by simp; omega
    have Hl := hide hlen
    clear hlen
    go_enter Tryz.func222, Tryz.ntmps222
    go_wp2
    go_ret
    exact ⟨_, rfl, .inl ⟨Hl.out, rfl⟩, T0.below⟩
  have hl' : ((d.bars.length : Int) != (d.ways.length : Int)) = false := by simp; omega
  have Hl := hide hlen
  clear hlen
  go_enter Tryz.func222, Tryz.ntmps222
  go_wp2
  go_loopw [17] (fun i wr => ∃ (k : Nat), k ≤ d.bars.length ∧ i = .int .i64 k ∧ (∀ j, j < k → ¬ Bad4 d j) ∧ Bx1 w 37 (five (.int .i64 d.sections) v1 (.slice a2 d.ways.length c2) (.slice a3 d.bars.length c3) (.int .i64 d.hold)) wr) (fun i _ => d.bars.length - (intOf i).toNat)
  case atStart => exact ⟨0, Nat.zero_le _, rfl, fun j hj => by omega, T0⟩
  case round =>
    obtain ⟨k3, hk3, rfl, hok, T3⟩ := hrel
    have HO := hide hok
    clear hok T0
    obtain ⟨b0, b1, b2, b3, b4⟩ := T3.cells
    by_cases hlt3 : k3 < d.bars.length
    · obtain h0 | ⟨b, off, rfl, hb0, hc⟩ := H3.out
      · omega
      obtain ⟨x, hx⟩ := get_some d.bars (hide rfl) hlt3
      obtain ⟨u0, ⟨p0, o0, rfl, -⟩, g0⟩ := hc k3 hlt3 x hx
      rw [← T3.below.cell (p := ⟨b, _, none⟩) hb0] at g0
      have Hx := hide hx
      clear hx hc
      by_cases hin : x.length = d.ways.length
      · have hin' : ((x.length : Int) != (d.ways.length : Int)) = false := by simp; omega
        have Hin := hide hin
        clear hin
        go_wp2
        go_roundw
        case rel => exact ⟨k3 + 1, by omega, by go_num, no_snoc HO.out fun h => (bad4_iff Hx.out).1 h Hin.out, T3⟩
        case measure => simp [intOf]; omega
      · have hin' : ((x.length : Int) != (d.ways.length : Int)) = true := by simp; omega
        have Hin := hide hin
        clear hin
        go_wp2
        go_ret
        exact ⟨_, rfl, .inr ⟨Hl.out, .inl ⟨k3, ⟨(bad4_iff Hx.out).2 Hin.out, HO.out⟩, rfl⟩⟩, T3.below⟩
    · go_wp2
      go_ret
      exact ⟨_, rfl, .inr ⟨Hl.out, .inr ⟨no4 HO.out (by omega), rfl⟩⟩, T3.below⟩
end Go.Proofs.YtdhinkgjiapigabGreatDoor

namespace Go.Proofs.YtdhinkgjiapigabGreatDoor
open Go.RowKit Go.Deep
open Classical

set_option maxRecDepth 100000 in
set_option maxHeartbeats 4000000 in
theorem checkBars_any (v1 v2 v3 : Value) (d : PlanD) (w : World) (hp : PlanAt (In w) w v1 v2 v3 d) (hs : d.Small 1048576) (n1 : ¬ Bad1 d) (n3 : ∀ k, ¬ Bad3 d k) (hlen : d.bars.length = d.ways.length) (n4 : ∀ k, ¬ Bad4 d k) :
    Calls Tryz.prog 223 #[.agg #[.int .i64 d.sections, v1, v2, v3, .int .i64 d.hold]] w fun e w' => ∃ v, e = .returned v ∧ ((∃ k : Nat, First (Bad5' d) k ∧ v = errV 5 k) ∨ ((∀ k, ¬ Bad5' d k) ∧ v = .nilIface)) ∧ Below w.heap.size w w' := by
  have T0 := Bx1.start w 37 (.int .i64 d.sections) v1 v2 v3 (.int .i64 d.hold)
  have hk : ∀ W, Bx1 w 37 (five (.int .i64 d.sections) v1 v2 v3 (.int .i64 d.hold)) W → PlanAt (In W) W v1 v2 v3 d := fun W h => hp.keep (In.keep h.below).1 (In.keep h.below).2
  have HK := hide hk
  obtain ⟨-, ⟨a2, c2, rfl, -⟩, ⟨a3, c3, rfl, hc3⟩⟩ := hp
  obtain ⟨-, -, hs3, -, -⟩ := hs
  have HS3 := hide hs3
  have H3 := hide hc3
  have Hl := hide hlen
  have N4 := hide n4
  obtain ⟨⟨s1, s60⟩, -, q2, -⟩ := Classical.byContradiction fun h => n1 h
  have HOK : Hid (∀ x ∈ d.ways, ListOk d.sections x.sections) := fun x hx => by
    obtain ⟨i, hi⟩ := List.getElem?_of_mem hx
    exact (Classical.byContradiction fun h => n3 i ⟨x, hi, h⟩ : WayOk d.sections d.switches x).2.1
  clear hk hc3 hs3 hlen n1 n3 n4
  go_enter Tryz.func223, Tryz.ntmps223
  go_wp2_with fail
  refine (waySets_any d.sections v1 _ _ _ d.ways _ (HK.out _ T0).2.1 q2 HS3.out s60 HOK.out).mono ?_
  rintro e w1 ⟨vs, rfl, hsets, hb1⟩
  have T1 := T0.call hb1
  have hsets1 := hsets.keep (same_refl _ _) (Q := In w1) fun b hb => hb.2
  obtain ⟨asv, csv, rfl, hcs⟩ := hsets1
  have HSE := hide hcs
  clear T0 hb1 hsets hcs
  obtain ⟨b0, b1, b2, b3, b4⟩ := T1.cells
  go_wp2
  clear b0 b1 b2 b3 b4
  have W1 : Hid (Below w1.heap.size w1 w1) := Below.refl _ _
  go_loopw [11] (fun i wr => ∃ (k : Nat), k ≤ d.ways.length ∧ i = .int .i64 k ∧ (∀ j, j < k → ¬ Bad5' d j) ∧ Below w1.heap.size w1 wr) (fun i _ => d.ways.length - (intOf i).toNat)
  case atStart => exact ⟨0, Nat.zero_le _, rfl, fun j hj => by omega, Below.refl _ _⟩
  case round =>
    obtain ⟨i, hi, rfl, hok, hb1⟩ := hrel
    rename World => wo
    have HO := hide hok
    have HB1 := hide hb1
    clear hok hb1
    by_cases hlt : i < d.ways.length
    · have hlti : i < d.bars.length := by have := Hl.out; omega
      obtain h0 | ⟨b, off, rfl, hb0, hc⟩ := H3.out
      · omega
      obtain h0 | ⟨bs, os, rfl, hbs, hcs⟩ := HSE.out
      · omega
      obtain ⟨ri, hri⟩ := get_some d.bars (hide rfl) hlti
      have hril : ri.length = d.ways.length := Classical.byContradiction fun h => N4.out i ⟨ri, hri, h⟩
      obtain ⟨u0, ⟨p0, o0, rfl, hq0⟩, gi⟩ := hc i hlti ri hri
      obtain h0 | ⟨bi, oi, rfl, hbi, hci⟩ := hq0
      · omega
      obtain ⟨vi, hvi⟩ := get_some d.ways (hide rfl) hlt
      obtain ⟨A, C, hset, ga, gc⟩ := hcs i hlt vi hvi
      have HRI := hide hri
      have HRL := hide hril
      have HCI := hide hci
      have HCC := hide hc
      have HCS := hide hcs
      have HVI := hide hvi
      have HGI := hide gi
      have HGA := hide (And.intro ga gc)
      clear hri hril hci hc hcs hvi gi ga gc
      go_wp2
      go_loopw [5] (fun z wr => ∃ (k : Nat), i < k ∧ k ≤ d.ways.length ∧ z = .int .i64 k ∧ (∀ j, i < j → j < k → ¬ Pair d i j) ∧ Below w1.heap.size w1 wr) (fun z _ => d.ways.length - (intOf z).toNat)
      case atStart => exact ⟨i + 1, by omega, by omega, by go_num, fun j hj => by omega, HB1.out⟩
      case round =>
        obtain ⟨k, hik, hk, rfl, hok, hb2⟩ := hrel
        rename World => wp
        have HN := hide hok
        clear hok
        have T2 := T1.call hb2
        by_cases hltk : k < d.ways.length
        · have hltkb : k < d.bars.length := by have := Hl.out; omega
          obtain ⟨rk, hrk⟩ := get_some d.bars (hide rfl) hltkb
          have hrkl : rk.length = d.ways.length := Classical.byContradiction fun h => N4.out k ⟨rk, hrk, h⟩
          obtain ⟨u1, ⟨p1, o1, rfl, hq1⟩, gk⟩ := HCC.out k hltkb rk hrk
          obtain h0 | ⟨bk, ok, rfl, hbk, hck⟩ := hq1
          · omega
          obtain ⟨vk, hvk⟩ := get_some d.ways (hide rfl) hltk
          obtain ⟨A2, C2, hset2, ga2, gc2⟩ := HCS.out k hltk vk hvk
          obtain ⟨x, hx⟩ := get_some ri (hide rfl) (show k < ri.length by have := HRL.out; omega)
          obtain ⟨y, hy⟩ := get_some rk (hide rfl) (show i < rk.length by omega)
          have gx := HCI.out k (by have := HRL.out; omega) x hx
          have gy := hck i (by omega) y hy
          have gi := HGI.out
          obtain ⟨ga, gc⟩ := HGA.out
          rw [← T2.below.cell (p := ⟨b, _, none⟩) hb0] at gi gk
          rw [← T2.below.cell (p := ⟨bi, _, none⟩) hbi] at gx
          rw [← T2.below.cell (p := ⟨bk, _, none⟩) hbk] at gy
          rw [← hb2.cell (p := ⟨bs, _, none⟩) hbs] at ga gc ga2 gc2
          obtain ⟨b0, b1, b2, b3, b4⟩ := T2.cells
          have hne := Ext.any wp
          have E1 := Ext.cell gi
          have E2 := Ext.cell gk
          have E3 := Ext.cell gx
          have E4 := Ext.cell gy
          have E5 := Ext.cell ga
          have E6 := Ext.cell gc
          have E7 := Ext.cell ga2
          have E8 := Ext.cell gc2
          have E9 := Ext.cell b3
          have hpair := pair_iff (bar_of HRI.out hx) (bar_of hrk hy) HVI.out hvk
          have HPA := hide hpair
          have hq : ∀ W, Calls Tryz.prog 233 #[setV A C, setV A2 C2] W fun e w' => e = .returned (.bool (B (Meet vi.sections vk.sections))) ∧ Below W.heap.size W w' := fun W =>
            meets_any A C A2 C2 vi.sections vk.sections W hset hset2 (listOk_range (HOK.out vi (List.mem_of_getElem? HVI.out)) s60)
          have HQ := hide hq
          have i1 : (i : Int) < (d.bars.length : Int) := by omega
          have i2 : (k : Int) < (d.bars.length : Int) := by omega
          have i3 : (k : Int) < (ri.length : Int) := by have := HRL.out; omega
          have i4 : (i : Int) < (rk.length : Int) := by omega
          have i5 : (i : Int) < (d.ways.length : Int) := by omega
          have i6 : (k : Int) < (d.ways.length : Int) := by omega
          have HB2 := hide hb2
          have HT2 := hide T2
          clear hrk hrkl hvk hx hy hck hpair hq gi gk gx gy ga gc ga2 gc2 b0 b1 b3 b4 hset2 hb2 T2
          cases x <;> cases y
          case' true.true =>
            go_wp2
            refine wp_region_ext (by kernel_rfl) (by kernel_rfl) ?_
            repeat (go_big_quiet_step ((go_at_call 233; exact ext_of (HQ.out _))))
            refine wpQuiet_nil ?_
            rintro _ ⟨nq, rfl⟩
            go_wp2
            go_roundw
            case rel => exact ⟨k + 1, by omega, by omega, by go_num, fun j hj1 hj2 hp => by
              by_cases e : j = k
              · subst e
                rcases HPA.out.1 hp with h | h
                · exact h rfl
                · exact Bool.noConfusion h.2.1
              · exact HN.out j hj1 (by omega) hp, HB2.out.trans (nq.below.mono HB2.out.size)⟩
            case measure => simp [intOf]; omega
          case' true.false =>
            go_wp2
            refine wp_region_ext (by kernel_rfl) (by kernel_rfl) ?_
            repeat (go_big_quiet_step ((go_at_call 233; exact ext_of (HQ.out _))))
            refine wpQuiet_nil ?_
            rintro _ ⟨nq, rfl⟩
            go_wp2
            go_ret
            exact ⟨_, rfl, .inl ⟨i, ⟨⟨hlt, k, hik, hltk, HPA.out.2 (.inl (by decide))⟩, HO.out⟩, rfl⟩, (HT2.out.call nq.below).below⟩
          case' false.true =>
            go_wp2
            refine wp_region_ext (by kernel_rfl) (by kernel_rfl) ?_
            repeat (go_big_quiet_step ((go_at_call 233; exact ext_of (HQ.out _))))
            refine wpQuiet_nil ?_
            rintro _ ⟨nq, rfl⟩
            go_wp2
            go_ret
            exact ⟨_, rfl, .inl ⟨i, ⟨⟨hlt, k, hik, hltk, HPA.out.2 (.inl (by decide))⟩, HO.out⟩, rfl⟩, (HT2.out.call nq.below).below⟩
          case' false.false =>
            by_cases hmt : Meet vi.sections vk.sections
            · rw [B_true hmt] at HQ
              have HM := hide hmt
              clear hmt
              go_wp2
              refine wp_region_ext (by kernel_rfl) (by kernel_rfl) ?_
              repeat (go_big_quiet_step ((go_at_call 233; exact ext_of (HQ.out _))))
              refine wpQuiet_nil ?_
              rintro _ ⟨nq, rfl⟩
              go_wp2
              go_ret
              exact ⟨_, rfl, .inl ⟨i, ⟨⟨hlt, k, hik, hltk, HPA.out.2 (.inr ⟨by omega, by first | trivial | rfl, HM.out⟩)⟩, HO.out⟩, rfl⟩, (HT2.out.call nq.below).below⟩
            · rw [B_false hmt] at HQ
              have HM := hide hmt
              clear hmt
              go_wp2
              refine wp_region_ext (by kernel_rfl) (by kernel_rfl) ?_
              repeat (go_big_quiet_step ((go_at_call 233; exact ext_of (HQ.out _))))
              refine wpQuiet_nil ?_
              rintro _ ⟨nq, rfl⟩
              go_wp2
              go_roundw
              case rel => exact ⟨k + 1, by omega, by omega, by go_num, fun j hj1 hj2 hp => by
                by_cases e : j = k
                · subst e
                  rcases HPA.out.1 hp with h | h
                  · exact h rfl
                  · exact HM.out h.2.2
                · exact HN.out j hj1 (by omega) hp, HB2.out.trans (nq.below.mono HB2.out.size)⟩
              case measure => simp [intOf]; omega
        · obtain ⟨b0, b1, b2, b3, b4⟩ := T2.cells
          go_wp2
          go_roundw
          case rel => exact ⟨i + 1, by omega, by go_num, no_snoc HO.out fun hb => by
            obtain ⟨-, q, hq1, hq2, hp⟩ := hb
            exact HN.out q hq1 (by omega) hp, hb2⟩
          case measure => simp [intOf]; omega
    · have T2 := T1.call HB1.out
      go_wp2
      go_ret
      refine ⟨_, rfl, .inr ⟨fun k hb => ?_, rfl⟩, T2.below⟩
      exact HO.out k (by have := hb.1; omega) hb
end Go.Proofs.YtdhinkgjiapigabGreatDoor

namespace Go.Proofs.YtdhinkgjiapigabGreatDoor
open Go.RowKit Go.Deep

set_option maxHeartbeats 1000000 in
theorem checkPlan_any (v1 v2 v3 : Value) (d : PlanD) (w : World) (hp : PlanAt (In w) w v1 v2 v3 d) (hs : d.Small 1048576) :
    Calls Tryz.prog 177 #[.agg #[.int .i64 d.sections, v1, v2, v3, .int .i64 d.hold]] w fun e w' => ∃ v, e = .returned v ∧ ((∃ c a, v = errV c a ∧ FaultBy (Bad5' d) d c a) ∨ (v = .nilIface ∧ FaultBy (Bad5' d) d 0 0)) ∧ Below w.heap.size w w' := by
  have T0 := Bx2.start w 37 207 (.int .i64 d.sections) v1 v2 v3 (.int .i64 d.hold) (.func (.func 219) #[] #[]) (.func (.func 220) #[] #[]) (.func (.func 221) #[] #[]) (.func (.func 222) #[] #[]) (.func (.func 223) #[] #[])
  have hk : ∀ W, Bx2 w 37 207 (five (.int .i64 d.sections) v1 v2 v3 (.int .i64 d.hold)) (five (.func (.func 219) #[] #[]) (.func (.func 220) #[] #[]) (.func (.func 221) #[] #[]) (.func (.func 222) #[] #[]) (.func (.func 223) #[] #[])) W → PlanAt (In W) W v1 v2 v3 d := fun W h => hp.keep (In.keep h.below).1 (In.keep h.below).2
  have HK := hide hk
  have HS := hide hs
  clear hk hp hs
  go_enter Tryz.func177, Tryz.ntmps177
  go_wp2
  refine wp_loop_rounds 6 ?_
  rw [rounds_succ]
  go_wp2_with fail
  refine (checkSizes_any v1 v2 v3 d _ (HK.out _ T0) HS.out).mono ?_
  rintro e w1 ⟨v, rfl, ⟨hbad, rfl⟩ | ⟨n1, rfl⟩, hb⟩
  · have HB := hide hbad
    clear hbad
    go_wp2
    go_ret
    exact ⟨_, rfl, .inl ⟨1, 0, rfl, fault1 HB.out⟩, (T0.call hb).below⟩
  have N1 := hide n1
  have T1 := T0.call hb
  clear n1 T0 hb
  obtain ⟨⟨b0, b1, b2, b3, b4⟩, ⟨z0, z1, z2, z3, z4⟩⟩ := T1.cells
  go_wp2
  rw [rounds_succ]
  go_wp2_with fail
  refine (checkSwitches_any v1 v2 v3 d _ (HK.out _ T1) HS.out).mono ?_
  clear b0 b1 b2 b3 b4 z0 z1 z2 z3 z4
  rintro e w2 ⟨v, rfl, ⟨k, hbad, rfl⟩ | ⟨n2, rfl⟩, hb⟩
  · have HB := hide hbad
    clear hbad
    go_wp2
    go_ret
    exact ⟨_, rfl, .inl ⟨2, k, rfl, fault2 N1.out HB.out⟩, (T1.call hb).below⟩
  have N2 := hide n2
  have T2 := T1.call hb
  clear n2 T1 hb
  obtain ⟨⟨b0, b1, b2, b3, b4⟩, ⟨z0, z1, z2, z3, z4⟩⟩ := T2.cells
  go_wp2
  rw [rounds_succ]
  go_wp2_with fail
  refine (checkWays_any v1 v2 v3 d _ (HK.out _ T2) HS.out N1.out N2.out).mono ?_
  clear b0 b1 b2 b3 b4 z0 z1 z2 z3 z4
  rintro e w3 ⟨v, rfl, ⟨k, hbad, rfl⟩ | ⟨n3, rfl⟩, hb⟩
  · have HB := hide hbad
    clear hbad
    go_wp2
    go_ret
    exact ⟨_, rfl, .inl ⟨3, k, rfl, fault3 N1.out N2.out HB.out⟩, (T2.call hb).below⟩
  have N3 := hide n3
  have T3 := T2.call hb
  clear n3 T2 hb
  obtain ⟨⟨b0, b1, b2, b3, b4⟩, ⟨z0, z1, z2, z3, z4⟩⟩ := T3.cells
  go_wp2
  rw [rounds_succ]
  go_wp2_with fail
  refine (checkRows_any v1 v2 v3 d _ (HK.out _ T3) HS.out).mono ?_
  clear b0 b1 b2 b3 b4 z0 z1 z2 z3 z4
  rintro e w4 ⟨v, rfl, ⟨hbad, rfl⟩ | ⟨hl, ⟨k, hbad, rfl⟩ | ⟨n4, rfl⟩⟩, hb⟩
  · have HB := hide hbad
    clear hbad
    go_wp2
    go_ret
    exact ⟨_, rfl, .inl ⟨4, 0, rfl, fault4a N1.out N2.out N3.out HB.out⟩, (T3.call hb).below⟩
  · have HB := hide hbad
    have Hl := hide hl
    clear hbad hl
    go_wp2
    go_ret
    exact ⟨_, rfl, .inl ⟨4, k, rfl, fault4b N1.out N2.out N3.out Hl.out HB.out⟩, (T3.call hb).below⟩
  have N4 := hide n4
  have Hl := hide hl
  have T4 := T3.call hb
  clear n4 T3 hb hl
  obtain ⟨⟨b0, b1, b2, b3, b4⟩, ⟨z0, z1, z2, z3, z4⟩⟩ := T4.cells
  go_wp2
  rw [rounds_succ]
  go_wp2_with fail
  refine (checkBars_any v1 v2 v3 d _ (HK.out _ T4) HS.out N1.out N3.out Hl.out N4.out).mono ?_
  clear b0 b1 b2 b3 b4 z0 z1 z2 z3 z4
  rintro e w5 ⟨v, rfl, ⟨k, hbad, rfl⟩ | ⟨n5, rfl⟩, hb⟩
  · have HB := hide hbad
    clear hbad
    go_wp2
    go_ret
    exact ⟨_, rfl, .inl ⟨5, k, rfl, fault5of N1.out N2.out N3.out Hl.out N4.out HB.out⟩, (T4.call hb).below⟩
  have N5 := hide n5
  have T5 := T4.call hb
  clear n5 T4 hb
  go_wp2
  rw [rounds_succ]
  go_wp2
  go_ret
  exact ⟨_, rfl, .inr ⟨rfl, fault0 N1.out N2.out N3.out Hl.out N4.out N5.out⟩, T5.below⟩
end Go.Proofs.YtdhinkgjiapigabGreatDoor

import Derived.Test.YtdnnblknjmlgeaaDoorCheck1
namespace Go.Proofs.YtdnnblknjmlgeaaDoor
open Go.RowKit Go.Deep
open Classical

set_option maxRecDepth 100000 in
set_option maxHeartbeats 4000000 in
theorem checkBars_any (v1 v2 v3 : Value) (d : PlanD) (w : World) (hp : PlanAt (In w) w v1 v2 v3 d) (hs : d.Small 1048576) (n1 : ¬ Bad1 d) (n3 : ∀ k, ¬ Bad3 d k) (hlen : d.bars.length = d.ways.length) (n4 : ∀ k, ¬ Bad4 d k) :
    Calls Tryd.prog 66 #[.agg #[.int .i64 d.sections, v1, v2, v3, .int .i64 d.hold]] w fun e w' => ∃ v, e = .returned v ∧ ((∃ k : Nat, First (Bad5' d) k ∧ v = errV 5 k) ∨ ((∀ k, ¬ Bad5' d k) ∧ v = .nilIface)) ∧ Below w.heap.size w w' := by
  have T0 := Bx1.start w 33 (.int .i64 d.sections) v1 v2 v3 (.int .i64 d.hold)
  have hk : ∀ W, Bx1 w 33 (five (.int .i64 d.sections) v1 v2 v3 (.int .i64 d.hold)) W → PlanAt (In W) W v1 v2 v3 d := fun W h => hp.keep (In.keep h.below).1 (In.keep h.below).2
  have HK := hide hk
  obtain ⟨-, ⟨a2, c2, rfl, -⟩, ⟨a3, c3, rfl, hc3⟩⟩ := hp
  obtain ⟨-, -, hs3, -, -⟩ := hs
  have HS3 := hide hs3
  have H3 := hide hc3
  have Hl := hide hlen
  have N4 := hide n4
  obtain ⟨⟨s1, s60⟩, -, q2, -⟩ := Classical.byContradiction fun h => n1 h
  have HOK : Hid (∀ x ∈ d.ways, ListOk d.sections x.sections) := fun x hx => by
    obtain ⟨i, hi⟩ := List.getElem?_of_mem hx
    exact (Classical.byContradiction fun h => n3 i ⟨x, hi, h⟩ : WayOk d.sections d.switches x).2.1
  clear hk hc3 hs3 hlen n1 n3 n4
  go_enter Tryd.func66, Tryd.ntmps66
  go_wp2_with fail
  refine (waySets_any d.sections v1 _ _ _ d.ways _ (HK.out _ T0).2.1 q2 HS3.out s60 HOK.out).mono ?_
  rintro e w1 ⟨vs, rfl, hsets, hb1⟩
  have T1 := T0.call hb1
  have hsets1 := hsets.keep (same_refl _ _) (Q := In w1) fun b hb => hb.2
  obtain ⟨asv, csv, rfl, hcs⟩ := hsets1
  have HSE := hide hcs
  clear T0 hb1 hsets hcs
  obtain ⟨b0, b1, b2, b3, b4⟩ := T1.cells
  go_wp2
  clear b0 b1 b2 b3 b4
  have W1 : Hid (Below w1.heap.size w1 w1) := Below.refl _ _
  go_loopw [11] (fun i wr => ∃ (k : Nat), k ≤ d.ways.length ∧ i = .int .i64 k ∧ (∀ j, j < k → ¬ Bad5' d j) ∧ Below w1.heap.size w1 wr) (fun i _ => d.ways.length - (intOf i).toNat)
  case atStart => exact ⟨0, Nat.zero_le _, rfl, fun j hj => by omega, Below.refl _ _⟩
  case round =>
    obtain ⟨i, hi, rfl, hok, hb1⟩ := hrel
    rename World => wo
    have HO := hide hok
    have HB1 := hide hb1
    clear hok hb1
    by_cases hlt : i < d.ways.length
    · have hlti : i < d.bars.length := by have := Hl.out; omega
      obtain h0 | ⟨b, off, rfl, hb0, hc⟩ := H3.out
      · omega
      obtain h0 | ⟨bs, os, rfl, hbs, hcs⟩ := HSE.out
      · omega
      obtain ⟨ri, hri⟩ := get_some d.bars (hide rfl) hlti
      have hril : ri.length = d.ways.length := Classical.byContradiction fun h => N4.out i ⟨ri, hri, h⟩
      obtain ⟨u0, ⟨p0, o0, rfl, hq0⟩, gi⟩ := hc i hlti ri hri
      obtain h0 | ⟨bi, oi, rfl, hbi, hci⟩ := hq0
      · omega
      obtain ⟨vi, hvi⟩ := get_some d.ways (hide rfl) hlt
      obtain ⟨A, C, hset, ga, gc⟩ := hcs i hlt vi hvi
      have HRI := hide hri
      have HRL := hide hril
      have HCI := hide hci
      have HCC := hide hc
      have HCS := hide hcs
      have HVI := hide hvi
      have HGI := hide gi
      have HGA := hide (And.intro ga gc)
      clear hri hril hci hc hcs hvi gi ga gc
      go_wp2
      go_loopw [5] (fun z wr => ∃ (k : Nat), i < k ∧ k ≤ d.ways.length ∧ z = .int .i64 k ∧ (∀ j, i < j → j < k → ¬ Pair d i j) ∧ Below w1.heap.size w1 wr) (fun z _ => d.ways.length - (intOf z).toNat)
      case atStart => exact ⟨i + 1, by omega, by omega, by go_num, fun j hj => by omega, HB1.out⟩
      case round =>
        obtain ⟨k, hik, hk, rfl, hok, hb2⟩ := hrel
        rename World => wp
        have HN := hide hok
        clear hok
        have T2 := T1.call hb2
        by_cases hltk : k < d.ways.length
        · have hltkb : k < d.bars.length := by have := Hl.out; omega
          obtain ⟨rk, hrk⟩ := get_some d.bars (hide rfl) hltkb
          have hrkl : rk.length = d.ways.length := Classical.byContradiction fun h => N4.out k ⟨rk, hrk, h⟩
          obtain ⟨u1, ⟨p1, o1, rfl, hq1⟩, gk⟩ := HCC.out k hltkb rk hrk
          obtain h0 | ⟨bk, ok, rfl, hbk, hck⟩ := hq1
          · omega
          obtain ⟨vk, hvk⟩ := get_some d.ways (hide rfl) hltk
          obtain ⟨A2, C2, hset2, ga2, gc2⟩ := HCS.out k hltk vk hvk
          obtain ⟨x, hx⟩ := get_some ri (hide rfl) (show k < ri.length by have := HRL.out; omega)
          obtain ⟨y, hy⟩ := get_some rk (hide rfl) (show i < rk.length by omega)
          have gx := HCI.out k (by have := HRL.out; omega) x hx
          have gy := hck i (by omega) y hy
          have gi := HGI.out
          obtain ⟨ga, gc⟩ := HGA.out
          rw [← T2.below.cell (p := ⟨b, _, none⟩) hb0] at gi gk
          rw [← T2.below.cell (p := ⟨bi, _, none⟩) hbi] at gx
          rw [← T2.below.cell (p := ⟨bk, _, none⟩) hbk] at gy
          rw [← hb2.cell (p := ⟨bs, _, none⟩) hbs] at ga gc ga2 gc2
          obtain ⟨b0, b1, b2, b3, b4⟩ := T2.cells
          have hne := Ext.any wp
          have E1 := Ext.cell gi
          have E2 := Ext.cell gk
          have E3 := Ext.cell gx
          have E4 := Ext.cell gy
          have E5 := Ext.cell ga
          have E6 := Ext.cell gc
          have E7 := Ext.cell ga2
          have E8 := Ext.cell gc2
          have E9 := Ext.cell b3
          have hpair := pair_iff (bar_of HRI.out hx) (bar_of hrk hy) HVI.out hvk
          have HPA := hide hpair
          have hq : ∀ W, Calls Tryd.prog 82 #[setV A C, setV A2 C2] W fun e w' => e = .returned (.bool (B (Meet vi.sections vk.sections))) ∧ Below W.heap.size W w' := fun W =>
            meets_any A C A2 C2 vi.sections vk.sections W hset hset2 (listOk_range (HOK.out vi (List.mem_of_getElem? HVI.out)) s60)
          have HQ := hide hq
          have i1 : (i : Int) < (d.bars.length : Int) := by omega
          have i2 : (k : Int) < (d.bars.length : Int) := by omega
          have i3 : (k : Int) < (ri.length : Int) := by have := HRL.out; omega
          have i4 : (i : Int) < (rk.length : Int) := by omega
          have i5 : (i : Int) < (d.ways.length : Int) := by omega
          have i6 : (k : Int) < (d.ways.length : Int) := by omega
          have HB2 := hide hb2
          have HT2 := hide T2
          clear hrk hrkl hvk hx hy hck hpair hq gi gk gx gy ga gc ga2 gc2 b0 b1 b3 b4 hset2 hb2 T2
          cases x <;> cases y
          case' true.true =>
            go_wp2
            refine wp_region_ext (by kernel_rfl) (by kernel_rfl) ?_
            repeat (go_big_quiet_step ((go_at_call 82; exact ext_of (HQ.out _))))
            refine wpQuiet_nil ?_
            rintro _ ⟨nq, rfl⟩
            go_wp2
            go_roundw
            case rel => exact ⟨k + 1, by omega, by omega, by go_num, fun j hj1 hj2 hp => by
              by_cases e : j = k
              · subst e
                rcases HPA.out.1 hp with h | h
                · exact h rfl
                · exact Bool.noConfusion h.2.1
              · exact HN.out j hj1 (by omega) hp, HB2.out.trans (nq.below.mono HB2.out.size)⟩
            case measure => simp [intOf]; omega
          case' true.false =>
            go_wp2
            refine wp_region_ext (by kernel_rfl) (by kernel_rfl) ?_
            repeat (go_big_quiet_step ((go_at_call 82; exact ext_of (HQ.out _))))
            refine wpQuiet_nil ?_
            rintro _ ⟨nq, rfl⟩
            go_wp2
            go_ret
            exact ⟨_, rfl, .inl ⟨i, ⟨⟨hlt, k, hik, hltk, HPA.out.2 (.inl (by decide))⟩, HO.out⟩, rfl⟩, (HT2.out.call nq.below).below⟩
          case' false.true =>
            go_wp2
            refine wp_region_ext (by kernel_rfl) (by kernel_rfl) ?_
            repeat (go_big_quiet_step ((go_at_call 82; exact ext_of (HQ.out _))))
            refine wpQuiet_nil ?_
            rintro _ ⟨nq, rfl⟩
            go_wp2
            go_ret
            exact ⟨_, rfl, .inl ⟨i, ⟨⟨hlt, k, hik, hltk, HPA.out.2 (.inl (by decide))⟩, HO.out⟩, rfl⟩, (HT2.out.call nq.below).below⟩
          case' false.false =>
            by_cases hmt : Meet vi.sections vk.sections
            · rw [B_true hmt] at HQ
              have HM := hide hmt
              clear hmt
              go_wp2
              refine wp_region_ext (by kernel_rfl) (by kernel_rfl) ?_
              repeat (go_big_quiet_step ((go_at_call 82; exact ext_of (HQ.out _))))
              refine wpQuiet_nil ?_
              rintro _ ⟨nq, rfl⟩
              go_wp2
              go_ret
              exact ⟨_, rfl, .inl ⟨i, ⟨⟨hlt, k, hik, hltk, HPA.out.2 (.inr ⟨by omega, by first | trivial | rfl, HM.out⟩)⟩, HO.out⟩, rfl⟩, (HT2.out.call nq.below).below⟩
            · rw [B_false hmt] at HQ
              have HM := hide hmt
              clear hmt
              go_wp2
              refine wp_region_ext (by kernel_rfl) (by kernel_rfl) ?_
              repeat (go_big_quiet_step ((go_at_call 82; exact ext_of (HQ.out _))))
              refine wpQuiet_nil ?_
              rintro _ ⟨nq, rfl⟩
              go_wp2
              go_roundw
              case rel => exact ⟨k + 1, by omega, by omega, by go_num, fun j hj1 hj2 hp => by
                by_cases e : j = k
                · subst e
                  rcases HPA.out.1 hp with h | h
                  · exact h rfl
                  · exact HM.out h.2.2
                · exact HN.out j hj1 (by omega) hp, HB2.out.trans (nq.below.mono HB2.out.size)⟩
              case measure => simp [intOf]; omega
        · obtain ⟨b0, b1, b2, b3, b4⟩ := T2.cells
          go_wp2
          go_roundw
          case rel => exact ⟨i + 1, by omega, by go_num, no_snoc HO.out fun hb => by
            obtain ⟨-, q, hq1, hq2, hp⟩ := hb
            exact HN.out q hq1 (by omega) hp, hb2⟩
          case measure => simp [intOf]; omega
    · have T2 := T1.call HB1.out
      go_wp2
      go_ret
      refine ⟨_, rfl, .inr ⟨fun k hb => ?_, rfl⟩, T2.below⟩
      exact HO.out k (by have := hb.1; omega) hb
end Go.Proofs.YtdnnblknjmlgeaaDoor

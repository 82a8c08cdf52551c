import Derived.Test.YtdnnblknjmlgeabGreatDoorBase
import Derived.Test.YtdnnblknjmlgeabGreatDoorCopyA
namespace Go.Proofs.YtdnnblknjmlgeabGreatDoor
open Go.RowKit Go.Deep

set_option maxRecDepth 100000 in
set_option maxHeartbeats 2000000 in
theorem l3holds_any (n hd ok p1 p2 p3 f1 f2 f3 : Value) (ways : List WayD) (helds : List HeldD) (i : Nat) (x : WayD) (h : HeldD) (s : Int) (w : World) (hp : Ways (In w) w p2 ways) (hf : Helds (In w) w f3 helds)
    (hi : ways[i]? = some x) (hj : helds[i]? = some h) (_hw : ways.length ≤ 1048576) (_hh : helds.length ≤ 1048576) (hs : x.sections.length ≤ 1048576) (hg : 0 ≤ h.gone) :
    Calls Tryz.prog 103 #[.agg #[n, p1, p2, p3, hd], .agg #[ok, f1, f2, f3], .int .i64 i, .int .i64 s] w fun e w' => e = .returned (.bool (holdsB x h s)) ∧ Below w.heap.size w w' := by
  obtain ⟨ap, cp, rfl, hcp⟩ := hp
  obtain ⟨af, cf, rfl, hcf⟩ := hf
  have hil : i < ways.length := (List.getElem?_eq_some_iff.1 hi).1
  have hjl : i < helds.length := (List.getElem?_eq_some_iff.1 hj).1
  obtain h0 | ⟨b, off, rfl, hb0, hcw⟩ := hcp
  · omega
  obtain h0 | ⟨bf, of, rfl, hbf, hch⟩ := hcf
  · omega
  obtain ⟨v0, v1, v2, v3, v4, ⟨⟨a0, k0, rfl, hx0⟩, -⟩, g0, -, -, -, -⟩ := hcw i hil x hi
  obtain ⟨u2, -, j0, j1, -⟩ := hch i hjl h hj
  have T0 := boxes2 w 37 42 #[n, p1, .slice (some ⟨b, off, none⟩) ways.length cp, p3, hd] #[ok, f1, f2, .slice (some ⟨bf, of, none⟩) helds.length cf]
  have HX := hide hx0
  have hil' : (i : Int) < (ways.length : Int) := by omega
  have hjl' : (i : Int) < (helds.length : Int) := by omega
  have G0 := ckb g0 T0.below
  have J0 := ckb j0 T0.below
  have J1 := ckb j1 T0.below
  clear hcw hch hi hj hx0 g0 j0 j1
  go_enter Tryz.func103, Tryz.ntmps103
  by_cases z0 : h.state = 0
  · have z0' : (h.state == 0) = true := by simp [z0]
    have Z0 := hide z0
    clear z0
    go_wp2
    go_ret
    exact ⟨ret_bool (holdsB_false hg fun q => q.1 Z0.out).symm, T0.below⟩
  have z0' : (h.state == 0) = false := by simp [z0]
  have Z0 := hide z0
  clear z0
  go_wp2
  go_loop [25] (fun z => ∃ (k : Nat), k ≤ x.sections.length ∧ z = .int .i64 k ∧ ∀ j : Nat, j < k → x.sections[j]? = some s → ¬ h.gone ≤ j) (fun z => x.sections.length - (intOf z).toNat)
  case atStart => exact ⟨0, by omega, rfl, fun j hj => by omega⟩
  case round =>
    obtain ⟨k, hk, rfl, hall⟩ := hrel
    have HA := hide hall
    clear hall
    by_cases hlt : k < x.sections.length
    · obtain h0 | ⟨bs, os, rfl, hbs, hcs⟩ := HX.out
      · omega
      obtain ⟨y, hy⟩ := get_some x.sections (hide rfl) hlt
      have gy := ckb (hcs k hlt y hy) T0.below
      have Hy := hide hy
      clear hy hcs
      by_cases e1 : y = s
      · have e1' : (y == s) = true := by simp [e1]
        have E1 := hide e1
        clear e1
        by_cases e2 : h.gone ≤ (k : Int)
        · have E2 := hide e2
          go_wp2
          go_ret
          exact ⟨ret_bool ((holdsB_iff hg).2 ⟨Z0.out, k, by rw [Hy.out, E1.out], E2.out⟩).symm, T0.below⟩
        · have e2' : decide (h.gone ≤ (k : Int)) = false := by simpa using e2
          have E2 := hide e2
          clear e2
          go_wp2
          go_round
          case rel => exact ⟨k + 1, by omega, by go_num, fun j hj hs => by
            by_cases e : j = k
            · subst e; exact E2.out
            · exact HA.out j (by omega) hs⟩
          case measure => simp [intOf]; omega
      · have e1' : (y == s) = false := by simp [e1]
        have E1 := hide e1
        clear e1
        go_wp2
        go_round
        case rel => exact ⟨k + 1, by omega, by go_num, fun j hj hs => by
          by_cases e : j = k
          · subst e; rw [Hy.out] at hs; cases hs; exact absurd rfl E1.out
          · exact HA.out j (by omega) hs⟩
        case measure => simp [intOf]; omega
    · go_wp2
      go_ret
      exact ⟨ret_bool (holdsB_false hg fun q => by
        obtain ⟨-, j, hj, hgj⟩ := q
        have := HA.out j (by have := (List.getElem?_eq_some_iff.1 hj).1; omega) hj
        omega).symm, T0.below⟩

set_option maxRecDepth 100000 in
set_option maxHeartbeats 2000000 in
theorem l3wants_any (n hd ok p1 p2 p3 f1 f2 f3 : Value) (sw : List Int) (ways : List WayD) (helds : List HeldD) (i : Nat) (x : WayD) (h : HeldD) (q : Nat) (w : World) (hsw : Ints (In w) w p1 sw) (hp : Ways (In w) w p2 ways) (hf : Helds (In w) w f3 helds)
    (hi : ways[i]? = some x) (hj : helds[i]? = some h) (hw : ways.length ≤ 1048576) (hh : helds.length ≤ 1048576) (hs : x.Small 1048576) (hg : 0 ≤ h.gone) (hq : q < sw.length) (_hsl : sw.length ≤ 1048576) :
    Calls Tryz.prog 129 #[.agg #[n, p1, p2, p3, hd], .agg #[ok, f1, f2, f3], .int .i64 i, .int .i64 q] w fun e w' => e = .returned (.int .i64 (wantsD sw x h q)) ∧ Below w.heap.size w w' := by
  have HP := hide hp
  have HF := hide hf
  have HI := hide hi
  have HJ := hide hj
  obtain ⟨a1, c1, rfl, hc1⟩ := hsw
  obtain ⟨ap, cp, rfl, hcp⟩ := hp
  obtain ⟨af, cf, rfl, hcf⟩ := hf
  have hil : i < ways.length := (List.getElem?_eq_some_iff.1 hi).1
  have hjl : i < helds.length := (List.getElem?_eq_some_iff.1 hj).1
  obtain h0 | ⟨b1, o1, rfl, hb1, hc1⟩ := hc1
  · omega
  obtain h0 | ⟨b, off, rfl, hb0, hcw⟩ := hcp
  · omega
  obtain h0 | ⟨bf, of, rfl, hbf, hch⟩ := hcf
  · omega
  obtain ⟨v0, v1, v2, v3, v4, ⟨-, ⟨a2, k2, rfl, hx2⟩, ⟨a3, k3, rfl, hx3⟩, -⟩, -, g1, g2, -, -⟩ := hcw i hil x hi
  obtain ⟨u2, -, j0, -⟩ := hch i hjl h hj
  obtain ⟨sq, hsq⟩ := get_some sw (hide rfl) hq
  have s0 := hc1 q hq sq hsq
  have T0 := boxes2 w 37 42 #[n, .slice (some ⟨b1, o1, none⟩) sw.length c1, .slice (some ⟨b, off, none⟩) ways.length cp, p3, hd] #[ok, f1, f2, .slice (some ⟨bf, of, none⟩) helds.length cf]
  have HX2 := hide hx2
  have HX3 := hide hx3
  have HSQ := hide hsq
  have hil' : (i : Int) < (ways.length : Int) := by omega
  have hjl' : (i : Int) < (helds.length : Int) := by omega
  have hq' : (q : Int) < (sw.length : Int) := by omega
  have J0 := ckb j0 T0.below
  have G2 := ckb g2 T0.below
  have HG1 := hide g1
  have HS0 := hide s0
  obtain ⟨hsx, hsl2, hsl3, -⟩ := hs
  clear hcw hch hi hj hx2 hx3 g1 g2 j0 hsq s0 hc1
  go_enter Tryz.func129, Tryz.ntmps129
  by_cases z0 : h.state = 0
  · have z0' : (h.state == 0) = true := by simp [z0]
    have Z0 := hide z0
    clear z0
    go_wp2
    go_ret
    exact ⟨ret_int (wantsD_idle Z0.out).symm, T0.below⟩
  have z0' : (h.state == 0) = false := by simp [z0]
  have Z0 := hide z0
  clear z0
  go_wp2
  go_loopw [27] (fun z wr => ∃ (k : Nat), k ≤ x.flanks.length ∧ z = .int .i64 k ∧ (∀ (j : Nat) y, j < k → x.flanks[j]? = some y → (y.1 == (q : Int)) = false) ∧ Boxes w [(37, #[n, .slice (some ⟨b1, o1, none⟩) sw.length c1, .slice (some ⟨b, off, none⟩) ways.length cp, p3, hd]), (42, #[ok, f1, f2, .slice (some ⟨bf, of, none⟩) helds.length cf])] wr) (fun z _ => x.flanks.length - (intOf z).toNat)
  case atStart => exact ⟨0, by omega, rfl, fun j _ hj => by omega, T0⟩
  case round =>
    obtain ⟨k, hk, rfl, hall, T1⟩ := hrel
    have HA := hide hall
    clear hall T0 J0 G2
    by_cases hlt : k < x.flanks.length
    · obtain h0 | ⟨bs, os, rfl, hbs, hcs⟩ := HX3.out
      · omega
      obtain ⟨y, hy⟩ := get_some x.flanks (hide rfl) hlt
      obtain ⟨g0, g1⟩ := hcs k hlt y hy
      rw [← T1.below.cell (p := ⟨bs, _, none⟩) hbs] at g0 g1
      have Hy := hide hy
      have T2 := T1.call (below_new wr (.cells #[.int .i64 y.1, .int .i64 y.2] 159))
      clear hy hcs
      by_cases e1 : y.1 = (q : Int)
      · have e1' : (y.1 == (q : Int)) = true := by simp [e1]
        have E1 := hide e1'
        clear e1
        go_wp2
        go_ret
        exact ⟨ret_int (wantsD_flank Z0.out (find_some_of HA.out Hy.out E1.out)).symm, T2.below⟩
      · have e1' : (y.1 == (q : Int)) = false := by simp [e1]
        have E1 := hide e1'
        clear e1
        go_wp2
        go_roundw
        case rel => exact ⟨k + 1, by omega, by go_num, fun j y' hj hy' => by
          by_cases e : j = k
          · subst e; rw [Hy.out] at hy'; cases hy'; exact E1.out
          · exact HA.out j y' (by omega) hy', T2⟩
        case measure => simp [intOf]; omega
    · have hnf : x.flanks.find? (fun y => y.1 == (q : Int)) = none := find_none_of HA.out (by omega)
      have HNF := hide hnf
      have r2 : wr.cell? ⟨w.heap.size, 2, none⟩ = some (.slice (some ⟨b, off, none⟩) ways.length cp) := T1.cell (j := 0) (i := 2) rfl rfl
      have G1 := ckb HG1.out T1.below
      clear hnf HA
      go_wp2
      clear r2 G1
      rename World => wo
      go_loopw [45] (fun z wr => ∃ (k : Nat), k ≤ x.lies.length ∧ z = .int .i64 k ∧ (∀ (j : Nat) y, j < k → x.lies[j]? = some y → (y.1 == (q : Int) && holdsB x h (sw.getD (q : Int).toNat 0)) = false) ∧ Boxes w [(37, #[n, .slice (some ⟨b1, o1, none⟩) sw.length c1, .slice (some ⟨b, off, none⟩) ways.length cp, p3, hd]), (42, #[ok, f1, f2, .slice (some ⟨bf, of, none⟩) helds.length cf])] wr) (fun z _ => x.lies.length - (intOf z).toNat)
      case atStart => exact ⟨0, by omega, rfl, fun j _ hj => by omega, T1⟩
      case round =>
        obtain ⟨k2, hk2, rfl, hall, T2⟩ := hrel
        have HA := hide hall
        clear hall T1
        by_cases hlt2 : k2 < x.lies.length
        · obtain h0 | ⟨bs, os, rfl, hbs, hcs⟩ := HX2.out
          · omega
          obtain ⟨⟨ya, yb⟩, hy⟩ := get_some x.lies (hide rfl) hlt2
          obtain ⟨g0, g1⟩ := hcs k2 hlt2 (ya, yb) hy
          simp only at g0 g1
          rw [← T2.below.cell (p := ⟨bs, _, none⟩) hbs] at g0 g1
          have Hy := hide hy
          have T3 := T2.call (below_new wr (.cells #[.int .i64 ya, .int .i64 yb] 159))
          have hgd : sw.getD (q : Int).toNat 0 = sq := by rw [Int.toNat_natCast, List.getD_eq_getElem?_getD, HSQ.out]; rfl
          have HGD := hide hgd
          clear hy hcs hgd
          have hneX := Ext.any (wr.alloc (.cells #[.int .i64 ya, .int .i64 yb] 159))
          have E0 := Ext.cell (show (wr.alloc (.cells #[.int .i64 ya, .int .i64 yb] 159)).cell? ⟨wr.heap.size, 0, none⟩ = some (.int .i64 ya) by simp)
          have E1 := Ext.cell (show (wr.alloc (.cells #[.int .i64 ya, .int .i64 yb] 159)).cell? ⟨wr.heap.size, 1, none⟩ = some (.int .i64 yb) by simp)
          have P0 := Ext.cell (show (wr.alloc (.cells #[.int .i64 ya, .int .i64 yb] 159)).cell? ⟨w.heap.size, 0, none⟩ = some n from T3.cell (j := 0) (i := 0) rfl rfl)
          have P1 := Ext.cell (show (wr.alloc (.cells #[.int .i64 ya, .int .i64 yb] 159)).cell? ⟨w.heap.size, 1, none⟩ = some (.slice (some ⟨b1, o1, none⟩) sw.length c1) from T3.cell (j := 0) (i := 1) rfl rfl)
          have P2 := Ext.cell (show (wr.alloc (.cells #[.int .i64 ya, .int .i64 yb] 159)).cell? ⟨w.heap.size, 2, none⟩ = some (.slice (some ⟨b, off, none⟩) ways.length cp) from T3.cell (j := 0) (i := 2) rfl rfl)
          have P3 := Ext.cell (show (wr.alloc (.cells #[.int .i64 ya, .int .i64 yb] 159)).cell? ⟨w.heap.size, 3, none⟩ = some p3 from T3.cell (j := 0) (i := 3) rfl rfl)
          have P4 := Ext.cell (show (wr.alloc (.cells #[.int .i64 ya, .int .i64 yb] 159)).cell? ⟨w.heap.size, 4, none⟩ = some hd from T3.cell (j := 0) (i := 4) rfl rfl)
          have F0 := Ext.cell (show (wr.alloc (.cells #[.int .i64 ya, .int .i64 yb] 159)).cell? ⟨w.heap.size + 1, 0, none⟩ = some ok from T3.cell (j := 1) (i := 0) rfl rfl)
          have F1 := Ext.cell (show (wr.alloc (.cells #[.int .i64 ya, .int .i64 yb] 159)).cell? ⟨w.heap.size + 1, 1, none⟩ = some f1 from T3.cell (j := 1) (i := 1) rfl rfl)
          have F2 := Ext.cell (show (wr.alloc (.cells #[.int .i64 ya, .int .i64 yb] 159)).cell? ⟨w.heap.size + 1, 2, none⟩ = some f2 from T3.cell (j := 1) (i := 2) rfl rfl)
          have F3 := Ext.cell (show (wr.alloc (.cells #[.int .i64 ya, .int .i64 yb] 159)).cell? ⟨w.heap.size + 1, 3, none⟩ = some (.slice (some ⟨bf, of, none⟩) helds.length cf) from T3.cell (j := 1) (i := 3) rfl rfl)
          have S0 := Ext.cell (ckb HS0.out T3.below)
          have hcall : ∀ nn : Ext (wr.alloc (.cells #[.int .i64 ya, .int .i64 yb] 159)), Calls Tryz.prog 103 #[.agg #[n, .slice (some ⟨b1, o1, none⟩) sw.length c1, .slice (some ⟨b, off, none⟩) ways.length cp, p3, hd], .agg #[ok, f1, f2, .slice (some ⟨bf, of, none⟩) helds.length cf], .int .i64 i, .int .i64 sq] nn.w fun e w' => e = .returned (.bool (holdsB x h sq)) ∧ Below nn.w.heap.size nn.w w' := fun nn => by
            have hB := T3.below.trans (nn.below.mono T3.below.size)
            exact l3holds_any _ _ _ _ _ _ _ _ _ ways helds i x h sq nn.w (HP.out.keep (In.keep hB).1 (In.keep hB).2) (HF.out.keep (In.keep hB).1 (In.keep hB).2) HI.out HJ.out hw hh hsx hg
          have HC := hide hcall
          clear hcall
          have stp : (ya == (q : Int) && holdsB x h (sw.getD (q : Int).toNat 0)) = false → ∀ (j : Nat) y', j < k2 + 1 → x.lies[j]? = some y' → (y'.1 == (q : Int) && holdsB x h (sw.getD (q : Int).toNat 0)) = false := fun hs j y' hj hy' => by
            by_cases e : j = k2
            · subst e; rw [Hy.out] at hy'; cases hy'; exact hs
            · exact HA.out j y' (by omega) hy'
          have STEP := hide stp
          clear stp
          by_cases e1 : ya = (q : Int)
          · subst e1
            have EE : Hid (((q : Int) == (q : Int)) = true) := by show ((q : Int) == (q : Int)) = true; simp
            cases hhb : holdsB x h sq
            · rw [hhb] at HC
              have HHB := hide hhb
              clear hhb
              go_wp2
              refine wp_region_ext (by kernel_rfl) (by kernel_rfl) ?_
              repeat (go_big_quiet_step ((go_at_call 103; exact ext_of (HC.out _))))
              refine wpQuiet_nil ?_
              rintro _ ⟨nn, rfl⟩
              go_wp2
              go_roundw
              case rel => exact ⟨k2 + 1, by omega, by go_num, STEP.out (by rw [HGD.out, HHB.out, Bool.and_false]), T3.call nn.below⟩
              case measure => simp [intOf]; omega
            · rw [hhb] at HC
              have HHB := hide hhb
              clear hhb
              go_wp2
              refine wp_region_ext (by kernel_rfl) (by kernel_rfl) ?_
              repeat (go_big_quiet_step ((go_at_call 103; exact ext_of (HC.out _))))
              refine wpQuiet_nil ?_
              rintro _ ⟨nn, rfl⟩
              go_wp2
              go_ret
              exact ⟨ret_int (wantsD_lie Z0.out HNF.out (find_some_of HA.out Hy.out (by rw [HGD.out, HHB.out, EE.out]; rfl))).symm, (T3.call nn.below).below⟩
          · have e1' : (ya == (q : Int)) = false := by simp [e1]
            have EE := hide e1'
            clear e1
            go_wp2
            refine wp_region_ext (by kernel_rfl) (by kernel_rfl) ?_
            repeat (go_big_quiet_step ((go_at_call 103; exact ext_of (HC.out _))))
            refine wpQuiet_nil ?_
            rintro _ ⟨nn, rfl⟩
            go_wp2
            go_roundw
            case rel => exact ⟨k2 + 1, by omega, by go_num, STEP.out (by rw [EE.out, Bool.false_and]), T3.call nn.below⟩
            case measure => simp [intOf]; omega
        · have hnl : x.lies.find? (fun y => y.1 == (q : Int) && holdsB x h (sw.getD (q : Int).toNat 0)) = none := find_none_of HA.out (by omega)
          have HNL := hide hnl
          clear hnl
          go_wp2
          go_ret
          exact ⟨ret_int (wantsD_none Z0.out HNF.out HNL.out).symm, T2.below⟩
end Go.Proofs.YtdnnblknjmlgeabGreatDoor

import Derived.Test.YtdhinkgjiapigabGreatDoorEqA
import Derived.Test.YtdhinkgjiapigabGreatDoorBase
import Derived.Test.YtdhinkgjiapigabGreatDoorToA
namespace Go.Proofs.YtdhinkgjiapigabGreatDoor
open Go.RowKit Go.Deep

set_option maxHeartbeats 400000 in
theorem eqPoint_any (x y : Int) (w : World) :
    Calls Tryz.prog 141 #[.agg #[.int .i64 x, .int .i64 y], .agg #[.int .i64 x, .int .i64 y]] w fun e w' => e = .returned (.bool true) ∧ Below w.heap.size w w' := by
  go_enter Tryz.func141, Tryz.ntmps141
  go_wp2
  go_ret
  exact ⟨rfl, (((Below.refl _ _).alloc (Nat.le_refl _) _).alloc (by simp) _)⟩

set_option maxHeartbeats 1000000 in
theorem eqPointS_any (u v : Value) (l : List (Int × Int)) (w : World) (hu : Lies (In w) w u l) (hv : Lies (In w) w v l) (hn : l.length ≤ 1048576) :
    Calls Tryz.prog 83 #[u, v] w fun e w' => e = .returned (.bool true) ∧ Below w.heap.size w w' := by
  obtain ⟨a, cap, rfl, hc⟩ := hu
  obtain ⟨a2, cap2, rfl, hc2⟩ := hv
  generalize hn' : l.length = n at *
  have Hn : Hid (l.length = n) := hn'
  have HC := hide hc
  have HD := hide hc2
  clear hc hc2 hn'
  go_enter Tryz.func83, Tryz.ntmps83
  go_wp2
  go_loopw [5] (fun i wr => ∃ (k : Nat), k ≤ n ∧ i = .int .i64 k ∧ Below w.heap.size w wr) (fun i _ => n - (intOf i).toNat)
  case atStart => exact ⟨0, Nat.zero_le _, rfl, Below.refl _ _⟩
  case round =>
    obtain ⟨k, hk, rfl, hbl⟩ := hrel
    by_cases hlt : k < n
    · obtain h0 | ⟨b, off, rfl, hb0, hc⟩ := HC.out
      · omega
      obtain h0 | ⟨b2, off2, rfl, hb2, hc2⟩ := HD.out
      · omega
      obtain ⟨x, hx⟩ := get_some l Hn hlt
      obtain ⟨g0, g1⟩ := hc k hlt x hx
      obtain ⟨g2, g3⟩ := hc2 k hlt x hx
      rw [← hbl.cell (p := ⟨b, _, none⟩) hb0] at g0 g1
      rw [← hbl.cell (p := ⟨b2, _, none⟩) hb2] at g2 g3
      have hlt' : (k : Int) < (n : Int) := by omega
      have hne := Ext.any wr
      have E0 := Ext.cell g0
      have E1 := Ext.cell g1
      have E2 := Ext.cell g2
      have E3 := Ext.cell g3
      have HB := hide hbl
      clear hx hc hc2 hbl g0 g1 g2 g3
      go_wp2
      refine wp_region_ext (by kernel_rfl) (by kernel_rfl) ?_
      repeat (go_big_quiet_step ((go_at_call 141; exact ext_of (eqPoint_any _ _ _))))
      refine wpQuiet_nil ?_
      rintro _ ⟨nq, rfl⟩
      go_wp2
      go_roundw
      case rel => exact ⟨k + 1, by omega, by go_num, HB.out.trans (nq.below.mono HB.out.size)⟩
      case measure => simp [intOf]; omega
    · go_wp2
      go_ret
      exact ⟨rfl, hbl⟩

set_option maxHeartbeats 1000000 in
theorem eqHeld_any (x : HeldD) (u v : Value) (w : World) (hu : Bools (In w) w u x.been) (hv : Bools (In w) w v x.been) (hs : x.been.length ≤ 1048576) :
    Calls Tryz.prog 142 #[.agg #[.int .i64 x.state, .int .i64 x.gone, u, .bool x.shown, .int .i64 x.timer], .agg #[.int .i64 x.state, .int .i64 x.gone, v, .bool x.shown, .int .i64 x.timer]] w fun e w' => e = .returned (.bool true) ∧ Below w.heap.size w w' := by
  have T0 := boxes2 w 93 93 #[.int .i64 x.state, .int .i64 x.gone, u, .bool x.shown, .int .i64 x.timer] #[.int .i64 x.state, .int .i64 x.gone, v, .bool x.shown, .int .i64 x.timer]
  have hu0 := hu.keep (In.keep T0.below).1 (In.keep T0.below).2
  have hv0 := hv.keep (In.keep T0.below).1 (In.keep T0.below).2
  clear hu hv
  go_enter Tryz.func142, Tryz.ntmps142
  go_wp2_with fail
  refine (eqBoolS_any u v x.been _ hu0 hv0 hs).mono ?_
  rintro e w1 ⟨rfl, m, hm⟩
  have T1 := T0.call (hm ▸ below_draws _ m)
  clear T0 hm hu0 hv0
  have c3 : w1.cell? ⟨w.heap.size, 3, none⟩ = some (.bool x.shown) := T1.cell (j := 0) (i := 3) rfl rfl
  have c4 : w1.cell? ⟨w.heap.size, 4, none⟩ = some (.int .i64 x.timer) := T1.cell (j := 0) (i := 4) rfl rfl
  have d3 : w1.cell? ⟨w.heap.size + 1, 3, none⟩ = some (.bool x.shown) := T1.cell (j := 1) (i := 3) rfl rfl
  have d4 : w1.cell? ⟨w.heap.size + 1, 4, none⟩ = some (.int .i64 x.timer) := T1.cell (j := 1) (i := 4) rfl rfl
  go_wp2
  go_ret
  exact ⟨rfl, T1.below⟩

set_option maxHeartbeats 1000000 in
theorem eqHeldS_any (u v : Value) (l : List HeldD) (w : World) (hu : Helds (In w) w u l) (hv : Helds (In w) w v l) (hn : l.length ≤ 1048576) (hl : ∀ x ∈ l, x.been.length ≤ 1048576) :
    Calls Tryz.prog 84 #[u, v] w fun e w' => e = .returned (.bool true) ∧ Below w.heap.size w w' := by
  obtain ⟨a, cap, rfl, hc⟩ := hu
  obtain ⟨a2, cap2, rfl, hc2⟩ := hv
  generalize hn' : l.length = n at *
  have Hn : Hid (l.length = n) := hn'
  have HC := hide hc
  have HD := hide hc2
  have HL := hide hl
  clear hc hc2 hn' hl
  go_enter Tryz.func84, Tryz.ntmps84
  go_wp2
  go_loopw [5] (fun i wr => ∃ (k : Nat), k ≤ n ∧ i = .int .i64 k ∧ Below w.heap.size w wr) (fun i _ => n - (intOf i).toNat)
  case atStart => exact ⟨0, Nat.zero_le _, rfl, Below.refl _ _⟩
  case round =>
    obtain ⟨k, hk, rfl, hbl⟩ := hrel
    by_cases hlt : k < n
    · obtain h0 | ⟨b, off, rfl, hb0, hc⟩ := HC.out
      · omega
      obtain h0 | ⟨b2, off2, rfl, hb2, hc2⟩ := HD.out
      · omega
      obtain ⟨x, hx⟩ := get_some l Hn hlt
      obtain ⟨p2, hw, g0, g1, g2, g3, g4⟩ := hc k hlt x hx
      obtain ⟨q2, hw2, j0, j1, j2, j3, j4⟩ := hc2 k hlt x hx
      rw [← hbl.cell (p := ⟨b, _, none⟩) hb0] at g0 g1 g2 g3 g4
      rw [← hbl.cell (p := ⟨b2, _, none⟩) hb2] at j0 j1 j2 j3 j4
      have hsx := HL.out x (List.mem_of_getElem? hx)
      have hq : ∀ m : Ext wr, Calls Tryz.prog 142 #[.agg #[.int .i64 x.state, .int .i64 x.gone, p2, .bool x.shown, .int .i64 x.timer], .agg #[.int .i64 x.state, .int .i64 x.gone, q2, .bool x.shown, .int .i64 x.timer]] m.w fun e w' => e = .returned (.bool true) ∧ Below m.w.heap.size m.w w' := fun m => by
        have hb2 : Below w.heap.size w m.w := hbl.trans (m.below.mono hbl.size)
        exact eqHeld_any x p2 q2 m.w (hw.keep (In.keep hb2).1 (In.keep hb2).2) (hw2.keep (In.keep hb2).1 (In.keep hb2).2) hsx
      have HQ := hide hq
      have hlt' : (k : Int) < (n : Int) := by omega
      have hne := Ext.any wr
      have E0 := Ext.cell g0
      have E1 := Ext.cell g1
      have E2 := Ext.cell g2
      have E3 := Ext.cell g3
      have E4 := Ext.cell g4
      have F0 := Ext.cell j0
      have F1 := Ext.cell j1
      have F2 := Ext.cell j2
      have F3 := Ext.cell j3
      have F4 := Ext.cell j4
      have HB := hide hbl
      clear hx hc hc2 hbl hq hw hw2 hsx g0 g1 g2 g3 g4 j0 j1 j2 j3 j4
      go_wp2
      refine wp_region_ext (by kernel_rfl) (by kernel_rfl) ?_
      repeat (go_big_quiet_step ((go_at_call 142; exact ext_of (HQ.out _))))
      refine wpQuiet_nil ?_
      rintro _ ⟨nq, rfl⟩
      go_wp2
      go_roundw
      case rel => exact ⟨k + 1, by omega, by go_num, HB.out.trans (nq.below.mono HB.out.size)⟩
      case measure => simp [intOf]; omega
    · go_wp2
      go_ret
      exact ⟨rfl, hbl⟩

set_option maxHeartbeats 1000000 in
theorem eqFrame_any (ok : Bool) (u1 u2 u3 v1 v2 v3 : Value) (d : FrameD) (w : World) (hu : FrameAt (In w) w u1 u2 u3 d) (hv : FrameAt (In w) w v1 v2 v3 d) (hs : d.Small 1048576) :
    Calls Tryz.prog 20 #[.agg #[.bool ok, u1, u2, u3], .agg #[.bool ok, v1, v2, v3]] w fun e w' => e = .returned (.bool true) ∧ Below w.heap.size w w' := by
  have T0 := boxes2 w 42 42 #[.bool ok, u1, u2, u3] #[.bool ok, v1, v2, v3]
  have hk : ∀ {W}, Boxes w [(42, #[.bool ok, u1, u2, u3]), (42, #[.bool ok, v1, v2, v3])] W → FrameAt (In W) W u1 u2 u3 d ∧ FrameAt (In W) W v1 v2 v3 d := fun h => ⟨hu.keep (In.keep h.below).1 (In.keep h.below).2, hv.keep (In.keep h.below).1 (In.keep h.below).2⟩
  obtain ⟨hs1, hs2, hs3, hs4⟩ := hs
  have H4 := hide hs4
  clear hu hv hs4
  go_enter Tryz.func20, Tryz.ntmps20
  go_wp2_with fail
  refine (eqBoolS_any u1 v1 d.occ _ (hk T0).1.1 (hk T0).2.1 hs1).mono ?_
  rintro e w1 ⟨rfl, m, hm⟩
  have T1 := T0.call (hm ▸ below_draws _ m)
  clear T0 hm
  have c2 : w1.cell? ⟨w.heap.size, 2, none⟩ = some u2 := T1.cell (j := 0) (i := 2) rfl rfl
  have d2 : w1.cell? ⟨w.heap.size + 1, 2, none⟩ = some v2 := T1.cell (j := 1) (i := 2) rfl rfl
  go_wp2_with fail
  refine (eqPointS_any u2 v2 d.points _ (hk T1).1.2.1 (hk T1).2.2.1 hs2).mono ?_
  clear c2 d2
  rintro e w2 ⟨rfl, hb⟩
  have T2 := T1.call hb
  clear T1 hb
  have c2 : w2.cell? ⟨w.heap.size, 3, none⟩ = some u3 := T2.cell (j := 0) (i := 3) rfl rfl
  have d2 : w2.cell? ⟨w.heap.size + 1, 3, none⟩ = some v3 := T2.cell (j := 1) (i := 3) rfl rfl
  go_wp2_with fail
  refine (eqHeldS_any u3 v3 d.ways _ (hk T2).1.2.2 (hk T2).2.2.2 hs3 H4.out).mono ?_
  clear c2 d2
  rintro e w3 ⟨rfl, hb⟩
  have T3 := T2.call hb
  clear T2 hb
  go_wp2
  go_ret
  exact ⟨rfl, T3.below⟩
end Go.Proofs.YtdhinkgjiapigabGreatDoor

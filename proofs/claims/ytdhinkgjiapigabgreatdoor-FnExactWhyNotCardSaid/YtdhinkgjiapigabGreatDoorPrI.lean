import Derived.Test.YtdhinkgjiapigabGreatDoorPrM
import Derived.Test.YtdhinkgjiapigabGreatDoorFrA
import Derived.Test.YtdhinkgjiapigabGreatDoorImpl
import Derived.Deep.RegionWith
import Derived.Deep.DeepCutAuto
namespace Go.Proofs.YtdhinkgjiapigabGreatDoor
open Go.RowKit Go.Deep
open Classical

set_option maxRecDepth 100000 in
set_option maxHeartbeats 8000000 in
theorem implProved_walk (p1 p2 p3 f1 f2 f3 : Value) (p : PlanD) (d : FrameD) (k : Int) (w : World) (hp : PlanAt (In w) w p1 p2 p3 p) (hf : FrameAt (In w) w f1 f2 f3 d) (hs : p.Small 1048576) (hd : d.Small 1048576)
    (hfo : ∀ W, Below w.heap.size w W → Calls Tryz.prog 18 #[.agg #[.int .i64 p.sections, p1, p2, p3, .int .i64 p.hold], .agg #[.bool d.ok, f1, f2, f3]] W fun e w' => e = .returned (.bool (B (FrameR p d))) ∧ Below W.heap.size W w') :
    Calls Tryz.prog 39 #[.agg #[.int .i64 p.sections, p1, p2, p3, .int .i64 p.hold], .agg #[.bool d.ok, f1, f2, f3], .int .i64 k] w fun e w' => e = .returned (.bool (provedAt p d k)) ∧ Below w.heap.size w w' := by
  have T0 := boxes2 w 37 42 #[.int .i64 p.sections, p1, p2, p3, .int .i64 p.hold] #[.bool d.ok, f1, f2, f3]
  have HFO0 := hide hfo
  have KP := hide fun (W : World) (h : Below w.heap.size w W) => hp.keep (Q := In W) (In.keep h).1 (In.keep h).2
  have KF := hide fun (W : World) (h : Below w.heap.size w W) => hf.keep (Q := In W) (In.keep h).1 (In.keep h).2
  obtain ⟨a1, c1, rfl⟩ := hp.1.size
  obtain ⟨a2, c2, rfl⟩ := hp.2.1.size
  obtain ⟨a3, c3, rfl⟩ := hp.2.2.size
  obtain ⟨o1, m1, rfl⟩ := hf.1.size
  obtain ⟨o2, m2, rfl⟩ := hf.2.1.size
  obtain ⟨o3, m3, rfl⟩ := hf.2.2.size
  have HS := hide hs
  have HD := hide hd
  have hwl : p.ways.length ≤ 1048576 := hs.2.1
  clear hs hd hp hf
  have hfo2 : ∀ n : Ext ((w.alloc (.cells #[.int .i64 p.sections, .slice a1 p.switches.length c1, .slice a2 p.ways.length c2, .slice a3 p.bars.length c3, .int .i64 p.hold] 37)).alloc (.cells #[.bool d.ok, .slice o1 d.occ.length m1, .slice o2 d.points.length m2, .slice o3 d.ways.length m3] 42)), Calls Tryz.prog 18 #[.agg #[.int .i64 p.sections, .slice a1 p.switches.length c1, .slice a2 p.ways.length c2, .slice a3 p.bars.length c3, .int .i64 p.hold], .agg #[.bool d.ok, .slice o1 d.occ.length m1, .slice o2 d.points.length m2, .slice o3 d.ways.length m3]] n.w fun e w' => e = .returned (.bool (B (FrameR p d))) ∧ Below n.w.heap.size n.w w' := fun n => HFO0.out n.w (T0.call n.below).below
  have HFO := hide hfo2
  have hiw : ∀ n : Ext ((w.alloc (.cells #[.int .i64 p.sections, .slice a1 p.switches.length c1, .slice a2 p.ways.length c2, .slice a3 p.bars.length c3, .int .i64 p.hold] 37)).alloc (.cells #[.bool d.ok, .slice o1 d.occ.length m1, .slice o2 d.points.length m2, .slice o3 d.ways.length m3] 42)), Calls Tryz.prog 107 #[.agg #[.int .i64 p.sections, .slice a1 p.switches.length c1, .slice a2 p.ways.length c2, .slice a3 p.bars.length c3, .int .i64 p.hold], .int .i64 k] n.w fun e w' => e = .returned (.bool (B (InR k 0 ((p.ways.length : Int) - 1)))) ∧ Below n.w.heap.size n.w w' := fun n => isWay_any _ _ p.ways.length _ _ _ _ k n.w hwl
  have HIW := hide hiw
  have hne := Ext.any ((w.alloc (.cells #[.int .i64 p.sections, .slice a1 p.switches.length c1, .slice a2 p.ways.length c2, .slice a3 p.bars.length c3, .int .i64 p.hold] 37)).alloc (.cells #[.bool d.ok, .slice o1 d.occ.length m1, .slice o2 d.points.length m2, .slice o3 d.ways.length m3] 42))
  clear hfo hfo2 HFO0 hiw
  go_enter Tryz.func39, Tryz.ntmps39
  have b0 := T0.cell (j := 0) (i := 0) rfl rfl
  have b1 := T0.cell (j := 0) (i := 1) rfl rfl
  have b2 := T0.cell (j := 0) (i := 2) rfl rfl
  have b3 := T0.cell (j := 0) (i := 3) rfl rfl
  have b4 := T0.cell (j := 0) (i := 4) rfl rfl
  have e0 := T0.cell (j := 1) (i := 0) rfl rfl
  have e1 := T0.cell (j := 1) (i := 1) rfl rfl
  have e2 := T0.cell (j := 1) (i := 2) rfl rfl
  have e3 := T0.cell (j := 1) (i := 3) rfl rfl
  rw [Nat.add_zero] at b0 b1 b2 b3 b4
  have B0 := Ext.cell b0
  have B1 := Ext.cell b1
  have B2 := Ext.cell b2
  have B3 := Ext.cell b3
  have B4 := Ext.cell b4
  have E0 := Ext.cell e0
  have E1 := Ext.cell e1
  have E2 := Ext.cell e2
  have E3 := Ext.cell e3
  clear b0 b1 b2 b3 b4 e0 e1 e2 e3
  by_cases hfr : FrameR p d
  case neg =>
    rw [B_false hfr] at HFO
    have HFR := hide hfr
    have HT := hide T0
    clear hfr T0
    go_wp2
    refine wp_region_ext (by kernel_rfl) (by kernel_rfl) ?_
    repeat (go_big_quiet_step ((go_at_call 18; exact ext_of (HFO.out _))))
    refine wpQuiet_nil ?_
    rintro _ ⟨nq, rfl⟩
    go_wp2
    go_ret
    exact ⟨ret_bool (provedAt_not HFR.out).symm, (HT.out.call nq.below).below⟩
  rw [B_true hfr] at HFO
  have HFR := hide hfr
  clear hfr
  by_cases hin : InR k 0 ((p.ways.length : Int) - 1)
  case neg =>
    rw [B_false hin] at HIW
    have HIN := hide hin
    have HT := hide T0
    clear hin T0
    go_wp2
    refine wp_region_ext (by kernel_rfl) (by kernel_rfl) ?_
    repeat (go_big_quiet_step ((first | (go_at_call 18; exact ext_of (HFO.out _)) | (go_at_call 107; exact ext_of (HIW.out _)))))
    refine wpQuiet_nil ?_
    rintro _ ⟨nq, rfl⟩
    go_wp2
    go_ret
    exact ⟨ret_bool (provedAt_no HIN.out).symm, (HT.out.call nq.below).below⟩
  rw [B_true hin] at HIW
  obtain ⟨i, rfl⟩ : ∃ i : Nat, k = i := ⟨k.toNat, by have := hin.1; omega⟩
  obtain ⟨x, hx⟩ := get_some p.ways (hide rfl) (show i < p.ways.length by have := hin.2; omega)
  have hil : i < p.ways.length := (List.getElem?_eq_some_iff.1 hx).1
  have hil' : (i : Int) < (p.ways.length : Int) := by omega
  obtain ⟨aw, cw, hv, hcw⟩ := (KP.out w (Below.refl _ _)).2.1
  cases hv
  obtain h0 | ⟨bw, ow, rfl, hbw, hcw⟩ := hcw
  · omega
  obtain ⟨v0, v1, v2, v3, v4, hxa, g0, g1, g2, g3, g4⟩ := hcw i hil x hx
  obtain ⟨s0, t0, rfl⟩ := hxa.1.size
  obtain ⟨s1, t1, rfl⟩ := hxa.2.1.size
  obtain ⟨s2, t2, rfl⟩ := hxa.2.2.1.size
  obtain ⟨s3, t3, rfl⟩ := hxa.2.2.2.1.size
  obtain ⟨s4, t4, rfl⟩ := hxa.2.2.2.2.size
  have HX := hide hx
  have HXA := hide hxa
  have hpr : ∀ n : Ext ((w.alloc (.cells #[.int .i64 p.sections, .slice a1 p.switches.length c1, .slice (some ⟨bw, ow, none⟩) p.ways.length c2, .slice a3 p.bars.length c3, .int .i64 p.hold] 37)).alloc (.cells #[.bool d.ok, .slice o1 d.occ.length m1, .slice o2 d.points.length m2, .slice o3 d.ways.length m3] 42)), Calls Tryz.prog 108 #[.agg #[.bool d.ok, .slice o1 d.occ.length m1, .slice o2 d.points.length m2, .slice o3 d.ways.length m3], .agg #[.slice s0 x.sections.length t0, .slice s1 x.lies.length t1, .slice s2 x.flanks.length t2, .slice s3 x.over.length t3, .slice s4 x.near.length t4]] n.w fun e w' => e = .returned (.bool (provedB d.occ d.points x)) ∧ Below n.w.heap.size n.w w' := fun n => by
    have h := (T0.call n.below).below
    exact proved_any _ _ _ _ _ _ _ _ _ d.occ d.points x n.w (KF.out _ h).1 (KF.out _ h).2.1 (HXA.out.keep (In.keep h).1 (In.keep h).2) (frame_way HFR.out HX.out).1 (frame_way HFR.out HX.out).2.1 (frame_way HFR.out HX.out).2.2 (frame_small HFR.out HD.out).2
  have HPR := hide hpr
  have G0 := Ext.cell ((T0.below.cell (p := ⟨bw, _, none⟩) hbw).trans g0)
  have G1 := Ext.cell ((T0.below.cell (p := ⟨bw, _, none⟩) hbw).trans g1)
  have G2 := Ext.cell ((T0.below.cell (p := ⟨bw, _, none⟩) hbw).trans g2)
  have G3 := Ext.cell ((T0.below.cell (p := ⟨bw, _, none⟩) hbw).trans g3)
  have G4 := Ext.cell ((T0.below.cell (p := ⟨bw, _, none⟩) hbw).trans g4)
  have HT := hide T0
  clear hpr hin hx hcw hxa g0 g1 g2 g3 g4 T0
  go_wp2
  refine wp_region_ext (by kernel_rfl) (by kernel_rfl) ?_
  repeat (go_big_quiet_step ((first | (go_at_call 18; exact ext_of (HFO.out _)) | (go_at_call 107; exact ext_of (HIW.out _)) | (go_at_call 108; exact ext_of (HPR.out _)))))
  refine wpQuiet_nil ?_
  rintro _ ⟨nq, rfl⟩
  go_wp2
  go_ret
  exact ⟨ret_bool (provedAt_yes HFR.out HX.out).symm, (HT.out.call nq.below).below⟩
end Go.Proofs.YtdhinkgjiapigabGreatDoor

import Derived.Test.YtdhinkgjiapigabGreatDoorPrM
import Derived.Test.YtdhinkgjiapigabGreatDoorSpec5
namespace Go.Proofs.YtdhinkgjiapigabGreatDoor
open Go.RowKit Go.Deep
open Classical

set_option maxRecDepth 100000 in
set_option maxHeartbeats 4000000 in
theorem specProved_any (p1 p2 p3 f1 f2 f3 : Value) (p : PlanD) (d : FrameD) (k : Int) (w : World) (hp : PlanAt (In w) w p1 p2 p3 p) (hf : FrameAt (In w) w f1 f2 f3 d) (hs : p.Small 1048576) (hd : d.Small 1048576) :
    Calls Tryz.prog 38 #[.agg #[.int .i64 p.sections, p1, p2, p3, .int .i64 p.hold], .agg #[.bool d.ok, f1, f2, f3], .int .i64 k] w fun e w' => e = .returned (.bool (provedAt p d k)) ∧ Below w.heap.size w w' := by
  have T0 := boxes2 w 37 42 #[.int .i64 p.sections, p1, p2, p3, .int .i64 p.hold] #[.bool d.ok, f1, f2, f3]
  have KP := hide fun (W : World) (h : Below w.heap.size w W) => hp.keep (Q := In W) (In.keep h).1 (In.keep h).2
  have KF := hide fun (W : World) (h : Below w.heap.size w W) => hf.keep (Q := In W) (In.keep h).1 (In.keep h).2
  obtain ⟨a1, c1, rfl⟩ := hp.1.size
  obtain ⟨a2, c2, rfl⟩ := hp.2.1.size
  obtain ⟨a3, c3, rfl⟩ := hp.2.2.size
  obtain ⟨o1, m1, rfl⟩ := hf.1.size
  obtain ⟨o2, m2, rfl⟩ := hf.2.1.size
  obtain ⟨o3, m3, rfl⟩ := hf.2.2.size
  have HS := hide hs
  have HD := hide hd
  have hwl : p.ways.length ≤ 1048576 := hs.2.1
  clear hs hd hp hf
  go_enter Tryz.func38, Tryz.ntmps38
  have b0 := T0.cell (j := 0) (i := 0) rfl rfl
  have b1 := T0.cell (j := 0) (i := 1) rfl rfl
  have b2 := T0.cell (j := 0) (i := 2) rfl rfl
  have b3 := T0.cell (j := 0) (i := 3) rfl rfl
  have b4 := T0.cell (j := 0) (i := 4) rfl rfl
  have e0 := T0.cell (j := 1) (i := 0) rfl rfl
  have e1 := T0.cell (j := 1) (i := 1) rfl rfl
  have e2 := T0.cell (j := 1) (i := 2) rfl rfl
  have e3 := T0.cell (j := 1) (i := 3) rfl rfl
  rw [Nat.add_zero] at b0 b1 b2 b3 b4
  go_wp2_with fail
  refine (specFrameOk_any _ _ _ _ _ _ p d _ (KP.out _ T0.below) (KF.out _ T0.below) HS.out HD.out).mono ?_
  clear b0 b1 b2 b3 b4 e0 e1 e2 e3
  rintro e w1 ⟨rfl, hb⟩
  have T1 := T0.call hb
  clear T0 hb
  have b0 := T1.cell (j := 0) (i := 0) rfl rfl
  have b1 := T1.cell (j := 0) (i := 1) rfl rfl
  have b2 := T1.cell (j := 0) (i := 2) rfl rfl
  have b3 := T1.cell (j := 0) (i := 3) rfl rfl
  have b4 := T1.cell (j := 0) (i := 4) rfl rfl
  have e0 := T1.cell (j := 1) (i := 0) rfl rfl
  have e1 := T1.cell (j := 1) (i := 1) rfl rfl
  have e2 := T1.cell (j := 1) (i := 2) rfl rfl
  have e3 := T1.cell (j := 1) (i := 3) rfl rfl
  rw [Nat.add_zero] at b0 b1 b2 b3 b4
  by_cases hfr : FrameR p d
  case neg =>
    rw [B_false hfr]
    have HFR := hide hfr
    clear hfr
    go_wp2
    go_ret
    exact ⟨ret_bool (provedAt_not HFR.out).symm, T1.below⟩
  rw [B_true hfr]
  have HFR := hide hfr
  clear hfr
  go_wp2_with fail
  refine (l1in_any _ _ _ _).mono ?_
  rintro e w2 ⟨rfl, rfl⟩
  by_cases hin : InR k 0 ((p.ways.length : Int) - 1)
  case neg =>
    rw [B_false hin]
    have HIN := hide hin
    clear hin
    go_wp2
    go_ret
    exact ⟨ret_bool (provedAt_no HIN.out).symm, T1.below⟩
  rw [B_true hin]
  obtain ⟨i, rfl⟩ : ∃ i : Nat, k = i := ⟨k.toNat, by have := hin.1; omega⟩
  obtain ⟨x, hx⟩ := get_some p.ways (hide rfl) (show i < p.ways.length by have := hin.2; omega)
  have HX := hide hx
  clear hin hx
  go_wp2_with fail
  refine (l2proved_any _ _ _ _ _ _ _ _ _ p.ways d i x _ (KP.out _ T1.below).2.1 (KF.out _ T1.below).1 (KF.out _ T1.below).2.1 HX.out (frame_small HFR.out HD.out).1 (frame_way HFR.out HX.out).1 (frame_way HFR.out HX.out).2.1 (frame_way HFR.out HX.out).2.2 (frame_small HFR.out HD.out).2).mono ?_
  clear b0 b1 b2 b3 b4 e0 e1 e2 e3
  rintro e w3 ⟨rfl, hb⟩
  have T3 := T1.call hb
  clear T1 hb
  go_wp2
  go_ret
  exact ⟨ret_bool (provedAt_yes HFR.out HX.out).symm, T3.below⟩
end Go.Proofs.YtdhinkgjiapigabGreatDoor

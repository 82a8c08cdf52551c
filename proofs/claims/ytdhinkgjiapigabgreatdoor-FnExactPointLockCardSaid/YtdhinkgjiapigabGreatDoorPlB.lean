import Derived.Test.YtdhinkgjiapigabGreatDoorPlS
import Derived.Test.YtdhinkgjiapigabGreatDoorPlI
import Derived.Test.YtdhinkgjiapigabGreatDoorImpl
import Derived.Test.YtdhinkgjiapigabGreatDoorFrIC
namespace Go.Proofs.YtdhinkgjiapigabGreatDoor
open Go.RowKit Go.Deep
open Classical

set_option maxRecDepth 100000 in
set_option maxHeartbeats 4000000 in
theorem implPointLock_walk (p1 p2 p3 f1 f2 f3 : Value) (p : PlanD) (d : FrameD) (k : Int) (w : World) (hp : PlanAt (In w) w p1 p2 p3 p) (hc : WaysC (In w) w p2 p.ways) (hf : FrameAt (In w) w f1 f2 f3 d) (hs : p.Small 1048576) (hd : d.Small 1048576)
    (hfo : ∀ W, Below w.heap.size w W → Calls Tryz.prog 18 #[.agg #[.int .i64 p.sections, p1, p2, p3, .int .i64 p.hold], .agg #[.bool d.ok, f1, f2, f3]] W fun e w' => e = .returned (.bool (B (FrameR p d))) ∧ Below W.heap.size W w') :
    Calls Tryz.prog 43 #[.agg #[.int .i64 p.sections, p1, p2, p3, .int .i64 p.hold], .agg #[.bool d.ok, f1, f2, f3], .int .i64 k] w fun e w' => ∃ v, e = .returned v ∧ Below w.heap.size w w' ∧ OwnI w.heap.size w' v (pointsOf p d k) := by
  have T0 := boxes2 w 37 42 #[.int .i64 p.sections, p1, p2, p3, .int .i64 p.hold] #[.bool d.ok, f1, f2, f3]
  have HFO := hide hfo
  have KC := hide fun (W : World) (h : Below w.heap.size w W) => hc.keep (Q := In W) (In.keep h).1 (In.keep h).2
  have KP := hide fun (W : World) (h : Below w.heap.size w W) => hp.keep (Q := In W) (In.keep h).1 (In.keep h).2
  have KF := hide fun (W : World) (h : Below w.heap.size w W) => hf.keep (Q := In W) (In.keep h).1 (In.keep h).2
  obtain ⟨a1, c1, rfl⟩ := hp.1.size
  obtain ⟨a2, c2, rfl⟩ := hp.2.1.size
  obtain ⟨a3, c3, rfl⟩ := hp.2.2.size
  obtain ⟨o1, m1, rfl⟩ := hf.1.size
  obtain ⟨o2, m2, rfl⟩ := hf.2.1.size
  obtain ⟨o3, m3, rfl⟩ := hf.2.2.size
  have HS := hide hs
  have HD := hide hd
  have hwl : p.ways.length ≤ 1048576 := hs.2.1
  clear hs hd hp hf
  have hsl := HS.out.1
  clear hfo hc
  go_enter Tryz.func43, Tryz.ntmps43
  have b0 := T0.cell (j := 0) (i := 0) rfl rfl
  have b1 := T0.cell (j := 0) (i := 1) rfl rfl
  have b2 := T0.cell (j := 0) (i := 2) rfl rfl
  have b3 := T0.cell (j := 0) (i := 3) rfl rfl
  have b4 := T0.cell (j := 0) (i := 4) rfl rfl
  have e0 := T0.cell (j := 1) (i := 0) rfl rfl
  have e1 := T0.cell (j := 1) (i := 1) rfl rfl
  have e2 := T0.cell (j := 1) (i := 2) rfl rfl
  have e3 := T0.cell (j := 1) (i := 3) rfl rfl
  rw [Nat.add_zero] at b0 b1 b2 b3 b4
  go_wp2_with fail
  refine (HFO.out _ T0.below).mono ?_
  clear b0 b1 b2 b3 b4 e0 e1 e2 e3
  rintro e w1 ⟨rfl, hb⟩
  have T1 := T0.call hb
  clear T0 hb HFO
  have b0 := T1.cell (j := 0) (i := 0) rfl rfl
  have b1 := T1.cell (j := 0) (i := 1) rfl rfl
  have b2 := T1.cell (j := 0) (i := 2) rfl rfl
  have b3 := T1.cell (j := 0) (i := 3) rfl rfl
  have b4 := T1.cell (j := 0) (i := 4) rfl rfl
  have e0 := T1.cell (j := 1) (i := 0) rfl rfl
  have e1 := T1.cell (j := 1) (i := 1) rfl rfl
  have e2 := T1.cell (j := 1) (i := 2) rfl rfl
  have e3 := T1.cell (j := 1) (i := 3) rfl rfl
  rw [Nat.add_zero] at b0 b1 b2 b3 b4
  by_cases hfr : FrameR p d
  case neg =>
    rw [B_false hfr]
    have HFR := hide hfr
    have HT := hide T1.below
    clear hfr T1
    go_wp2
    go_ret
    exact ⟨_, rfl, HT.out, by rw [pointsOf_neg fun z => HFR.out z.1]; exact OwnI.nil _ _⟩
  rw [B_true hfr]
  have HFR := hide hfr
  clear hfr
  go_wp2_with fail
  refine (isSwitch_any _ _ p.switches.length _ _ _ _ k _ hsl).mono ?_
  clear b0 b1 b2 b3 b4 e0 e1 e2 e3
  rintro e w2 ⟨rfl, hb⟩
  have T2 := T1.call hb
  clear T1 hb
  have b0 := T2.cell (j := 0) (i := 0) rfl rfl
  have b1 := T2.cell (j := 0) (i := 1) rfl rfl
  have b2 := T2.cell (j := 0) (i := 2) rfl rfl
  have b3 := T2.cell (j := 0) (i := 3) rfl rfl
  have b4 := T2.cell (j := 0) (i := 4) rfl rfl
  have e0 := T2.cell (j := 1) (i := 0) rfl rfl
  have e1 := T2.cell (j := 1) (i := 1) rfl rfl
  have e2 := T2.cell (j := 1) (i := 2) rfl rfl
  have e3 := T2.cell (j := 1) (i := 3) rfl rfl
  rw [Nat.add_zero] at b0 b1 b2 b3 b4
  by_cases hin : InR k 0 ((p.switches.length : Int) - 1)
  case neg =>
    rw [B_false hin]
    have HIN := hide hin
    have HT := hide T2.below
    clear hin T2
    go_wp2
    go_ret
    exact ⟨_, rfl, HT.out, by rw [pointsOf_neg fun z => HIN.out z.2]; exact OwnI.nil _ _⟩
  rw [B_true hin]
  have HIN := hide hin
  obtain ⟨q, rfl⟩ : ∃ q : Nat, k = q := ⟨k.toNat, by have := hin.1; omega⟩
  have hq : q < p.switches.length := by have := hin.2; omega
  clear hin
  go_wp2_with fail
  refine (pointLock_any _ _ _ _ _ _ p d q _ (KP.out _ T2.below) (KC.out _ T2.below) (KF.out _ T2.below) HS.out HD.out HFR.out hq).mono ?_
  clear b0 b1 b2 b3 b4 e0 e1 e2 e3
  rintro e w3 ⟨v, rfl, hb, hown⟩
  have HT := hide (T2.call hb).below
  have HO := hide hown
  have hsz := T2.below.size
  clear T2 hb hown
  go_wp2
  go_ret
  exact ⟨v, rfl, HT.out, by rw [pointsOf_pos HFR.out HIN.out]; exact OwnI.low HO.out (by omega)⟩
end Go.Proofs.YtdhinkgjiapigabGreatDoor

namespace Go.Proofs.YtdhinkgjiapigabGreatDoor
open Go.RowKit
open Classical

theorem implPointLock_any (p1 p2 p3 f1 f2 f3 : Value) (p : PlanD) (d : FrameD) (k : Int) (w : World) (hp : PlanAt (In w) w p1 p2 p3 p) (hc : WaysC (In w) w p2 p.ways) (hf : FrameAt (In w) w f1 f2 f3 d) (hs : p.Small 1048576) (hd : d.Small 1048576) (hg : w.cell? ⟨1, 0, none⟩ = some errT) :
    Calls Tryz.prog 43 #[.agg #[.int .i64 p.sections, p1, p2, p3, .int .i64 p.hold], .agg #[.bool d.ok, f1, f2, f3], .int .i64 k] w fun e w' => ∃ v, e = .returned v ∧ Below w.heap.size w w' ∧ OwnI w.heap.size w' v (pointsOf p d k) :=
  implPointLock_walk _ _ _ _ _ _ p d k w hp hc hf hs hd fun W h => implFrameOk_any _ _ _ _ _ _ p d W (hp.keep (In.keep h).1 (In.keep h).2) (hf.keep (In.keep h).1 (In.keep h).2) hs hd (ck hg h)
end Go.Proofs.YtdhinkgjiapigabGreatDoor

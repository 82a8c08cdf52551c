import Derived.Test.YtdhinkgjiapigabGreatDoorPlM
import Derived.Test.YtdhinkgjiapigabGreatDoorLocksA
namespace Go.Proofs.YtdhinkgjiapigabGreatDoor
open Go.RowKit Go.Deep
open Classical

theorem find_none_take {q : Nat → Bool} {n k : Nat} (h : (List.range k).find? q = none) (hk : n ≤ k) : (List.range n).find? q = none := by
  rw [List.find?_eq_none] at h ⊢
  intro x hx
  exact h x (by rw [List.mem_range] at hx ⊢; omega)
theorem find_snoc_no {q : Nat → Bool} {k : Nat} (h : (List.range k).find? q = none) (hq : q k = false) : (List.range (k + 1)).find? q = none := by
  rw [List.range_succ, List.find?_append, h]; simp [hq]
theorem find_at {q : Nat → Bool} {k n : Nat} (h : (List.range k).find? q = none) (hq : q k = true) (hk : k < n) : (List.range n).find? q = some k := by
  have h1 : (List.range (k + 1)).find? q = some k := by rw [List.range_succ, List.find?_append, h]; simp [hq]
  have h2 : List.range n = List.range (k + 1) ++ (List.range (n - (k + 1))).map (k + 1 + ·) := by rw [← List.range_add]; congr 1; omega
  rw [h2, List.find?_append, h1]; rfl

set_option maxRecDepth 100000 in
set_option maxHeartbeats 4000000 in
theorem specLockedBy_any (p1 p2 p3 f1 f2 f3 : Value) (p : PlanD) (d : FrameD) (s : Int) (w : World) (hp : PlanAt (In w) w p1 p2 p3 p) (hf : FrameAt (In w) w f1 f2 f3 d) (hs : p.Small 1048576) (hd : d.Small 1048576) :
    Calls Tryz.prog 40 #[.agg #[.int .i64 p.sections, p1, p2, p3, .int .i64 p.hold], .agg #[.bool d.ok, f1, f2, f3], .int .i64 s] w fun e w' => e = .returned (.int .i64 (lockedBy p d s)) ∧ Below w.heap.size w w' := by
  have T0 := boxes2 w 37 42 #[.int .i64 p.sections, p1, p2, p3, .int .i64 p.hold] #[.bool d.ok, f1, f2, f3]
  have KP := hide fun (W : World) (h : Below w.heap.size w W) => hp.keep (Q := In W) (In.keep h).1 (In.keep h).2
  have KF := hide fun (W : World) (h : Below w.heap.size w W) => hf.keep (Q := In W) (In.keep h).1 (In.keep h).2
  obtain ⟨a1, c1, rfl⟩ := hp.1.size
  obtain ⟨a2, c2, rfl⟩ := hp.2.1.size
  obtain ⟨a3, c3, rfl⟩ := hp.2.2.size
  obtain ⟨o1, m1, rfl⟩ := hf.1.size
  obtain ⟨o2, m2, rfl⟩ := hf.2.1.size
  obtain ⟨o3, m3, rfl⟩ := hf.2.2.size
  have HS := hide hs
  have HD := hide hd
  have hwl : p.ways.length ≤ 1048576 := hs.2.1
  clear hs hd hp hf
  go_enter Tryz.func40, Tryz.ntmps40
  have b0 := T0.cell (j := 0) (i := 0) rfl rfl
  have b1 := T0.cell (j := 0) (i := 1) rfl rfl
  have b2 := T0.cell (j := 0) (i := 2) rfl rfl
  have b3 := T0.cell (j := 0) (i := 3) rfl rfl
  have b4 := T0.cell (j := 0) (i := 4) rfl rfl
  have e0 := T0.cell (j := 1) (i := 0) rfl rfl
  have e1 := T0.cell (j := 1) (i := 1) rfl rfl
  have e2 := T0.cell (j := 1) (i := 2) rfl rfl
  have e3 := T0.cell (j := 1) (i := 3) rfl rfl
  rw [Nat.add_zero] at b0 b1 b2 b3 b4
  go_wp2_with fail
  refine (specFrameOk_any _ _ _ _ _ _ p d _ (KP.out _ T0.below) (KF.out _ T0.below) HS.out HD.out).mono ?_
  clear b0 b1 b2 b3 b4 e0 e1 e2 e3
  rintro e w1 ⟨rfl, hb⟩
  have T1 := T0.call hb
  clear T0 hb
  have b0 := T1.cell (j := 0) (i := 0) rfl rfl
  have b1 := T1.cell (j := 0) (i := 1) rfl rfl
  have b2 := T1.cell (j := 0) (i := 2) rfl rfl
  have b3 := T1.cell (j := 0) (i := 3) rfl rfl
  have b4 := T1.cell (j := 0) (i := 4) rfl rfl
  have e0 := T1.cell (j := 1) (i := 0) rfl rfl
  have e1 := T1.cell (j := 1) (i := 1) rfl rfl
  have e2 := T1.cell (j := 1) (i := 2) rfl rfl
  have e3 := T1.cell (j := 1) (i := 3) rfl rfl
  rw [Nat.add_zero] at b0 b1 b2 b3 b4
  by_cases hfr : FrameR p d
  case neg =>
    rw [B_false hfr]
    have HFR := hide hfr
    clear hfr
    go_wp2
    go_ret
    exact ⟨ret_int (lockedBy_neg fun z => HFR.out z.1).symm, T1.below⟩
  rw [B_true hfr]
  have HFR := hide hfr
  clear hfr
  go_wp2_with fail
  refine (l1in_any _ _ _ _).mono ?_
  rintro e w2 ⟨rfl, rfl⟩
  rw [show wrap64 (p.sections - 1) = p.sections - 1 by have h1 := HFR.out.1.parts.1.1.1; have h2 := HFR.out.1.parts.1.1.2; unfold wrap64; omega]
  by_cases hin : InR s 0 (p.sections - 1)
  case neg =>
    rw [B_false hin]
    have HIN := hide hin
    clear hin
    go_wp2
    go_ret
    exact ⟨ret_int (lockedBy_neg fun z => HIN.out z.2).symm, T1.below⟩
  rw [B_true hin]
  have HIN := hide hin
  clear hin
  go_wp2
  go_loopw [23] (fun z wr => ∃ (i : Nat), i ≤ p.ways.length ∧ z = .int .i64 i ∧ (List.range i).find? (holdsI p d s) = none ∧ Boxes w [(37, #[.int .i64 p.sections, .slice a1 p.switches.length c1, .slice a2 p.ways.length c2, .slice a3 p.bars.length c3, .int .i64 p.hold]), (42, #[.bool d.ok, .slice o1 d.occ.length m1, .slice o2 d.points.length m2, .slice o3 d.ways.length m3])] wr) (fun z _ => p.ways.length - (intOf z).toNat)
  case atStart => exact ⟨0, Nat.zero_le _, rfl, by simp, T1⟩
  case round =>
    clear b0 b1 b2 b3 b4 e0 e1 e2 e3 T1
    obtain ⟨i, hi, rfl, hno, T2⟩ := hrel
    have HNO := hide hno
    clear hno
    by_cases hlt : i < p.ways.length
    · obtain ⟨x, hx⟩ := get_some p.ways (hide rfl) hlt
      obtain ⟨h, hh⟩ := get_some d.ways (hide HFR.out.2.2.2.2.1) hlt
      have HX := hide hx
      have HH := hide hh
      clear hx hh
      have hlt' : (i : Int) < (p.ways.length : Int) := by omega
      have b0 := T2.cell (j := 0) (i := 0) rfl rfl
      have b1 := T2.cell (j := 0) (i := 1) rfl rfl
      have b2 := T2.cell (j := 0) (i := 2) rfl rfl
      have b3 := T2.cell (j := 0) (i := 3) rfl rfl
      have b4 := T2.cell (j := 0) (i := 4) rfl rfl
      have e0 := T2.cell (j := 1) (i := 0) rfl rfl
      have e1 := T2.cell (j := 1) (i := 1) rfl rfl
      have e2 := T2.cell (j := 1) (i := 2) rfl rfl
      have e3 := T2.cell (j := 1) (i := 3) rfl rfl
      rw [Nat.add_zero] at b0 b1 b2 b3 b4
      cases hq : holdsB x h s
      · have HQ := hide hq
        clear hq
        go_wp2_with fail
        refine (l3holds_any _ _ _ _ _ _ _ _ _ p.ways d.ways i x h s _ (KP.out _ T2.below).2.1 (KF.out _ T2.below).2.2 HX.out HH.out hwl HD.out.2.2.1 (HS.out.2.2.1 x (List.mem_of_getElem? HX.out)).1 (frame_gone HFR.out HX.out HH.out).1).mono ?_
        rw [HQ.out]
        clear b0 b1 b2 b3 b4 e0 e1 e2 e3
        rintro e w3 ⟨rfl, hb⟩
        have T3 := T2.call hb
        clear T2 hb
        go_wp2
        go_roundw
        case rel => exact ⟨i + 1, by omega, by go_num, find_snoc_no HNO.out (by rw [holdsI_get HX.out HH.out]; exact HQ.out), T3⟩
        case measure => simp [intOf]; omega
      · have HQ := hide hq
        clear hq
        go_wp2_with fail
        refine (l3holds_any _ _ _ _ _ _ _ _ _ p.ways d.ways i x h s _ (KP.out _ T2.below).2.1 (KF.out _ T2.below).2.2 HX.out HH.out hwl HD.out.2.2.1 (HS.out.2.2.1 x (List.mem_of_getElem? HX.out)).1 (frame_gone HFR.out HX.out HH.out).1).mono ?_
        rw [HQ.out]
        clear b0 b1 b2 b3 b4 e0 e1 e2 e3
        rintro e w3 ⟨rfl, hb⟩
        have T3 := T2.call hb
        clear T2 hb
        go_wp2
        go_ret
        exact ⟨ret_int (by rw [lockedBy_pos HFR.out HIN.out, lockD, find_at HNO.out (by rw [holdsI_get HX.out HH.out]; exact HQ.out) hlt]), T3.below⟩
    · go_wp2
      go_ret
      obtain rfl : i = p.ways.length := by omega
      exact ⟨ret_int (by rw [lockedBy_pos HFR.out HIN.out, lockD, HNO.out]), T2.below⟩
end Go.Proofs.YtdhinkgjiapigabGreatDoor

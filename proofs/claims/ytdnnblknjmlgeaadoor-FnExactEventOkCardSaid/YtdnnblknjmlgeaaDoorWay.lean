import Derived.Test.YtdnnblknjmlgeaaDoorSw1
namespace Go.Proofs.YtdnnblknjmlgeaaDoor
open Go.RowKit Go.Deep
open Classical

theorem ck {W W' : World} {b o : Nat} {v : Value} (h : W.cell? ⟨b, o, none⟩ = some v) (hb : Below W.heap.size W W') : W'.cell? ⟨b, o, none⟩ = some v :=
  (hb.cell (p := ⟨b, o, none⟩) (World.block_lt_of_cell? _ _ h)).trans h

theorem listOk_range {n : Int} {l : List Int} (h : ListOk n l) (h60 : n ≤ 60) : ∀ x ∈ l, 0 ≤ x ∧ x < 64 := by
  intro x hx
  obtain ⟨i, hi⟩ := List.getElem?_of_mem hx
  have := (h.1 i (List.getElem?_eq_some_iff.1 hi).1 x hi).1
  exact ⟨this.1, by have := this.2; omega⟩

set_option maxHeartbeats 2000000 in
theorem wayOk_any (n : Int) (hd v1 v2 v3 u0 u1 u2 u3 u4 : Value) (sw : List Int) (d : WayD) (w : World) (hsw : Ints (In w) w v1 sw) (hw : WayAt (In w) w u0 u1 u2 u3 u4 d)
    (h60 : n ≤ 60) (hm : sw.length ≤ 40) (hs : d.Small 1048576) (hrange : ∀ s ∈ sw, 0 ≤ s ∧ s < 64) :
    Calls Tryd.prog 80 #[.agg #[.int .i64 n, v1, v2, v3, hd], .agg #[u0, u1, u2, u3, u4]] w fun e w' => e = .returned (.bool (B (WayOk n sw d))) ∧ Below w.heap.size w w' := by
  have T0 := Bx2.start w 33 59 (.int .i64 n) v1 v2 v3 hd u0 u1 u2 u3 u4
  have hk : ∀ W, Bx2 w 33 59 (five (.int .i64 n) v1 v2 v3 hd) (five u0 u1 u2 u3 u4) W → WayAt (In W) W u0 u1 u2 u3 u4 d ∧ Ints (In W) W v1 sw := fun W h => ⟨hw.keep (In.keep h.below).1 (In.keep h.below).2, hsw.keep (In.keep h.below).1 (In.keep h.below).2⟩
  have HK := hide hk
  obtain ⟨a0, c0, rfl, -⟩ := hw.1
  have HS := hide hs
  have HR := hide hrange
  clear hk hsw hw hs hrange
  go_enter Tryd.func80, Tryd.ntmps80
  go_wp2_with fail
  refine (setOf_any n v1 v2 v3 hd _ d.sections _ (HK.out _ T0).1.1 HS.out.1 h60).mono ?_
  rintro e w1 ⟨A, C, rfl, hset, hb1⟩
  have T1 := T0.call hb1
  clear T0 hb1
  have HA := hide hset
  clear hset
  have TT1 := T1.call (below_new _ (.cells #[.int .u32 (A : Int), .int .u32 (C : Int)] 138))
  have on0 : (w1.alloc (.cells #[.int .u32 (A : Int), .int .u32 (C : Int)] 138)).cell? ⟨w1.heap.size, 0, none⟩ = some (.int .u32 (A : Int)) := by simp
  have on1 : (w1.alloc (.cells #[.int .u32 (A : Int), .int .u32 (C : Int)] 138)).cell? ⟨w1.heap.size, 1, none⟩ = some (.int .u32 (C : Int)) := by simp
  obtain ⟨⟨b0, b1, b2, b3, b4⟩, ⟨z0, z1, z2, z3, z4⟩⟩ := TT1.cells
  go_wp2_with fail
  refine (setOf_any n v1 v2 v3 hd _ d.over _ (HK.out _ TT1).1.2.2.2.1 HS.out.2.2.2.1 h60).mono ?_
  clear b0 b1 b2 b3 b4 z0 z1 z2 z3 z4 T1
  rintro e w2 ⟨A2, C2, rfl, hset, hb1⟩
  have T2 := TT1.call hb1
  replace on0 := ck on0 hb1
  replace on1 := ck on1 hb1
  clear TT1 hb1
  have HA2 := hide hset
  clear hset
  have hbn := below_new w2 (.cells #[.int .u32 (A2 : Int), .int .u32 (C2 : Int)] 138)
  have TT2 := T2.call hbn
  replace on0 := ck on0 hbn
  replace on1 := ck on1 hbn
  have ov0 : (w2.alloc (.cells #[.int .u32 (A2 : Int), .int .u32 (C2 : Int)] 138)).cell? ⟨w2.heap.size, 0, none⟩ = some (.int .u32 (A2 : Int)) := by simp
  have ov1 : (w2.alloc (.cells #[.int .u32 (A2 : Int), .int .u32 (C2 : Int)] 138)).cell? ⟨w2.heap.size, 1, none⟩ = some (.int .u32 (C2 : Int)) := by simp
  obtain ⟨⟨b0, b1, b2, b3, b4⟩, ⟨z0, z1, z2, z3, z4⟩⟩ := TT2.cells
  clear hbn
  go_wp2_with fail
  refine (setOf_any n v1 v2 v3 hd _ d.near _ (HK.out _ TT2).1.2.2.2.2 HS.out.2.2.2.2 h60).mono ?_
  clear b0 b1 b2 b3 b4 z0 z1 z2 z3 z4 T2
  rintro e w3 ⟨A3, C3, rfl, -, hb1⟩
  have T3 := TT2.call hb1
  replace on0 := ck on0 hb1
  replace on1 := ck on1 hb1
  replace ov0 := ck ov0 hb1
  replace ov1 := ck ov1 hb1
  clear TT2 hb1
  have hbn := below_new w3 (.cells #[.int .u32 (A3 : Int), .int .u32 (C3 : Int)] 138)
  have TT3 := T3.call hbn
  replace on0 := ck on0 hbn
  replace on1 := ck on1 hbn
  replace ov0 := ck ov0 hbn
  replace ov1 := ck ov1 hbn
  obtain ⟨⟨b0, b1, b2, b3, b4⟩, ⟨z0, z1, z2, z3, z4⟩⟩ := TT3.cells
  clear hbn T3
  by_cases q0 : ListOk n d.sections
  case neg =>
    rw [B_false q0]
    have Q := hide q0
    clear q0
    go_wp2
    go_ret
    exact ⟨ret_bool (B_false fun h => Q.out h.2.1).symm, TT3.below⟩
  rw [B_true q0]
  by_cases q1 : ListOk n d.over
  case neg =>
    rw [B_false q1]
    have Q := hide q1
    clear q1
    go_wp2
    go_ret
    exact ⟨ret_bool (B_false fun h => Q.out h.2.2.1).symm, TT3.below⟩
  rw [B_true q1]
  by_cases q2 : ListOk n d.near
  case neg =>
    rw [B_false q2]
    have Q := hide q2
    clear q2
    go_wp2
    go_ret
    exact ⟨ret_bool (B_false fun h => Q.out h.2.2.2.1).symm, TT3.below⟩
  rw [B_true q2]
  have Q0 := hide q0
  have Q1 := hide q1
  have Q2 := hide q2
  clear q0 q1 q2
  by_cases hz : 0 < d.sections.length
  case neg =>
    have Hz := hide hz
    go_wp2
    go_ret
    exact ⟨ret_bool (B_false fun h => h.1 (List.length_eq_zero_iff.1 (by have := Hz.out; omega))).symm, TT3.below⟩
  go_wp2_with fail
  refine (meets_any A C A2 C2 d.sections d.over _ (HA.out Q0.out) (HA2.out Q1.out) (listOk_range Q0.out h60)).mono ?_
  clear b0 b1 b2 b3 b4 z0 z1 z2 z3 z4
  rintro e w4 ⟨rfl, hb1⟩
  have T4 := TT3.call hb1
  replace on0 := ck on0 hb1
  replace on1 := ck on1 hb1
  clear TT3 hb1 ov0 ov1
  obtain ⟨⟨b0, b1, b2, b3, b4⟩, ⟨z0, z1, z2, z3, z4⟩⟩ := T4.cells
  by_cases hmt : Meet d.sections d.over
  case pos =>
    rw [B_true hmt]
    have HM := hide hmt
    clear hmt
    go_wp2
    go_ret
    exact ⟨ret_bool (B_false fun h => h.2.2.2.2.2.2.2 HM.out.symm).symm, T4.below⟩
  rw [B_false hmt]
  have HM := hide hmt
  clear hmt
  go_wp2_with fail
  refine (switchesOk_any (.int .i64 n) hd v2 v3 v1 _ _ _ _ _ sw d A C _ (HK.out _ T4).2 (HK.out _ T4).1 hm HS.out (HA.out Q0.out) HR.out).mono ?_
  clear b0 b1 b2 b3 b4 z0 z1 z2 z3 z4 on0 on1
  rintro e w5 ⟨rfl, hb1⟩
  have T5 := T4.call hb1
  clear T4 hb1
  go_wp2
  go_ret
  refine ⟨ret_bool ?_, T5.below⟩
  refine B_congr ⟨fun h => ⟨fun e => by rw [e] at hz; exact absurd hz (by simp), Q0.out, Q1.out, Q2.out, h.1, h.2.1, h.2.2, fun h => HM.out h.symm⟩, fun h => ⟨h.2.2.2.2.1, h.2.2.2.2.2.1, h.2.2.2.2.2.2.1⟩⟩
end Go.Proofs.YtdnnblknjmlgeaaDoor

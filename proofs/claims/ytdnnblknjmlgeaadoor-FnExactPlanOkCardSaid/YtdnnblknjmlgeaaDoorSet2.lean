import Derived.Test.YtdnnblknjmlgeaaDoorSet1
namespace Go.Proofs.YtdnnblknjmlgeaaDoor
open Go.RowKit Go.Deep
open Classical

set_option maxHeartbeats 400000 in
theorem isSection_any (n x : Int) (v1 v2 v3 hd : Value) (w : World) :
    Calls Tryd.prog 72 #[.agg #[.int .i64 n, v1, v2, v3, hd], .int .i64 x] w fun e w' => e = .returned (.bool (B (InR x 0 (n - 1)))) ∧ Below w.heap.size w w' := by
  by_cases h1 : 0 ≤ x
  · by_cases h2 : x < n
    · rw [B_true (show InR x 0 (n - 1) from ⟨h1, by omega⟩)]
      go_enter Tryd.func72, Tryd.ntmps72
      go_wp2
      go_ret
      exact ⟨by simp, below_new _ _⟩
    · rw [B_false (show ¬ InR x 0 (n - 1) from fun h => h2 (by have := h.2; omega))]
      go_enter Tryd.func72, Tryd.ntmps72
      go_wp2
      go_ret
      exact ⟨by simp, below_new _ _⟩
  · rw [B_false (show ¬ InR x 0 (n - 1) from fun h => h1 h.1)]
    go_enter Tryd.func72, Tryd.ntmps72
    go_wp2
    go_ret
    exact ⟨by simp, below_new _ _⟩

theorem below_new2 (w : World) (o o' : Obj) : Below w.heap.size w ((w.alloc o).alloc o') := (((Below.refl _ _).alloc (Nat.le_refl _) _).alloc (by simp) _)

set_option maxHeartbeats 400000 in
theorem isSwitch_any (s : Value) (a1 : Option Addr) (m c1 : Nat) (v2 v3 hd : Value) (x : Int) (w : World) (_hm : m ≤ 1048576) :
    Calls Tryd.prog 73 #[.agg #[s, .slice a1 m c1, v2, v3, hd], .int .i64 x] w fun e w' => e = .returned (.bool (B (InR x 0 ((m : Int) - 1)))) ∧ Below w.heap.size w w' := by
  by_cases h1 : 0 ≤ x
  · by_cases h2 : x < (m : Int)
    · rw [B_true (show InR x 0 ((m : Int) - 1) from ⟨h1, by omega⟩)]
      go_enter Tryd.func73, Tryd.ntmps73
      go_wp2
      go_ret
      exact ⟨by simp, below_new _ _⟩
    · rw [B_false (show ¬ InR x 0 ((m : Int) - 1) from fun h => h2 (by have := h.2; omega))]
      go_enter Tryd.func73, Tryd.ntmps73
      go_wp2
      go_ret
      exact ⟨by simp, below_new _ _⟩
  · rw [B_false (show ¬ InR x 0 ((m : Int) - 1) from fun h => h1 h.1)]
    go_enter Tryd.func73, Tryd.ntmps73
    go_wp2
    go_ret
    exact ⟨by simp, below_new _ _⟩

set_option maxHeartbeats 400000 in
theorem isWay_any (s : Value) (a1 : Option Addr) (m c1 : Nat) (v2 v3 hd : Value) (x : Int) (w : World) (_hm : m ≤ 1048576) :
    Calls Tryd.prog 71 #[.agg #[s, v2, .slice a1 m c1, v3, hd], .int .i64 x] w fun e w' => e = .returned (.bool (B (InR x 0 ((m : Int) - 1)))) ∧ Below w.heap.size w w' := by
  by_cases h1 : 0 ≤ x
  · by_cases h2 : x < (m : Int)
    · rw [B_true (show InR x 0 ((m : Int) - 1) from ⟨h1, by omega⟩)]
      go_enter Tryd.func71, Tryd.ntmps71
      go_wp2
      go_ret
      exact ⟨by simp, below_new _ _⟩
    · rw [B_false (show ¬ InR x 0 ((m : Int) - 1) from fun h => h2 (by have := h.2; omega))]
      go_enter Tryd.func71, Tryd.ntmps71
      go_wp2
      go_ret
      exact ⟨by simp, below_new _ _⟩
  · rw [B_false (show ¬ InR x 0 ((m : Int) - 1) from fun h => h1 h.1)]
    go_enter Tryd.func71, Tryd.ntmps71
    go_wp2
    go_ret
    exact ⟨by simp, below_new _ _⟩

set_option maxHeartbeats 1000000 in
theorem lieOk_any (s : Value) (a1 : Option Addr) (m c1 : Nat) (v2 v3 hd : Value) (x y : Int) (w : World) (hm : m ≤ 1048576) :
    Calls Tryd.prog 74 #[.agg #[s, .slice a1 m c1, v2, v3, hd], .agg #[.int .i64 x, .int .i64 y]] w fun e w' => e = .returned (.bool (B (InR x 0 ((m : Int) - 1) ∧ InR y 1 2))) ∧ Below w.heap.size w w' := by
  have hn := below_new2 w (.cells #[s, .slice a1 m c1, v2, v3, hd] 33) (.cells #[.int .i64 x, .int .i64 y] 95)
  have R := rowIs_new (w.alloc (.cells #[s, .slice a1 m c1, v2, v3, hd] 33)) 95 #[.int .i64 x, .int .i64 y]
  rw [show (w.alloc (.cells #[s, .slice a1 m c1, v2, v3, hd] 33)).heap.size = w.heap.size + 1 by simp] at R
  go_enter Tryd.func74, Tryd.ntmps74
  go_wp2_with fail
  refine (isSwitch_any s a1 m c1 v2 v3 hd x _ hm).mono ?_
  rintro e w1 ⟨rfl, hb⟩
  have R1 := rowIs_keep R hb
  have B1 : Below w.heap.size w w1 := hn.trans (hb.mono hn.size)
  have c1 : w1.cell? ⟨w.heap.size + 1, 1, none⟩ = some (.int .i64 y) := by simpa using R1.cell (i := 1) (by simp)
  clear hn R hb R1
  by_cases q : InR x 0 ((m : Int) - 1)
  case neg =>
    rw [B_false q]
    have Q := hide q
    clear q
    go_wp2
    go_ret
    exact ⟨ret_bool (B_false fun h => Q.out h.1).symm, B1⟩
  rw [B_true q]
  have Q := hide q
  clear q
  by_cases h3 : y = 1
  · subst h3
    go_wp2
    go_ret
    exact ⟨ret_bool (B_true ⟨Q.out, by omega, by omega⟩).symm, B1⟩
  have h3' : (y == 1) = false := by simpa using h3
  by_cases h4 : y = 2
  · subst h4
    clear h3 h3'
    go_wp2
    go_ret
    exact ⟨ret_bool (B_true ⟨Q.out, by omega, by omega⟩).symm, B1⟩
  have h4' : (y == 2) = false := by simpa using h4
  have H3 := hide h3
  have H4 := hide h4
  clear h3 h4
  go_wp2
  go_ret
  exact ⟨ret_bool (B_false fun h => by have a := h.2.1; have b := h.2.2; have := H3.out; have := H4.out; omega).symm, B1⟩

set_option maxHeartbeats 1000000 in
theorem meets_any (A C A' C' : Nat) (l r : List Int) (w : World) (h : SetIs A C l) (k : SetIs A' C' r) (hl : ∀ x ∈ l, 0 ≤ x ∧ x < 64) :
    Calls Tryd.prog 82 #[setV A C, setV A' C'] w fun e w' => e = .returned (.bool (B (Meet l r))) ∧ Below w.heap.size w w' := by
  have i0 : ∀ w, (Instr.index 138 (setV A C) (.int .i64 0)).run Tryd.prog w = .ok (.int .u32 (A : Int)) w := fun _ => by kernel_rfl
  have i1 : ∀ w, (Instr.index 138 (setV A C) (.int .i64 1)).run Tryd.prog w = .ok (.int .u32 (C : Int)) w := fun _ => by kernel_rfl
  have hb : B (Meet l r) = B (A &&& A' ≠ 0 ∨ C &&& C' ≠ 0) := B_congr (meets_iff h k hl).symm
  rw [hb]
  have e0 := and_u32 A A' h.a k.a
  have e1 := and_u32 C C' h.c k.c
  clear hb hl h k
  have HB : ∀ o o', Below w.heap.size w ((w.alloc o).alloc o') := below_new2 w
  by_cases z0 : A &&& A' = 0
  · by_cases z1 : C &&& C' = 0
    · rw [B_false (show ¬ (A &&& A' ≠ 0 ∨ C &&& C' ≠ 0) from fun h => h.elim (fun h => h z0) (fun h => h z1))]
      have t0 : (bits .and .u32 (A : Int) (A' : Int) != 0) = false := by rw [e0, z0]; rfl
      have t1 : (bits .and .u32 (C : Int) (C' : Int) != 0) = false := by rw [e1, z1]; rfl
      clear e0 e1 z0 z1
      go_enter Tryd.func82, Tryd.ntmps82
      go_wp2
      refine wp_loop_rounds 3 ?_
      rw [rounds_succ]
      go_wp2
      rw [rounds_succ]
      go_wp2
      rw [rounds_succ]
      go_wp2
      go_ret
      exact ⟨rfl, HB _ _⟩
    · rw [B_true (show (A &&& A' ≠ 0 ∨ C &&& C' ≠ 0) from .inr z1)]
      have t0 : (bits .and .u32 (A : Int) (A' : Int) != 0) = false := by rw [e0, z0]; rfl
      have t1 : (bits .and .u32 (C : Int) (C' : Int) != 0) = true := by rw [e1]; simp; omega
      clear e0 e1 z0 z1
      go_enter Tryd.func82, Tryd.ntmps82
      go_wp2
      refine wp_loop_rounds 2 ?_
      rw [rounds_succ]
      go_wp2
      rw [rounds_succ]
      go_wp2
      go_ret
      exact ⟨rfl, HB _ _⟩
  · rw [B_true (show (A &&& A' ≠ 0 ∨ C &&& C' ≠ 0) from .inl z0)]
    have t0 : (bits .and .u32 (A : Int) (A' : Int) != 0) = true := by rw [e0]; simp; omega
    clear e0 e1 z0
    go_enter Tryd.func82, Tryd.ntmps82
    go_wp2
    refine wp_loop_rounds 1 ?_
    rw [rounds_succ]
    go_wp2
    go_ret
    exact ⟨rfl, HB _ _⟩
end Go.Proofs.YtdnnblknjmlgeaaDoor

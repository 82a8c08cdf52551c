import Derived.Test.YtgeegigmaalkaaaDoorSet1
namespace Go.Proofs.YtgeegigmaalkaaaDoor
open Go.RowKit Go.Deep
open Classical

set_option maxHeartbeats 400000 in
theorem isSection_any (n x : Int) (v1 v2 v3 hd : Value) (w : World) :
    Calls Tryd.prog 46 #[.agg #[.int .i64 n, v1, v2, v3, hd], .int .i64 x] w fun e w' => e = .returned (.bool (B (InR x 0 (n - 1)))) ∧ Below w.heap.size w w' := by
  by_cases h1 : 0 ≤ x
  · by_cases h2 : x < n
    · rw [B_true (show InR x 0 (n - 1) from ⟨h1, by omega⟩)]
      go_enter Tryd.func46, Tryd.ntmps46
      go_wp2
      go_ret
      exact ⟨by simp, below_new _ _⟩
    · rw [B_false (show ¬ InR x 0 (n - 1) from fun h => h2 (by have := h.2; omega))]
      go_enter Tryd.func46, Tryd.ntmps46
      go_wp2
      go_ret
      exact ⟨by simp, below_new _ _⟩
  · rw [B_false (show ¬ InR x 0 (n - 1) from fun h => h1 h.1)]
    go_enter Tryd.func46, Tryd.ntmps46
    go_wp2
    go_ret
    exact ⟨by simp, below_new _ _⟩

theorem below_new2 (w : World) (o o' : Obj) : Below w.heap.size w ((w.alloc o).alloc o') := (((Below.refl _ _).alloc (Nat.le_refl _) _).alloc (by simp) _)

set_option maxHeartbeats 400000 in
theorem lieOk_any (s : Value) (a1 : Option Addr) (m c1 : Nat) (v2 v3 hd : Value) (x y : Int) (w : World) (_hm : m ≤ 1048576) :
    Calls Tryd.prog 57 #[.agg #[s, .slice a1 m c1, v2, v3, hd], .agg #[.int .i64 x, .int .i64 y]] w fun e w' => e = .returned (.bool (B (InR x 0 ((m : Int) - 1) ∧ InR y 1 2))) ∧ Below w.heap.size w w' := by
  by_cases h1 : 0 ≤ x
  case neg =>
    rw [B_false (show ¬ (InR x 0 ((m : Int) - 1) ∧ InR y 1 2) from fun h => h1 h.1.1)]
    go_enter Tryd.func57, Tryd.ntmps57
    go_wp2
    go_ret
    exact ⟨by simp, below_new2 _ _ _⟩
  by_cases h2 : x < (m : Int)
  case neg =>
    rw [B_false (show ¬ (InR x 0 ((m : Int) - 1) ∧ InR y 1 2) from fun h => h2 (by have := h.1.2; omega))]
    go_enter Tryd.func57, Tryd.ntmps57
    go_wp2
    go_ret
    exact ⟨by simp, below_new2 _ _ _⟩
  by_cases h3 : y = 1
  · have h3' : (y == 1) = true := by simpa using h3
    rw [B_true (show (InR x 0 ((m : Int) - 1) ∧ InR y 1 2) from ⟨⟨h1, by omega⟩, ⟨by omega, by omega⟩⟩)]
    clear h3
    go_enter Tryd.func57, Tryd.ntmps57
    go_wp2
    go_ret
    exact ⟨by simp, below_new2 _ _ _⟩
  have h3' : (y == 1) = false := by simpa using h3
  by_cases h4 : y = 2
  · have h4' : (y == 2) = true := by simpa using h4
    rw [B_true (show (InR x 0 ((m : Int) - 1) ∧ InR y 1 2) from ⟨⟨h1, by omega⟩, ⟨by omega, by omega⟩⟩)]
    clear h3 h4
    go_enter Tryd.func57, Tryd.ntmps57
    go_wp2
    go_ret
    exact ⟨by simp, below_new2 _ _ _⟩
  · have h4' : (y == 2) = false := by simpa using h4
    rw [B_false (show ¬ (InR x 0 ((m : Int) - 1) ∧ InR y 1 2) from fun h => by have a := h.2.1; have b := h.2.2; omega)]
    clear h3 h4
    go_enter Tryd.func57, Tryd.ntmps57
    go_wp2
    go_ret
    exact ⟨by simp, below_new2 _ _ _⟩

set_option maxHeartbeats 1000000 in
theorem meets_any (A C A' C' : Nat) (l r : List Int) (w : World) (h : SetIs A C l) (k : SetIs A' C' r) (hl : ∀ x ∈ l, 0 ≤ x ∧ x < 64) :
    Calls Tryd.prog 49 #[setV A C, setV A' C'] w fun e w' => e = .returned (.bool (B (Meet l r))) ∧ Below w.heap.size w w' := by
  have i0 : ∀ w, (Instr.index 107 (setV A C) (.int .i64 0)).run Tryd.prog w = .ok (.int .u32 (A : Int)) w := fun _ => by kernel_rfl
  have i1 : ∀ w, (Instr.index 107 (setV A C) (.int .i64 1)).run Tryd.prog w = .ok (.int .u32 (C : Int)) w := fun _ => by kernel_rfl
  have hb : B (Meet l r) = B (A &&& A' ≠ 0 ∨ C &&& C' ≠ 0) := B_congr (meets_iff h k hl).symm
  rw [hb]
  have e0 := and_u32 A A' h.a k.a
  have e1 := and_u32 C C' h.c k.c
  clear hb hl h k
  have HB : ∀ o o', Below w.heap.size w ((w.alloc o).alloc o') := below_new2 w
  by_cases z0 : A &&& A' = 0
  · by_cases z1 : C &&& C' = 0
    · rw [B_false (show ¬ (A &&& A' ≠ 0 ∨ C &&& C' ≠ 0) from fun h => h.elim (fun h => h z0) (fun h => h z1))]
      have t0 : (bits .and .u32 (A : Int) (A' : Int) != 0) = false := by rw [e0, z0]; rfl
      have t1 : (bits .and .u32 (C : Int) (C' : Int) != 0) = false := by rw [e1, z1]; rfl
      clear e0 e1 z0 z1
      go_enter Tryd.func49, Tryd.ntmps49
      go_wp2
      refine wp_loop_rounds 3 ?_
      rw [rounds_succ]
      go_wp2
      rw [rounds_succ]
      go_wp2
      rw [rounds_succ]
      go_wp2
      go_ret
      exact ⟨rfl, HB _ _⟩
    · rw [B_true (show (A &&& A' ≠ 0 ∨ C &&& C' ≠ 0) from .inr z1)]
      have t0 : (bits .and .u32 (A : Int) (A' : Int) != 0) = false := by rw [e0, z0]; rfl
      have t1 : (bits .and .u32 (C : Int) (C' : Int) != 0) = true := by rw [e1]; simp; omega
      clear e0 e1 z0 z1
      go_enter Tryd.func49, Tryd.ntmps49
      go_wp2
      refine wp_loop_rounds 2 ?_
      rw [rounds_succ]
      go_wp2
      rw [rounds_succ]
      go_wp2
      go_ret
      exact ⟨rfl, HB _ _⟩
  · rw [B_true (show (A &&& A' ≠ 0 ∨ C &&& C' ≠ 0) from .inl z0)]
    have t0 : (bits .and .u32 (A : Int) (A' : Int) != 0) = true := by rw [e0]; simp; omega
    clear e0 e1 z0
    go_enter Tryd.func49, Tryd.ntmps49
    go_wp2
    refine wp_loop_rounds 1 ?_
    rw [rounds_succ]
    go_wp2
    go_ret
    exact ⟨rfl, HB _ _⟩
end Go.Proofs.YtgeegigmaalkaaaDoor

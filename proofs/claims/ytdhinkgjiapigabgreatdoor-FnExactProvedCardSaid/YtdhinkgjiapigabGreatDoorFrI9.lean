import Derived.Test.YtdhinkgjiapigabGreatDoorFrI8
namespace Go.Proofs.YtdhinkgjiapigabGreatDoor
open Go.RowKit Go.Deep
open Classical

set_option maxHeartbeats 1000000 in
theorem idleOk_any (p0 p1 p2 p3 p4 u0 u1 u2 u3 u4 : Value) (w : World) : Calls Tryz.prog 292 #[.agg #[], .agg #[p0, p1, p2, p3, p4], .agg #[u0, u1, u2, u3, u4]] w fun e w' => e = .returned (.bool true) ∧ Below w.heap.size w w' := by
  go_enter Tryz.func292, Tryz.ntmps292
  go_wp2
  go_ret
  exact ⟨rfl, ((((Below.refl _ _).alloc (Nat.le_refl _) _).alloc (by simp) _).alloc (by simp; omega) _)⟩

set_option maxHeartbeats 1000000 in
theorem setOk_any (b : Bool) (p0 p1 p2 p3 p4 u0 u1 u2 u3 u4 : Value) (w : World) : Calls Tryz.prog 294 #[.agg #[.bool b], .agg #[p0, p1, p2, p3, p4], .agg #[u0, u1, u2, u3, u4]] w fun e w' => e = .returned (.bool true) ∧ Below w.heap.size w w' := by
  go_enter Tryz.func294, Tryz.ntmps294
  go_wp2
  go_ret
  exact ⟨rfl, ((((Below.refl _ _).alloc (Nat.le_refl _) _).alloc (by simp) _).alloc (by simp; omega) _)⟩

set_option maxHeartbeats 1000000 in
theorem clearOk_any (p0 p1 p2 p3 p4 u0 u1 u2 u3 u4 : Value) (w : World) : Calls Tryz.prog 296 #[.agg #[], .agg #[p0, p1, p2, p3, p4], .agg #[u0, u1, u2, u3, u4]] w fun e w' => e = .returned (.bool true) ∧ Below w.heap.size w w' := by
  go_enter Tryz.func296, Tryz.ntmps296
  go_wp2
  go_ret
  exact ⟨rfl, ((((Below.refl _ _).alloc (Nat.le_refl _) _).alloc (by simp) _).alloc (by simp; omega) _)⟩

set_option maxHeartbeats 1000000 in
theorem takingOk_any (t hold : Int) (p0 p1 p2 p3 u0 u1 u2 u3 u4 : Value) (w : World) : Calls Tryz.prog 305 #[.agg #[.int .i64 t], .agg #[p0, p1, p2, p3, .int .i64 hold], .agg #[u0, u1, u2, u3, u4]] w fun e w' => e = .returned (.bool (B (InR t 1 hold))) ∧ Below w.heap.size w w' := by
  have T0 := boxes3 w 258 37 122 #[.int .i64 t] #[p0, p1, p2, p3, .int .i64 hold] #[u0, u1, u2, u3, u4]
  by_cases h1 : 1 ≤ t
  · by_cases h2 : t ≤ hold
    · rw [B_true (show InR t 1 hold from ⟨h1, h2⟩)]
      go_enter Tryz.func305, Tryz.ntmps305
      go_wp2
      go_ret
      exact ⟨ret_bool (by simp; try omega), T0.below⟩
    · rw [B_false (show ¬ InR t 1 hold from fun h => h2 h.2)]
      go_enter Tryz.func305, Tryz.ntmps305
      go_wp2
      go_ret
      exact ⟨ret_bool (by simp; try omega), T0.below⟩
  · rw [B_false (show ¬ InR t 1 hold from fun h => h1 h.1)]
    go_enter Tryz.func305, Tryz.ntmps305
    go_wp2
    go_ret
    exact ⟨ret_bool (by simp; try omega), T0.below⟩

theorem all_true {l : List Bool} {g : Int} (hg : 0 ≤ g) (hl : g ≤ l.length) : (l.take g.toNat).all id = true ↔ ∀ k : Nat, (k : Int) < g → l[k]? = some true := by
  constructor
  · intro h k hk
    obtain ⟨x, hx⟩ := lt_get' l (i := k) (by omega)
    have hm : x ∈ l.take g.toNat := List.mem_of_getElem? (i := k) (by rw [List.getElem?_take, if_pos (by omega)]; exact hx)
    have := List.all_eq_true.1 h x hm
    rw [hx]
    exact congrArg some this
  · intro h
    rw [List.all_eq_true]
    intro x hx
    obtain ⟨i, hi⟩ := List.getElem?_of_mem hx
    rw [List.getElem?_take] at hi
    by_cases e : i < g.toNat
    · rw [if_pos e, h i (by omega)] at hi
      cases hi
      rfl
    · rw [if_neg e] at hi
      cases hi

set_option maxRecDepth 100000 in
set_option maxHeartbeats 2000000 in
theorem usedOk_any (g : Int) (l : List Bool) (b : Bool) (hold : Int) (p0 p1 p2 p3 p4 u0 u1 u2 u3 u4 : Value) (secs : List Int) (w : World) (hu : Ints (In w) w u0 secs) (hn : secs.length ≤ 30) (hl : l.length = 30) :
    Calls Tryz.prog 298 #[.agg (usedC g l b), .agg #[p0, p1, p2, p3, p4], .agg #[u0, u1, u2, u3, u4]] w fun e w' => e = .returned (.bool (B (stOk hold secs.length (.used g l b)))) ∧ Below w.heap.size w w' := by
  obtain ⟨a0, c0, rfl, -⟩ := hu
  have T0 := boxes3 w 217 37 122 (usedC g l b) #[p0, p1, p2, p3, p4] #[.slice a0 secs.length c0, u1, u2, u3, u4]
  go_enter Tryz.func298, Tryz.ntmps298
  obtain ⟨f, hr, h0, h31, hj⟩ := used_row (T0.row 0 _ _ rfl) hl
  rw [Nat.add_zero] at hr
  have c0' := hr.cell (i := 0) (by omega)
  rw [h0] at c0'
  have HJ := hide hj
  have HR := hide hr
  clear h0 h31 hj hr
  by_cases h1 : 0 ≤ g
  case neg =>
    go_wp2
    go_ret
    exact ⟨ret_bool (B_false fun h => by have := h.1.1; omega).symm, T0.below⟩
  by_cases h2 : g < (secs.length : Int)
  case neg =>
    go_wp2
    go_ret
    exact ⟨ret_bool (B_false fun h => by have := h.1.2; omega).symm, T0.below⟩
  have h30 : g ≤ 30 := by omega
  have hlt : (l.take g.toNat).length = g.toNat := by rw [List.length_take]; omega
  have hb := used_bools (P := In _) (c := 30) HR.out HR.out.lt hl HJ.out (n := g.toNat) (by omega)
  have hcn := containsFalse_any _ (l.take g.toNat) _ hb (by omega)
  rw [hlt] at hcn
  have HCN := hide hcn
  clear hcn hb hlt
  go_wp2_with fail
  refine HCN.out.mono ?_
  rintro e w' ⟨rfl, rfl⟩
  go_wp2
  go_ret
  refine ⟨ret_bool ?_, T0.below⟩
  by_cases h3 : (l.take g.toNat).all id = true
  · rw [h3]
    exact (B_true ⟨⟨h1, by omega⟩, (all_true h1 (by omega)).1 h3⟩).symm
  · rw [Bool.not_eq_true] at h3
    rw [h3]
    exact (B_false fun h => by have := (all_true h1 (by omega)).2 h.2; rw [h3] at this; cases this).symm
end Go.Proofs.YtdhinkgjiapigabGreatDoor

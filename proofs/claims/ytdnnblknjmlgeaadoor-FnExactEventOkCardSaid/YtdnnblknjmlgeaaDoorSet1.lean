import Derived.Test.YtdnnblknjmlgeaaDoorProg
import Derived.Test.YtdnnblknjmlgeaaDoorBits
import Derived.RegionTactic
import Derived.Test.YtdnnblknjmlgeaaDoorBox
namespace Go.Proofs.YtdnnblknjmlgeaaDoor
open Go.RowKit
open Classical

/-- A set as a value. -/
abbrev setV (A C : Nat) : Value := .agg #[.int .u32 (A : Int), .int .u32 (C : Int)]

set_option maxHeartbeats 400000 in
theorem has_any (A C : Nat) (l : List Int) (x : Int) (w : World) (hs : SetIs A C l) (h0 : 0 ≤ x) (h1 : x < 64) :
    Calls Tryd.prog 88 #[setV A C, .int .i64 x] w fun e w' => e = .returned (.bool (B (x ∈ l))) ∧ Below w.heap.size w w' := by
  have ha := hs.a
  have hc := hs.c
  by_cases h : x < 32
  · have hx : x / 32 = 0 := by omega
    have e : B (x ∈ l) = (bits .and .u32 ((A : Int) / 2 ^ (x % 32).toNat) 1 == 1) := by
      rw [has_bit _ _ ha, show x % 32 = x by omega]
      have := hs.lo x.toNat (by omega)
      rw [Int.toNat_of_nonneg h0] at this
      rw [Bool.eq_iff_iff, B_iff, this]
    have HE := hide e
    clear e
    go_enter Tryd.func88, Tryd.ntmps88
    go_wp2
    go_ret
    exact ⟨ret_bool HE.out.symm, below_new _ _⟩
  · have hx : x / 32 = 1 := by omega
    have e : B (x ∈ l) = (bits .and .u32 ((C : Int) / 2 ^ (x % 32).toNat) 1 == 1) := by
      rw [has_bit _ _ hc, show x % 32 = x - 32 by omega]
      have := hs.hi (x - 32).toNat (by omega)
      rw [Int.toNat_of_nonneg (by omega), show x - 32 + 32 = x by omega] at this
      rw [Bool.eq_iff_iff, B_iff, this]
    have HE := hide e
    clear e
    go_enter Tryd.func88, Tryd.ntmps88
    go_wp2
    go_ret
    exact ⟨ret_bool HE.out.symm, below_new _ _⟩

theorem agg_eq {a b c d : Int} (h : a = b) (k : c = d) : (.agg #[.int .u32 a, .int .u32 c] : Value) = .agg #[.int .u32 b, .int .u32 d] := by rw [h, k]

set_option maxHeartbeats 400000 in
theorem with_any (A C : Nat) (l : List Int) (x : Int) (w : World) (hs : SetIs A C l) (h0 : 0 ≤ x) (h1 : x < 64) :
    Calls Tryd.prog 89 #[setV A C, .int .i64 x] w fun e w' => ∃ A' C', e = .returned (setV A' C') ∧ SetIs A' C' (l ++ [x]) ∧ Below w.heap.size w w' := by
  have ha := hs.a
  have hc := hs.c
  by_cases h : x < 32
  · have hx : x / 32 = 0 := by omega
    have e := with_bit A (x % 32).toNat ha (by omega)
    rw [show x % 32 = x by omega] at e
    have hm : x % 32 = x := by omega
    have HE := hide e
    have HM := hide hm
    clear e hm
    go_enter Tryd.func89, Tryd.ntmps89
    go_wp2
    go_region
    go_wp2
    refine bodyPost_ret (v := .agg #[.int .u32 (bits .or .u32 (A : Int) (2 ^ (x % 32).toNat % 4294967296)), .int .u32 (C : Int)]) (by simp [results, Tryd.results89, go_sem]) rfl ⟨A ||| 2 ^ x.toNat, C, ?_, hs.low h0 h, ?_⟩
    · rw [HM.out, HE.out]
    · exact (((Below.refl _ _).alloc (Nat.le_refl _) _).alloc (by simp) _).drew
  · have hx : x / 32 = 1 := by omega
    have e := with_bit C (x % 32).toNat hc (by omega)
    rw [show x % 32 = x - 32 by omega] at e
    have hm : x % 32 = x - 32 := by omega
    have HE := hide e
    have HM := hide hm
    clear e hm
    go_enter Tryd.func89, Tryd.ntmps89
    go_wp2
    go_region
    go_wp2
    refine bodyPost_ret (v := .agg #[.int .u32 (A : Int), .int .u32 (bits .or .u32 (C : Int) (2 ^ (x % 32).toNat % 4294967296))]) (by simp [results, Tryd.results89, go_sem]) rfl ⟨A, C ||| 2 ^ (x - 32).toNat, ?_, hs.high (by omega) h1, ?_⟩
    · rw [HM.out, HE.out]
    · exact (((Below.refl _ _).alloc (Nat.le_refl _) _).alloc (by simp) _).drew
end Go.Proofs.YtdnnblknjmlgeaaDoor

import Derived.Test.YtdnnblknjmlgeaaDoorMath
namespace Go.Proofs.YtdnnblknjmlgeaaDoor
open Go.RowKit

theorem ofInt_nat (A : Nat) : BitVec.ofInt 32 (A : Int) = BitVec.ofNat 32 A := BitVec.ofInt_natCast 32 A
theorem and_u32 (A C : Nat) (hA : A < 4294967296) (hC : C < 4294967296) : bits .and .u32 (A : Int) (C : Int) = ((A &&& C : Nat) : Int) := by
  have h : (BitVec.ofInt 32 (A : Int) &&& BitVec.ofInt 32 (C : Int)).toNat = A &&& C := by
    rw [BitVec.toNat_and, ofInt_nat, ofInt_nat, BitVec.toNat_ofNat, BitVec.toNat_ofNat, Nat.mod_eq_of_lt (by omega), Nat.mod_eq_of_lt (by omega)]
  have hlt : A &&& C < 4294967296 := Nat.and_lt_two_pow (n := 32) A (by omega)
  show IntKind.u32.wrap (((BitVec.ofInt 32 (A : Int) &&& BitVec.ofInt 32 (C : Int)).toNat : Nat) : Int) = _
  rw [h, IntKind.wrap_u32]
  omega
theorem or_u32 (A C : Nat) (hA : A < 4294967296) (hC : C < 4294967296) : bits .or .u32 (A : Int) (C : Int) = ((A ||| C : Nat) : Int) := by
  have h : (BitVec.ofInt 32 (A : Int) ||| BitVec.ofInt 32 (C : Int)).toNat = A ||| C := by
    rw [BitVec.toNat_or, ofInt_nat, ofInt_nat, BitVec.toNat_ofNat, BitVec.toNat_ofNat, Nat.mod_eq_of_lt (by omega), Nat.mod_eq_of_lt (by omega)]
  have hlt : A ||| C < 4294967296 := Nat.or_lt_two_pow (n := 32) (by omega) (by omega)
  show IntKind.u32.wrap (((BitVec.ofInt 32 (A : Int) ||| BitVec.ofInt 32 (C : Int)).toNat : Nat) : Int) = _
  rw [h, IntKind.wrap_u32]
  omega
theorem pow_cast (n : Nat) : ((2 : Int) ^ n) = ((2 ^ n : Nat) : Int) := by simp
theorem has_bit (A n : Nat) (hA : A < 4294967296) : (bits .and .u32 ((A : Int) / 2 ^ n) 1 == 1) = A.testBit n := by
  rw [pow_cast, ← Int.natCast_ediv, show (1 : Int) = ((1 : Nat) : Int) from rfl, and_u32 _ _ (Nat.lt_of_le_of_lt (Nat.div_le_self _ _) hA) (by omega)]
  rw [Nat.testBit, Nat.shiftRight_eq_div_pow, Nat.and_comm]
  generalize A / 2 ^ n = q
  have h : 1 &&& q = q % 2 := by rw [Nat.and_comm]; exact Nat.and_one_is_mod q
  rw [h]
  rcases Nat.mod_two_eq_zero_or_one q with e | e <;> rw [e] <;> rfl
theorem pow_lt {n : Nat} (hn : n < 32) : 2 ^ n < 4294967296 := by
  have h : (2 : Nat) ^ n < 2 ^ 32 := Nat.pow_lt_pow_right (Nat.lt_succ_self 1) hn
  exact h
theorem with_bit (A n : Nat) (hA : A < 4294967296) (hn : n < 32) : bits .or .u32 (A : Int) ((2 : Int) ^ n % 4294967296) = ((A ||| 2 ^ n : Nat) : Int) := by
  have h : 2 ^ n < 4294967296 := pow_lt hn
  rw [pow_cast]
  generalize 2 ^ n = p at h ⊢
  rw [show ((p : Int) % 4294967296) = (p : Int) from by omega, or_u32 _ _ hA h]
theorem or_lt (A n : Nat) (hA : A < 4294967296) (hn : n < 32) : A ||| 2 ^ n < 4294967296 :=
  Nat.or_lt_two_pow (n := 32) (by omega) (pow_lt hn)
theorem or_bit (A n i : Nat) : (A ||| 2 ^ n).testBit i = true ↔ (A.testBit i = true ∨ i = n) := by
  rw [Nat.testBit_or, Nat.testBit_two_pow, Bool.or_eq_true, decide_eq_true_iff]
  exact or_congr Iff.rfl ⟨fun e => e.symm, fun e => e.symm⟩

/-- The words A and C are the set of the numbers of l (each below 64). -/
structure SetIs (A C : Nat) (l : List Int) : Prop where
  a : A < 4294967296
  c : C < 4294967296
  lo : ∀ i, i < 32 → (A.testBit i = true ↔ (i : Int) ∈ l)
  hi : ∀ i, i < 32 → (C.testBit i = true ↔ ((i : Int) + 32) ∈ l)
theorem SetIs.nil : SetIs 0 0 [] := ⟨by omega, by omega, fun i _ => by simp, fun i _ => by simp⟩
theorem SetIs.low {A C : Nat} {l : List Int} (h : SetIs A C l) {x : Int} (h0 : 0 ≤ x) (h1 : x < 32) : SetIs (A ||| 2 ^ x.toNat) C (l ++ [x]) := by
  refine ⟨or_lt _ _ h.a (by omega), h.c, fun i hi => ?_, fun i hi => ?_⟩
  · rw [or_bit, h.lo i hi, List.mem_append, List.mem_singleton]
    exact or_congr Iff.rfl ⟨fun e => by omega, fun e => by omega⟩
  · rw [h.hi i hi, List.mem_append, List.mem_singleton]
    exact ⟨.inl, fun e => e.resolve_right (by omega)⟩
theorem SetIs.high {A C : Nat} {l : List Int} (h : SetIs A C l) {x : Int} (h0 : 32 ≤ x) (h1 : x < 64) : SetIs A (C ||| 2 ^ (x - 32).toNat) (l ++ [x]) := by
  refine ⟨h.a, or_lt _ _ h.c (by omega), fun i hi => ?_, fun i hi => ?_⟩
  · rw [h.lo i hi, List.mem_append, List.mem_singleton]
    exact ⟨.inl, fun e => e.resolve_right (by omega)⟩
  · rw [or_bit, h.hi i hi, List.mem_append, List.mem_singleton]
    exact or_congr Iff.rfl ⟨fun e => by omega, fun e => by omega⟩
theorem bit_of_ne {n : Nat} (h : n ≠ 0) : ∃ i, n.testBit i = true := by
  apply Classical.byContradiction
  intro hn
  exact h (Nat.eq_of_testBit_eq fun i => by
    rw [Nat.zero_testBit]
    cases e : n.testBit i
    · rfl
    · exact absurd ⟨i, e⟩ hn)
theorem and_ne_zero (A C : Nat) (hA : A < 4294967296) : A &&& C ≠ 0 ↔ ∃ i, i < 32 ∧ A.testBit i = true ∧ C.testBit i = true := by
  constructor
  · intro h
    obtain ⟨i, hi⟩ := bit_of_ne h
    rw [Nat.testBit_and, Bool.and_eq_true] at hi
    refine ⟨i, ?_, hi.1, hi.2⟩
    rcases Nat.lt_or_ge i 32 with e | e
    · exact e
    · exact absurd hi.1 (by rw [Nat.testBit_lt_two_pow (Nat.lt_of_lt_of_le hA (Nat.pow_le_pow_right (n := 2) (by omega) e))]; simp)
  · rintro ⟨i, -, h1, h2⟩ e
    have : (A &&& C).testBit i = true := by rw [Nat.testBit_and, h1, h2]; rfl
    rw [e] at this; simp at this
theorem meets_iff {A C A' C' : Nat} {l r : List Int} (h : SetIs A C l) (k : SetIs A' C' r) (hl : ∀ x ∈ l, 0 ≤ x ∧ x < 64) : (A &&& A' ≠ 0 ∨ C &&& C' ≠ 0) ↔ Meet l r := by
  rw [and_ne_zero A A' h.a, and_ne_zero C C' h.c]
  constructor
  · rintro (⟨i, hi, h1, h2⟩ | ⟨i, hi, h1, h2⟩)
    · exact ⟨_, (h.lo i hi).1 h1, (k.lo i hi).1 h2⟩
    · exact ⟨_, (h.hi i hi).1 h1, (k.hi i hi).1 h2⟩
  · rintro ⟨x, h1, h2⟩
    obtain ⟨p, q⟩ := hl x h1
    by_cases e : x < 32
    · refine .inl ⟨x.toNat, by omega, (h.lo _ (by omega)).2 ?_, (k.lo _ (by omega)).2 ?_⟩ <;> rw [Int.toNat_of_nonneg p] <;> assumption
    · refine .inr ⟨(x - 32).toNat, by omega, (h.hi _ (by omega)).2 ?_, (k.hi _ (by omega)).2 ?_⟩ <;> rw [Int.toNat_of_nonneg (by omega), show x - 32 + 32 = x by omega] <;> assumption
end Go.Proofs.YtdnnblknjmlgeaaDoor

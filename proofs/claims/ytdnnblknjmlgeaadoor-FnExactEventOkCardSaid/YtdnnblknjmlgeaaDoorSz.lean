import Derived.Test.YtdnnblknjmlgeaaDoorProg
import Derived.Test.YtdnnblknjmlgeaaDoorData
namespace Go.Proofs.YtdnnblknjmlgeaaDoor
open Go.RowKit

def SzOk (left r : Int) (small : Prop) : Prop := r = -1 ∨ (0 ≤ r ∧ r ≤ left ∧ small)

set_option maxHeartbeats 400000 in
theorem szIntS_any (a : Option Addr) (n cap : Nat) (left : Int) (w : World) (hn : n ≤ 9223372036854775807) (h0 : 0 ≤ left) (h1 : left ≤ 1048576) :
    Calls Tryd.prog 21 #[.slice a n cap, .int .i64 left] w fun e w' => ∃ r, e = .returned (.int .i64 r) ∧ w' = w ∧ SzOk left r (n ≤ 1048576) := by
  go_enter Tryd.func21, Tryd.ntmps21
  go_wp2
  · go_ret
    exact ⟨_, rfl, rfl, .inl rfl⟩
  · go_ret
    exact ⟨_, rfl, rfl, .inr ⟨by omega, by omega, by omega⟩⟩
set_option maxHeartbeats 400000 in
theorem szLieS_any (a : Option Addr) (n cap : Nat) (left : Int) (w : World) (hn : n ≤ 9223372036854775807) (h0 : 0 ≤ left) (h1 : left ≤ 1048576) :
    Calls Tryd.prog 75 #[.slice a n cap, .int .i64 left] w fun e w' => ∃ r, e = .returned (.int .i64 r) ∧ w' = w ∧ SzOk left r (n ≤ 1048576) := by
  go_enter Tryd.func75, Tryd.ntmps75
  go_wp2
  · go_ret
    exact ⟨_, rfl, rfl, .inl rfl⟩
  · go_ret
    exact ⟨_, rfl, rfl, .inr ⟨by omega, by omega, by omega⟩⟩
set_option maxHeartbeats 400000 in
theorem szBoolS_any (a : Option Addr) (n cap : Nat) (left : Int) (w : World) (hn : n ≤ 9223372036854775807) (h0 : 0 ≤ left) (h1 : left ≤ 1048576) :
    Calls Tryd.prog 53 #[.slice a n cap, .int .i64 left] w fun e w' => ∃ r, e = .returned (.int .i64 r) ∧ w' = w ∧ SzOk left r (n ≤ 1048576) := by
  go_enter Tryd.func53, Tryd.ntmps53
  go_wp2
  · go_ret
    exact ⟨_, rfl, rfl, .inl rfl⟩
  · go_ret
    exact ⟨_, rfl, rfl, .inr ⟨by omega, by omega, by omega⟩⟩

set_option maxHeartbeats 400000 in
theorem szWay_any (a0 a1 a2 a3 a4 : Option Addr) (n0 n1 n2 n3 n4 c0 c1 c2 c3 c4 : Nat) (left : Int) (w : World)
    (k0 : n0 ≤ 9223372036854775807) (k1 : n1 ≤ 9223372036854775807) (k2 : n2 ≤ 9223372036854775807) (k3 : n3 ≤ 9223372036854775807) (k4 : n4 ≤ 9223372036854775807) (h0 : 0 ≤ left) (h1 : left ≤ 1048576) :
    Calls Tryd.prog 52 #[.agg #[.slice a0 n0 c0, .slice a1 n1 c1, .slice a2 n2 c2, .slice a3 n3 c3, .slice a4 n4 c4], .int .i64 left] w
      fun e w' => ∃ r, e = .returned (.int .i64 r) ∧ Below w.heap.size w w' ∧ SzOk left r (n0 ≤ 1048576 ∧ n1 ≤ 1048576 ∧ n2 ≤ 1048576 ∧ n3 ≤ 1048576 ∧ n4 ≤ 1048576) := by
  have hb : ∀ o, Below w.heap.size w (w.alloc o) := fun o => (Below.refl _ _).alloc (Nat.le_refl _) _
  go_enter Tryd.func52, Tryd.ntmps52
  go_wp2_with fail
  refine (szIntS_any _ _ _ _ _ k0 h0 h1).mono ?_
  rintro e w' ⟨r0, rfl, rfl, hr0 | ⟨p0, q0, s0⟩⟩
  · subst hr0
    go_wp2
    go_ret
    exact ⟨_, rfl, hb _, .inl rfl⟩
  go_wp2_with fail
  refine (szLieS_any _ _ _ _ _ k1 p0 (by omega)).mono ?_
  rintro e w' ⟨r1, rfl, rfl, hr0 | ⟨p1, q1, s1⟩⟩
  · subst hr0
    go_wp2
    go_ret
    exact ⟨_, rfl, hb _, .inl rfl⟩
  go_wp2_with fail
  refine (szLieS_any _ _ _ _ _ k2 p1 (by omega)).mono ?_
  rintro e w' ⟨r2, rfl, rfl, hr0 | ⟨p2, q2, s2⟩⟩
  · subst hr0
    go_wp2
    go_ret
    exact ⟨_, rfl, hb _, .inl rfl⟩
  go_wp2_with fail
  refine (szIntS_any _ _ _ _ _ k3 p2 (by omega)).mono ?_
  rintro e w' ⟨r3, rfl, rfl, hr0 | ⟨p3, q3, s3⟩⟩
  · subst hr0
    go_wp2
    go_ret
    exact ⟨_, rfl, hb _, .inl rfl⟩
  go_wp2_with fail
  refine (szIntS_any _ _ _ _ _ k4 p3 (by omega)).mono ?_
  rintro e w' ⟨r4, rfl, rfl, hr0 | ⟨p4, q4, s4⟩⟩
  · subst hr0
    go_wp2
    go_ret
    exact ⟨_, rfl, hb _, .inl rfl⟩
  go_wp2
  go_ret
  exact ⟨_, rfl, hb _, .inr ⟨p4, by omega, s0, s1, s2, s3, s4⟩⟩
end Go.Proofs.YtdnnblknjmlgeaaDoor

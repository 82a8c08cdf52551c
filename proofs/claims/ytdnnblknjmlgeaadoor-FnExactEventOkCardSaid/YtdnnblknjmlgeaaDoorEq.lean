import Derived.Test.YtdnnblknjmlgeaaDoorProg
import Derived.Test.YtdnnblknjmlgeaaDoorData
import Derived.Deep.QuietTactic
import Derived.BigQuiet
import Derived.Deep.RegionWith
import Derived.WalkSmall
namespace Go.Proofs.YtdnnblknjmlgeaaDoor
open Go.RowKit

theorem drewN_add (w : World) (m n : Nat) : (w.drewN m).drewN n = w.drewN (m + n) := by
  simp [World.drewN, Nat.add_assoc]

set_option maxHeartbeats 1000000 in
theorem eqIntS_any (u v : Value) (l : List Int) (w : World) (hu : Ints (In w) w u l) (hv : Ints (In w) w v l) (hn : l.length ≤ 1048576) :
    Calls Tryd.prog 32 #[u, v] w fun e w' => e = .returned (.bool true) ∧ ∃ m, w' = w.drewN m := by
  obtain ⟨a, cap, rfl, hc⟩ := hu
  obtain ⟨a2, cap2, rfl, hc2⟩ := hv
  generalize hn' : l.length = n at *
  have Hn : Hid (l.length = n) := hn'
  have HC := hide hc
  have HD := hide hc2
  clear hc hc2 hn'
  go_enter Tryd.func32, Tryd.ntmps32
  go_wp2
  go_loopw [5] (fun i wr => ∃ (k m : Nat), k ≤ n ∧ i = .int .i64 k ∧ wr = w.drewN m) (fun i _ => n - (intOf i).toNat)
  case atStart => exact ⟨0, 0, Nat.zero_le _, rfl, rfl⟩
  case round =>
    obtain ⟨k, m, hk, rfl, rfl⟩ := hrel
    by_cases hlt : k < n
    · obtain h0 | ⟨b, off, rfl, hb0, hc⟩ := HC.out
      · omega
      obtain h0 | ⟨b2, off2, rfl, hb2, hc2⟩ := HD.out
      · omega
      obtain ⟨x, hx⟩ := get_some l Hn hlt
      have g0 := hc k hlt x hx
      have g1 := hc2 k hlt x hx
      have hlt' : (k : Int) < (n : Int) := by omega
      clear hx hc hc2
      go_wp2
      go_quiet (fail)
      go_wp2
      go_roundw
      case rel => exact ⟨k + 1, _, by omega, by go_num, rfl⟩
      case measure => simp [intOf]; omega
    · go_wp2
      go_ret
      exact ⟨rfl, m, rfl⟩

set_option maxHeartbeats 1000000 in
theorem eqBoolS_any (u v : Value) (l : List Bool) (w : World) (hu : Bools (In w) w u l) (hv : Bools (In w) w v l) (hn : l.length ≤ 1048576) :
    Calls Tryd.prog 38 #[u, v] w fun e w' => e = .returned (.bool true) ∧ ∃ m, w' = w.drewN m := by
  obtain ⟨a, cap, rfl, hc⟩ := hu
  obtain ⟨a2, cap2, rfl, hc2⟩ := hv
  generalize hn' : l.length = n at *
  have Hn : Hid (l.length = n) := hn'
  have HC := hide hc
  have HD := hide hc2
  clear hc hc2 hn'
  go_enter Tryd.func38, Tryd.ntmps38
  go_wp2
  go_loopw [5] (fun i wr => ∃ (k m : Nat), k ≤ n ∧ i = .int .i64 k ∧ wr = w.drewN m) (fun i _ => n - (intOf i).toNat)
  case atStart => exact ⟨0, 0, Nat.zero_le _, rfl, rfl⟩
  case round =>
    obtain ⟨k, m, hk, rfl, rfl⟩ := hrel
    by_cases hlt : k < n
    · obtain h0 | ⟨b, off, rfl, hb0, hc⟩ := HC.out
      · omega
      obtain h0 | ⟨b2, off2, rfl, hb2, hc2⟩ := HD.out
      · omega
      obtain ⟨x, hx⟩ := get_some l Hn hlt
      have g0 := hc k hlt x hx
      have g1 := hc2 k hlt x hx
      have hlt' : (k : Int) < (n : Int) := by omega
      clear hx hc hc2
      go_wp2
      go_quiet (fail)
      go_wp2
      go_roundw
      case rel => exact ⟨k + 1, _, by omega, by go_num, rfl⟩
      case measure => simp [intOf]; omega
    · go_wp2
      go_ret
      exact ⟨rfl, m, rfl⟩

set_option maxHeartbeats 1000000 in
theorem eqBoolSS_any (u v : Value) (l : List (List Bool)) (w : World) (hu : Rows2 (In w) w u l) (hv : Rows2 (In w) w v l) (hn : l.length ≤ 1048576) (hl : ∀ x ∈ l, x.length ≤ 1048576) :
    Calls Tryd.prog 34 #[u, v] w fun e w' => e = .returned (.bool true) ∧ ∃ m, w' = w.drewN m := by
  obtain ⟨a, cap, rfl, hc⟩ := hu
  obtain ⟨a2, cap2, rfl, hc2⟩ := hv
  generalize hn' : l.length = n at *
  have Hn : Hid (l.length = n) := hn'
  have HC := hide hc
  have HD := hide hc2
  have HL := hide hl
  clear hc hc2 hn' hl
  go_enter Tryd.func34, Tryd.ntmps34
  go_wp2
  go_loopw [5] (fun i wr => ∃ (k m : Nat), k ≤ n ∧ i = .int .i64 k ∧ wr = w.drewN m) (fun i _ => n - (intOf i).toNat)
  case atStart => exact ⟨0, 0, Nat.zero_le _, rfl, rfl⟩
  case round =>
    obtain ⟨k, m, hk, rfl, hwr⟩ := hrel
    have HW := hide hwr
    by_cases hlt : k < n
    · obtain h0 | ⟨b, off, rfl, hb0, hc⟩ := HC.out
      · omega
      obtain h0 | ⟨b2, off2, rfl, hb2, hc2⟩ := HD.out
      · omega
      obtain ⟨x, hx⟩ := get_some l Hn hlt
      obtain ⟨v0, q0, g0⟩ := hc k hlt x hx
      obtain ⟨v1, q1, g1⟩ := hc2 k hlt x hx
      have hlt' : (k : Int) < (n : Int) := by omega
      have hsx := HL.out x (List.mem_of_getElem? hx)
      have hq : ∀ j, Calls Tryd.prog 38 #[v0, v1] (wr.drewN j) fun e w' => e = .returned (.bool true) ∧ ∃ m, w' = (wr.drewN j).drewN m := fun j => by
        subst hwr
        exact eqBoolS_any v0 v1 x ((w.drewN m).drewN j) (q0.keep (w' := (w.drewN m).drewN j) (fun _ _ _ => rfl) fun _ h => h) (q1.keep (w' := (w.drewN m).drewN j) (fun _ _ _ => rfl) fun _ h => h) hsx
      have g0 : wr.cell? ⟨b, off + k, none⟩ = some v0 := by subst hwr; exact g0
      have g1 : wr.cell? ⟨b2, off2 + k, none⟩ = some v1 := by subst hwr; exact g1
      have HQ := hide hq
      clear hx hc hc2 hq q0 q1 hwr
      go_wp2
      go_quiet ((go_at_call 38; exact Calls.quiet_of (HQ.out _)))
      go_wp2
      go_roundw
      case rel => exact ⟨k + 1, _, by omega, by go_num, by rw [HW.out]; exact drewN_add _ _ _⟩
      case measure => simp [intOf]; omega
    · go_wp2
      go_ret
      exact ⟨rfl, m, rfl⟩

set_option maxHeartbeats 400000 in
theorem eqLie_any (x y : Int) (w : World) :
    Calls Tryd.prog 87 #[.agg #[.int .i64 x, .int .i64 y], .agg #[.int .i64 x, .int .i64 y]] w fun e w' => e = .returned (.bool true) ∧ Below w.heap.size w w' := by
  go_enter Tryd.func87, Tryd.ntmps87
  go_wp2
  go_ret
  exact ⟨rfl, (((Below.refl _ _).alloc (Nat.le_refl _) _).alloc (by simp) _)⟩

set_option maxHeartbeats 1000000 in
theorem eqLieS_any (u v : Value) (l : List (Int × Int)) (w : World) (hu : Lies (In w) w u l) (hv : Lies (In w) w v l) (hn : l.length ≤ 1048576) :
    Calls Tryd.prog 83 #[u, v] w fun e w' => e = .returned (.bool true) ∧ Below w.heap.size w w' := by
  obtain ⟨a, cap, rfl, hc⟩ := hu
  obtain ⟨a2, cap2, rfl, hc2⟩ := hv
  generalize hn' : l.length = n at *
  have Hn : Hid (l.length = n) := hn'
  have HC := hide hc
  have HD := hide hc2
  clear hc hc2 hn'
  go_enter Tryd.func83, Tryd.ntmps83
  go_wp2
  go_loopw [5] (fun i wr => ∃ (k : Nat), k ≤ n ∧ i = .int .i64 k ∧ Below w.heap.size w wr) (fun i _ => n - (intOf i).toNat)
  case atStart => exact ⟨0, Nat.zero_le _, rfl, Below.refl _ _⟩
  case round =>
    obtain ⟨k, hk, rfl, hbl⟩ := hrel
    by_cases hlt : k < n
    · obtain h0 | ⟨b, off, rfl, hb0, hc⟩ := HC.out
      · omega
      obtain h0 | ⟨b2, off2, rfl, hb2, hc2⟩ := HD.out
      · omega
      obtain ⟨x, hx⟩ := get_some l Hn hlt
      obtain ⟨g0, g1⟩ := hc k hlt x hx
      obtain ⟨g2, g3⟩ := hc2 k hlt x hx
      rw [← hbl.cell (p := ⟨b, _, none⟩) hb0] at g0 g1
      rw [← hbl.cell (p := ⟨b2, _, none⟩) hb2] at g2 g3
      have hlt' : (k : Int) < (n : Int) := by omega
      have hs := hbl.size
      have HB := hide hbl
      clear hx hc hc2 hbl
      go_wp2
      go_region_with (go_at_call 87; refine (eqLie_any _ _ _).mono ?_; rintro e w1 ⟨rfl, hb1⟩)
      all_goals
        go_wp2
        go_roundw
        case rel => exact ⟨k + 1, by omega, by go_num, (below_drewN HB.out _).trans (hb1.mono hs)⟩
        case measure => simp [intOf]; omega
    · go_wp2
      go_ret
      exact ⟨rfl, hbl⟩
end Go.Proofs.YtdnnblknjmlgeaaDoor

import Derived.Test.YtdnnblknjmlgeaaDoorProg
import Derived.Test.YtdnnblknjmlgeaaDoorMath
namespace Go.Proofs.YtdnnblknjmlgeaaDoor
open Go.RowKit
open Classical

set_option maxHeartbeats 400000 in
theorem l1in_any (x a b : Int) (w : World) :
    Calls Tryd.prog 24 #[.int .i64 x, .int .i64 a, .int .i64 b] w fun e w' => e = .returned (.bool (B (InR x a b))) ∧ w' = w := by
  by_cases h1 : a ≤ x
  · by_cases h2 : x ≤ b
    · rw [B_true (show InR x a b from ⟨h1, h2⟩)]
      go_enter Tryd.func24, Tryd.ntmps24
      go_wp2
      go_ret
      exact ⟨by simp, rfl⟩
    · rw [B_false (show ¬ InR x a b from fun h => h2 h.2)]
      go_enter Tryd.func24, Tryd.ntmps24
      go_wp2
      go_ret
      exact ⟨by simp, rfl⟩
  · rw [B_false (show ¬ InR x a b from fun h => h1 h.1)]
    go_enter Tryd.func24, Tryd.ntmps24
    go_wp2
    go_ret
    exact ⟨by simp, rfl⟩

set_option maxHeartbeats 1000000 in
theorem l1list_any (v : Value) (l : List Int) (n : Int) (w : World) (hv : Ints (In w) w v l) (hl : l.length ≤ 1048576) (h1 : 1 ≤ n) (h60 : n ≤ 60) :
    Calls Tryd.prog 54 #[v, .int .i64 n] w fun e w' => e = .returned (.bool (B (ListOk n l))) ∧ w' = w := by
  obtain ⟨a, cap, rfl, hc⟩ := hv
  generalize hn' : l.length = m at *
  have Hn : Hid (l.length = m) := hn'
  have HC := hide hc
  clear hc hn'
  go_enter Tryd.func54, Tryd.ntmps54
  go_wp2
  go_loop [10] (fun i => ∃ (k : Nat), k ≤ m ∧ i = .int .i64 k ∧ ∀ j, j < k → OkAt n l j) (fun i => m - (intOf i).toNat)
  case atStart => exact ⟨0, Nat.zero_le _, rfl, fun j hj => by omega⟩
  case round =>
    obtain ⟨k, hk, rfl, hok⟩ := hrel
    have HO := hide hok
    clear hok
    by_cases hlt : k < m
    · obtain h0 | ⟨b, off, rfl, hb0, hc⟩ := HC.out
      · omega
      obtain ⟨x, hx⟩ := get_some l Hn hlt
      have g0 := hc k hlt x hx
      have Hx := hide hx
      clear hx
      have hc2 := hide hc
      clear hc
      go_wp2_with fail
      refine (l1in_any x 0 (n - 1) w).mono ?_
      rintro e w' ⟨rfl, rfl⟩
      by_cases hin : InR x 0 (n - 1)
      · rw [B_true hin]
        have Hin := hide hin
        clear hin
        go_wp2
        go_loop [7] (fun i => ∃ (q : Nat), q ≤ k ∧ i = .int .i64 q ∧ ∀ j, j < q → l[j]? ≠ some x) (fun i => k - (intOf i).toNat)
        case atStart => exact ⟨0, Nat.zero_le _, rfl, fun j hj => by omega⟩
        case round =>
          obtain ⟨q, hq, rfl, hne⟩ := hrel
          have HN := hide hne
          clear hne
          by_cases hqk : q < k
          · obtain ⟨y, hy⟩ := get_some l Hn (Nat.lt_trans hqk hlt)
            have g1 := hc2.out q (by omega) y hy
            have Hy := hide hy
            clear hy
            by_cases he : y = x
            · subst he
              go_wp2
              go_ret
              refine ⟨ret_bool (B_false fun h => ?_).symm, rfl⟩
              exact ((h.1 k (by rw [Hn.out]; exact hlt)) _ Hx.out).2 q hqk Hy.out
            · have he' : (y == x) = false := by simpa using he
              go_wp2
              go_round
              case rel => exact ⟨q + 1, by omega, by go_num, fun j hj => by
                by_cases e : j = q
                · subst e; rw [Hy.out]; exact fun h => he (Option.some.inj h)
                · exact HN.out j (by omega)⟩
              case measure => simp [intOf]; omega
          · go_wp2
            go_round
            case rel => exact ⟨k + 1, by omega, by go_num, fun j hj => by
              by_cases e : j = k
              · subst e; intro z hz; rw [Hx.out] at hz; cases hz; exact ⟨Hin.out, fun r hr => HN.out r (by omega)⟩
              · exact HO.out j (by omega)⟩
            case measure => simp [intOf]; omega
      · rw [B_false hin]
        go_wp2
        go_ret
        refine ⟨ret_bool (B_false fun h => ?_).symm, rfl⟩
        exact hin ((h.1 k (by rw [Hn.out]; exact hlt)) _ Hx.out).1
    · by_cases h30 : m ≤ 30
      · go_wp2
        go_ret
        refine ⟨ret_bool ?_, rfl⟩
        rw [B_true ⟨fun j hj => HO.out j (by have := Hn.out; omega), by have := Hn.out; omega⟩]
        simp; omega
      · go_wp2
        go_ret
        refine ⟨ret_bool ?_, rfl⟩
        rw [B_false fun h => h30 (by have := h.2; have := Hn.out; omega)]
        simp; omega

set_option maxHeartbeats 1000000 in
theorem l1meet_any (u v : Value) (l r : List Int) (w : World) (hu : Ints (In w) w u l) (hv : Ints (In w) w v r) (hl : l.length ≤ 1048576) (hr : r.length ≤ 1048576) :
    Calls Tryd.prog 26 #[u, v] w fun e w' => e = .returned (.bool (B (Meet l r))) ∧ w' = w := by
  obtain ⟨a, cap, rfl, hc⟩ := hu
  obtain ⟨a2, cap2, rfl, hc2⟩ := hv
  generalize hn' : l.length = m at *
  generalize hn2 : r.length = m2 at *
  have Hn : Hid (l.length = m) := hn'
  have Hn2 : Hid (r.length = m2) := hn2
  have HC := hide hc
  have HC2 := hide hc2
  clear hc hn' hc2 hn2
  go_enter Tryd.func26, Tryd.ntmps26
  go_wp2
  go_loop [11] (fun i => ∃ (k : Nat), k ≤ m ∧ i = .int .i64 k ∧ ∀ j x, j < k → l[j]? = some x → ¬ x ∈ r) (fun i => m - (intOf i).toNat)
  case atStart => exact ⟨0, Nat.zero_le _, rfl, fun j _ hj => by omega⟩
  case round =>
    obtain ⟨k, hk, rfl, hok⟩ := hrel
    have HO := hide hok
    clear hok
    by_cases hlt : k < m
    · obtain h0 | ⟨b, off, rfl, hb0, hc⟩ := HC.out
      · omega
      obtain ⟨x, hx⟩ := get_some l Hn hlt
      have g0 := hc k hlt x hx
      have Hx := hide hx
      clear hx hc
      go_wp2
      go_loop [17] (fun i => ∃ (q : Nat), q ≤ m2 ∧ i = .int .i64 q ∧ ∀ j, j < q → r[j]? ≠ some x) (fun i => m2 - (intOf i).toNat)
      case atStart => exact ⟨0, Nat.zero_le _, rfl, fun j hj => by omega⟩
      case round =>
        obtain ⟨q, hq, rfl, hne⟩ := hrel
        have HN := hide hne
        clear hne
        by_cases hqk : q < m2
        · obtain h0 | ⟨b2, off2, rfl, hb2, hc2⟩ := HC2.out
          · omega
          obtain ⟨y, hy⟩ := get_some r Hn2 hqk
          have g1 := hc2 q (by omega) y hy
          have Hy := hide hy
          clear hy hc2
          by_cases he : x = y
          · subst he
            go_wp2
            go_ret
            exact ⟨ret_bool (B_true ⟨x, List.mem_of_getElem? Hx.out, List.mem_of_getElem? Hy.out⟩).symm, rfl⟩
          · have he' : (x == y) = false := by simpa using he
            go_wp2
            go_round
            case rel => exact ⟨q + 1, by omega, by go_num, fun j hj => by
              by_cases e : j = q
              · subst e; rw [Hy.out]; exact fun h => he (Option.some.inj h).symm
              · exact HN.out j (by omega)⟩
            case measure => simp [intOf]; omega
        · go_wp2
          go_round
          case rel => exact ⟨k + 1, by omega, by go_num, fun j z hj hz => by
            by_cases e : j = k
            · subst e; rw [Hx.out] at hz; cases hz
              intro hm
              obtain ⟨i, hi, hi2⟩ := List.getElem?_of_mem hm |>.imp fun i h => (⟨(List.getElem?_eq_some_iff.1 h).1, h⟩ : i < r.length ∧ r[i]? = some x)
              exact HN.out i (by rw [Hn2.out] at hi; omega) hi2
            · exact HO.out j z (by omega) hz⟩
          case measure => simp [intOf]; omega
    · go_wp2
      go_ret
      refine ⟨ret_bool (B_false fun h => ?_).symm, rfl⟩
      obtain ⟨x, hx, hy⟩ := h
      obtain ⟨i, hi⟩ := List.getElem?_of_mem hx
      have := (List.getElem?_eq_some_iff.1 hi).1
      exact HO.out i x (by rw [Hn.out] at this; omega) hi hy
end Go.Proofs.YtdnnblknjmlgeaaDoor

import Derived.Test.YtdnnblknjmlgeabGreatDoorFrA
import Derived.Test.YtdnnblknjmlgeabGreatDoorBase
import Derived.Test.YtdnnblknjmlgeabGreatDoorToA
import Derived.Deep.RegionWith
import Derived.Deep.DeepCutAuto
namespace Go.Proofs.YtdnnblknjmlgeabGreatDoor
open Go.RowKit Go.Deep
open Classical

theorem any_no {l : List Int} {k : Nat} {y s : Int} (h : l[k]? = some y) (hy : (y == s) = true) : l.any (· == s) = true := by
  rw [List.any_eq_true]; exact ⟨y, List.mem_of_getElem? h, hy⟩
theorem any_snoc {l : List Int} {k : Nat} {y s : Int} (h : (l.take k).any (· == s) = false) (hy : l[k]? = some y) (e : (y == s) = false) : (l.take (k + 1)).any (· == s) = false := by
  rw [List.take_add_one, hy, List.any_append, h]; simp [e]

set_option maxHeartbeats 1000000 in
theorem indexInt_any (v : Value) (l : List Int) (s : Int) (w : World) (hv : Ints (In w) w v l) (hl : l.length ≤ 1048576) :
    Calls Tryz.prog 174 #[v, .int .i64 s] w fun e w' => ∃ r : Int, e = .returned (.int .i64 r) ∧ decide (0 ≤ r) = l.any (· == s) ∧ w' = w := by
  obtain ⟨a, cap, rfl, hc⟩ := hv
  have HC := hide hc
  clear hc
  go_enter Tryz.func174, Tryz.ntmps174
  go_wp2
  go_loop [8] (fun z => ∃ (q : Nat), q ≤ l.length ∧ z = .int .i64 q ∧ (l.take q).any (· == s) = false) (fun z => l.length - (intOf z).toNat)
  case atStart => exact ⟨0, Nat.zero_le _, rfl, by simp⟩
  case round =>
    obtain ⟨q, hq, rfl, hall⟩ := hrel
    have HA := hide hall
    clear hall
    by_cases hql : q < l.length
    · obtain h0 | ⟨b, off, rfl, hb0, hc⟩ := HC.out
      · omega
      obtain ⟨y, hy⟩ := lt_get' l hql
      have g0 := hc q hql y hy
      have Hy := hide hy
      clear hy hc
      cases hys : (s == y)
      · have hys' : (y == s) = false := by rw [← hys]; exact Bool.beq_comm ..
        go_wp2
        go_round
        case rel => exact ⟨q + 1, by omega, by go_num, any_snoc HA.out Hy.out hys'⟩
        case measure => simp [intOf]; omega
      · have hys' : (y == s) = true := by rw [← hys]; exact Bool.beq_comm ..
        go_wp2
        go_ret
        exact ⟨q, rfl, by rw [any_no Hy.out hys']; simp, rfl⟩
    · go_wp2
      go_ret
      exact ⟨-1, rfl, by have := HA.out; rw [List.take_of_length_le (by omega)] at this; rw [this]; rfl, rfl⟩

set_option maxHeartbeats 1000000 in
theorem containsInt_any (v : Value) (l : List Int) (s : Int) (w : World) (hv : Ints (In w) w v l) (hl : l.length ≤ 1048576) :
    Calls Tryz.prog 140 #[v, .int .i64 s] w fun e w' => e = .returned (.bool (l.any (· == s))) ∧ w' = w := by
  have hi := indexInt_any v l s w hv hl
  obtain ⟨a, cap, rfl, -⟩ := hv
  go_enter Tryz.func140, Tryz.ntmps140
  go_wp2_with fail
  refine hi.mono ?_
  rintro e w1 ⟨r, rfl, hr, rfl⟩
  have HR := hide hr
  clear hi hr
  go_wp2
  go_ret
  exact ⟨ret_bool (by rw [← HR.out]), rfl⟩
end Go.Proofs.YtdnnblknjmlgeabGreatDoor

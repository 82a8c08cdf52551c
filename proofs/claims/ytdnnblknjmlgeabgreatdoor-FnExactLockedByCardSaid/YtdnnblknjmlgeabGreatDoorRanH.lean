import Derived.Test.YtdnnblknjmlgeabGreatDoorRan
import Derived.Test.YtdnnblknjmlgeabGreatDoorFrA
namespace Go.Proofs.YtdnnblknjmlgeabGreatDoor
open Go.RowKit Go.Shelf
open Classical

attribute [local go_sem] Oper.semAt_some

def heldB (helds : List HeldD) (i : Nat) : Bool := (helds[i]?.map fun h => h.state != 0).getD false
/-- The held ways among the first k. -/
def heldIdx (helds : List HeldD) (k : Nat) : List Nat := (List.range k).filter (heldB helds)
theorem heldB_get {helds : List HeldD} {i : Nat} {h : HeldD} (hi : helds[i]? = some h) : heldB helds i = (h.state != 0) := by rw [heldB, hi]; rfl
theorem heldIdx_succ (helds : List HeldD) (k : Nat) : heldIdx helds (k + 1) = heldIdx helds k ++ if heldB helds k then [k] else [] := by
  rw [heldIdx, List.range_succ, List.filter_append]
  by_cases h : heldB helds k = true
  · simp [h, heldIdx]
  · simp [h, heldIdx]
theorem heldIdx_prefix (helds : List HeldD) {k n : Nat} (h : k ≤ n) : heldIdx helds k <+: heldIdx helds n := by
  induction n with
  | zero => obtain rfl : k = 0 := by omega
            exact List.prefix_rfl
  | succ n ih =>
    rcases Nat.lt_or_ge n k with hk | hk
    · obtain rfl : k = n + 1 := by omega
      exact List.prefix_rfl
    · rw [heldIdx_succ]; exact (ih hk).trans (List.prefix_append _ _)
theorem heldIdx_mem {helds : List HeldD} {k i : Nat} (h : i ∈ heldIdx helds k) : i < k ∧ heldB helds i = true := by
  simp only [heldIdx, List.mem_filter, List.mem_range] at h; exact h

theorem same_lt {n0 : Nat} {w W : World} (h : Below n0 w W) : Same (fun b => b < n0) w W := fun b hb o => h.cell (p := ⟨b, o, none⟩) hb

set_option maxHeartbeats 2000000 in
theorem heldWays_any (ok f1 f2 f3 : Value) (w : World) :
    Calls Tryz.prog 106 #[.agg #[ok, f1, f2, f3]] w fun e w' => e = .returned (.func (.func 139) #[] #[.pointer (some ⟨w.heap.size, 0, none⟩)]) ∧ w' = w.alloc (.cells #[ok, f1, f2, f3] 42) := by
  go_enter Tryz.func106, Tryz.ntmps106
  go_wp2
  go_ret
  exact ⟨rfl, rfl⟩

set_option maxRecDepth 100000 in
set_option maxHeartbeats 4000000 in
theorem heldWays1_gives (ok f1 f2 f3 : Value) (helds : List HeldD) (n0 bF : Nat) (w : World) (hbF : bF < n0) (hn0 : n0 ≤ w.heap.size)
    (c0 : w.cell? ⟨bF, 0, none⟩ = some ok) (c1 : w.cell? ⟨bF, 1, none⟩ = some f1) (c2 : w.cell? ⟨bF, 2, none⟩ = some f2) (c3 : w.cell? ⟨bF, 3, none⟩ = some f3)
    (hf : Helds (fun b => b < n0) w f3 helds) (hl : helds.length ≤ 1048576) :
    Gives Tryz.prog 139 #[.pointer (some ⟨bF, 0, none⟩)] (fun i : Nat => #[.int .i64 (i : Int)]) n0 0 (heldIdx helds helds.length) w := fun l J Jx W hW hJ hJx hY h0 => by
  have hWn : Below n0 w W := hW.mono hn0
  have hWs : n0 ≤ W.heap.size := Nat.le_trans hn0 hW.size
  have KF := hide fun (W' : World) (h : Below n0 W W') => hf.keep (Q := In W') (same_lt (hWn.trans h)) fun b hb => Nat.lt_of_lt_of_le hb (Nat.le_trans hWs h.size)
  have KC := hide fun (W' : World) (h : Below n0 W W') => (⟨((hWn.trans h).cell (p := ⟨bF, 0, none⟩) hbF).trans c0, ((hWn.trans h).cell (p := ⟨bF, 1, none⟩) hbF).trans c1, ((hWn.trans h).cell (p := ⟨bF, 2, none⟩) hbF).trans c2, ((hWn.trans h).cell (p := ⟨bF, 3, none⟩) hbF).trans c3⟩ : W'.cell? ⟨bF, 0, none⟩ = some ok ∧ W'.cell? ⟨bF, 1, none⟩ = some f1 ∧ W'.cell? ⟨bF, 2, none⟩ = some f2 ∧ W'.cell? ⟨bF, 3, none⟩ = some f3)
  obtain ⟨af, cf, hv, -⟩ := hf
  subst hv
  obtain ⟨k0, k1, k2, k3⟩ := KC.out W (Below.refl _ _)
  have HY := hide hY
  clear hY c0 c1 c2 c3
  refine callsIn_of_wp Tryz.func139 rfl trivial ?_ rfl
  simp only [Tryz.ntmps139, List.size_toArray, List.length_cons, List.length_nil, Nat.reduceAdd, Nat.reduceSub, Array.replicate_succ, Array.replicate_zero, List.push_toArray, List.append_toArray, List.nil_append, List.cons_append]
  gi_wp2
  gi_loopw [7] (fun i wr => ∃ k : Nat, k ≤ helds.length ∧ i = .int .i64 k ∧ J (heldIdx helds k) wr ∧ Below n0 W wr) (fun i _ => helds.length - (intOf i).toNat)
  case atStart => exact ⟨0, Nat.zero_le _, rfl, h0, Below.refl _ _⟩
  case round =>
    obtain ⟨k, hk, rfl, hJs, hnx⟩ := hrel
    by_cases hlt : k < helds.length
    · obtain ⟨h, hi⟩ := lt_get' helds hlt
      obtain ⟨k0, k1, k2, k3⟩ := KC.out wr hnx
      have HI := hide (isHeld_any ok f1 f2 _ helds k h wr (KF.out wr hnx) hi hl)
      have hB := heldB_get hi
      have hsucc := heldIdx_succ helds k
      rw [hB] at hsucc
      have hlt' : (k : Int) < (helds.length : Int) := by omega
      have hJc := hide fun (w1 : World) (h : Below wr.heap.size wr w1) => ownFrom_call hJ hJs h
      have hnc := hide fun (w1 : World) (h : Below wr.heap.size wr w1) => hnx.trans (h.mono (Nat.le_trans hWs hnx.size))
      have hnb := hide hnx.size
      clear hJs
      cases hst : (h.state != 0)
      · rw [hst] at HI hsucc
        have hsucc' : heldIdx helds (k + 1) = heldIdx helds k := by rw [hsucc]; simp
        clear hsucc hB hst hi
        gi_wp2_with (refine ⟨trivial, rfl, ?_⟩; gi_at_call 125; refine (callsIn_wide.2 HI.out).mono ?_; rintro e w1 ⟨rfl, hb1⟩)
        refine ⟨fun _ h => (by cases h), ?_⟩
        gi_wp2
        go_roundw
        case rel => exact ⟨k + 1, by omega, by simp, by rw [hsucc']; exact hJc.out _ hb1, hnc.out _ hb1⟩
        case measure => simp [intOf]; omega
      · rw [hst] at HI hsucc
        have hsucc' : heldIdx helds (k + 1) = heldIdx helds k ++ [k] := by rw [hsucc]; simp
        have hpre : heldIdx helds k ++ [k] <+: heldIdx helds helds.length := by rw [← hsucc']; exact heldIdx_prefix helds hlt
        clear hsucc hB hst hi
        gi_wp2_with (refine ⟨trivial, rfl, ?_⟩; gi_at_call 125; refine (callsIn_wide.2 HI.out).mono ?_; rintro e w1 ⟨rfl, hb1⟩; obtain ⟨fn, tmps, assign, body, hy, hR⟩ := HY.out _ k w1 hpre (Nat.le_trans (hnb.out) hb1.size) (hJc.out _ hb1))
        refine ⟨rfl, hR.mono ?_⟩
        rintro e W3 (⟨rfl, hJ3, hk3, -⟩ | ⟨rfl, hJx3, -⟩)
        · gi_wp2
          go_roundw
          case rel => exact ⟨k + 1, by omega, by simp, by rw [hsucc']; exact hJ3, (hnc.out _ hb1).trans hk3⟩
          case measure => simp [intOf]; omega
        · gi_wp2
          refine bodyPost_ret (results_none rfl _ _ _) rfl ?_
          exact ⟨⟨_, rfl⟩, .inr ⟨_, hpre, hJx3⟩⟩
    · obtain rfl : k = helds.length := by omega
      gi_wp2
      go_end0
      exact ⟨⟨_, rfl⟩, .inl hJs⟩
end Go.Proofs.YtdnnblknjmlgeabGreatDoor

import Derived.Test.YtdhinkgjiapigaaDoorMark4
namespace Go.Proofs.YtdhinkgjiapigaaDoor
open Go.RowKit Go.Deep

set_option maxHeartbeats 1000000 in
theorem heldBoolS_any (v : Value) (n : Nat) (k : Int) (w : World) (hv : Bools (In w) w v (marksB k n)) (hn : n ≤ 1048576) (h0 : 0 ≤ k) (h1 : k ≤ 1152921504606846976) :
    Calls Tryd.prog 47 #[v, .int .i64 k] w fun e w' => e = .returned (.int .i64 (k + n)) ∧ w' = w := by
  obtain ⟨a, cap, rfl, hc⟩ := hv
  rw [marksB_length] at hc ⊢
  have HC := hide hc
  clear hc
  go_enter Tryd.func47, Tryd.ntmps47
  go_wp2
  go_loop [1, 5] (fun kv i => ∃ (j : Nat) (q : Int), j ≤ n ∧ i = .int .i64 j ∧ q = k + j ∧ kv = .int .i64 q) (fun _ i => n - (intOf i).toNat)
  case atStart => exact ⟨0, _, Nat.zero_le _, rfl, by simp, rfl⟩
  case round =>
    obtain ⟨j, q, hj, rfl, hq, rfl⟩ := hrel
    have Hq := hide hq
    have hq2 : q ≤ 1152921504606846976 + 4194304 := by omega
    have hq0 : 0 ≤ q := by omega
    clear hq
    by_cases hlt : j < n
    · obtain z0 | ⟨b, off, rfl, hb0, hc⟩ := HC.out
      · omega
      have g0 := hc j hlt _ (marksB_get hlt)
      rw [← Hq.out, show m3 q = (q % 3 == 0) from rfl] at g0
      clear hc
      go_wp2
      go_round
      case rel => exact ⟨j + 1, _, by omega, by go_num, by have := Hq.out; omega, rfl⟩
      case measure => simp [intOf]; omega
    · go_wp2
      go_ret
      exact ⟨ret_int (by have := Hq.out; omega), rfl⟩

set_option maxHeartbeats 1000000 in
theorem heldPointS_any (v : Value) (n : Nat) (k : Int) (w : World) (hv : Lies (In w) w v (marksP k n)) (hn : n ≤ 1048576) (h0 : 0 ≤ k) (h1 : k ≤ 1152921504606846976) :
    Calls Tryd.prog 48 #[v, .int .i64 k] w fun e w' => e = .returned (.int .i64 (k + 2 * n)) ∧ w' = w := by
  obtain ⟨a, cap, rfl, hc⟩ := hv
  rw [marksP_length] at hc ⊢
  have HC := hide hc
  clear hc
  go_enter Tryd.func48, Tryd.ntmps48
  go_wp2
  go_loop [1, 5] (fun kv i => ∃ (j : Nat) (q : Int), j ≤ n ∧ i = .int .i64 j ∧ q = k + 2 * j ∧ kv = .int .i64 q) (fun _ i => n - (intOf i).toNat)
  case atStart => exact ⟨0, _, Nat.zero_le _, rfl, by simp, rfl⟩
  case round =>
    obtain ⟨j, q, hj, rfl, hq, rfl⟩ := hrel
    have Hq := hide hq
    have hq2 : q ≤ 1152921504606846976 + 4194304 := by omega
    have hq0 : 0 ≤ q := by omega
    clear hq
    by_cases hlt : j < n
    · obtain z0 | ⟨b, off, rfl, hb0, hc⟩ := HC.out
      · omega
      obtain ⟨g0, g1⟩ := hc j hlt _ (marksP_get hlt)
      dsimp only at g0 g1
      rw [← Hq.out] at g0 g1
      clear hc
      go_wp2
      go_round
      case rel => exact ⟨j + 1, _, by omega, by go_num, by have := Hq.out; omega, rfl⟩
      case measure => simp [intOf]; omega
    · go_wp2
      go_ret
      exact ⟨ret_int (by have := Hq.out; omega), rfl⟩

set_option maxRecDepth 100000 in
set_option maxHeartbeats 4000000 in
theorem heldHeldS_any (v : Value) (l : List HeldD) (k : Int) (w : World) (hv : Helds (In w) w v (markHs k l)) (hn : l.length ≤ 1048576) (hs : ∀ x ∈ l, x.been.length ≤ 1048576) (h0 : 0 ≤ k) (h1 : k ≤ 1125899906842624) :
    Calls Tryd.prog 49 #[v, .int .i64 k] w fun e w' => e = .returned (.int .i64 (k + cntH l)) ∧ w' = w := by
  obtain ⟨a, cap, rfl, hc⟩ := hv
  rw [markHs_length] at hc ⊢
  have hpos : ∀ j, posH k l j ≤ k + (4 + 1048576) * j := fun j => by unfold posH; have := cntH_le hs j; omega
  have hge : ∀ j, k ≤ posH k l j := fun j => by unfold posH; omega
  have HPOS := hide hpos
  have HGE := hide hge
  have HS := hide hs
  have HC := hide hc
  obtain ⟨n, hn'⟩ : ∃ n, l.length = n := ⟨_, rfl⟩
  have HN := hide hn'
  rw [hn'] at hn HC ⊢
  clear hc hs hpos hge hn'
  go_enter Tryd.func49, Tryd.ntmps49
  go_wp2
  go_loop [1, 5] (fun kv i => ∃ (j : Nat) (q : Int), j ≤ n ∧ i = .int .i64 j ∧ q = posH k l j ∧ kv = .int .i64 q) (fun _ i => n - (intOf i).toNat)
  case atStart => exact ⟨0, _, Nat.zero_le _, rfl, (posH_zero _ _).symm, rfl⟩
  case round =>
    obtain ⟨j, q, hj, rfl, hq, rfl⟩ := hrel
    have Hq := hide hq
    have hq2 : q ≤ 1125899906842624 + 1048580 * 1048576 := by have := HPOS.out j; omega
    have hq0 : 0 ≤ q := by have := HGE.out j; omega
    clear hq
    by_cases hlt : j < n
    · obtain z0 | ⟨b, off, rfl, hb0, hc⟩ := HC.out
      · omega
      obtain ⟨x, hx⟩ := lt_get l (i := j) (by rw [HN.out]; exact hlt)
      have hxl : x.been.length ≤ 1048576 := HS.out x (List.mem_of_getElem? hx)
      obtain ⟨v2, hb2, g0, g1, g2, g3, g4⟩ := hc j hlt _ (markHs_get hx)
      rw [← Hq.out] at hb2 g0 g1 g3 g4
      unfold markH at hb2 g0 g1 g3 g4
      dsimp only at hb2 g0 g1 g3 g4
      unfold m3 at g3
      have HX := hide hx
      have HB2 := hide hb2
      obtain ⟨a2, c2, rfl, -⟩ := hb2
      rw [marksB_length] at g2 HB2
      clear hc hx
      go_wp2_with fail
      refine (heldBoolS_any _ x.been.length (q + 1 + 1) _ HB2.out hxl (by omega) (by omega)).mono ?_
      rintro e w3 ⟨rfl, rfl⟩
      go_wp2
      go_round
      case rel => exact ⟨j + 1, _, by omega, by go_num, by have := posH_succ (k := k) HX.out; have := Hq.out; omega, rfl⟩
      case measure => simp [intOf]; omega
    · go_wp2
      go_ret
      have hjn : j = n := by omega
      subst hjn
      exact ⟨ret_int (by rw [Hq.out]; exact posH_end (by rw [HN.out]; exact Nat.le_refl _)), rfl⟩

/-- A frame of a call's own, in blocks from B0 on: each list in a block of its own, or all of them empty. -/
def FrameM (B0 : Nat) (w : World) (v1 v2 v3 : Value) (d : FrameD) : Prop :=
  (∃ bo bp bw bb, OFrame (fun c => B0 ≤ c) w v1 v2 v3 d bo bp bw bb) ∨ (v1 = .slice none 0 0 ∧ v2 = .slice none 0 0 ∧ v3 = .slice none 0 0 ∧ d.occ = [] ∧ d.points = [] ∧ d.ways = [])
theorem FrameM.read {B0 : Nat} {w : World} {v1 v2 v3 : Value} {d : FrameD} (h : FrameM B0 w v1 v2 v3 d) : FrameAt (In w) w v1 v2 v3 d := by
  rcases h with ⟨bo, bp, bw, bb, h⟩ | ⟨rfl, rfl, rfl, e1, e2, e3⟩
  · exact (h.bound (Q := In w) fun c _ hc => hc).read
  · exact ⟨⟨_, _, by rw [e1]; rfl, .inl (by rw [e1]; rfl)⟩, ⟨_, _, by rw [e2]; rfl, .inl (by rw [e2]; rfl)⟩, ⟨_, _, by rw [e3]; rfl, .inl (by rw [e3]; rfl)⟩⟩
theorem FrameM.but {B0 B1 : Nat} {w w' : World} {v1 v2 v3 : Value} {d : FrameD} (h : FrameM B0 w v1 v2 v3 d) (e : But (fun c => B0 ≤ c) w w') (hB : B1 ≤ B0) : FrameM B1 w' v1 v2 v3 d := by
  rcases h with ⟨bo, bp, bw, bb, h⟩ | h
  · exact .inl ⟨bo, bp, bw, bb, h.but e (fun _ z => z) fun _ z => Nat.le_trans hB z⟩
  · exact .inr h
theorem FrameM.call {B0 : Nat} {w w' : World} {v1 v2 v3 : Value} {d : FrameD} (h : FrameM B0 w v1 v2 v3 d) (e : Below w.heap.size w w') : FrameM B0 w' v1 v2 v3 d := h.but (But.of_calls e) (Nat.le_refl _)
theorem FrameM.slices {B0 : Nat} {w : World} {v1 v2 v3 : Value} {d : FrameD} (h : FrameM B0 w v1 v2 v3 d) : ∃ a1 c1 a2 c2 a3 c3, v1 = .slice a1 d.occ.length c1 ∧ v2 = .slice a2 d.points.length c2 ∧ v3 = .slice a3 d.ways.length c3 := by
  obtain ⟨⟨a1, c1, e1, -⟩, ⟨a2, c2, e2, -⟩, ⟨a3, c3, e3, -⟩⟩ := h.read
  exact ⟨a1, c1, a2, c2, a3, c3, e1, e2, e3⟩
/-- The same in blocks that P allows. -/
def FrameP (P : Nat → Prop) (w : World) (v1 v2 v3 : Value) (d : FrameD) : Prop :=
  (∃ bo bp bw bb, OFrame P w v1 v2 v3 d bo bp bw bb) ∨ (v1 = .slice none 0 0 ∧ v2 = .slice none 0 0 ∧ v3 = .slice none 0 0 ∧ d.occ = [] ∧ d.points = [] ∧ d.ways = [])
theorem FrameM.to {B0 : Nat} {P : Nat → Prop} {w : World} {v1 v2 v3 : Value} {d : FrameD} (h : FrameM B0 w v1 v2 v3 d) (hP : ∀ c, B0 ≤ c → c < w.heap.size → P c) : FrameP P w v1 v2 v3 d := by
  rcases h with ⟨bo, bp, bw, bb, h⟩ | h
  · exact .inl ⟨bo, bp, bw, bb, h.bound hP⟩
  · exact .inr h
theorem FrameP.read {P : Nat → Prop} {w : World} {v1 v2 v3 : Value} {d : FrameD} (h : FrameP P w v1 v2 v3 d) : FrameAt P w v1 v2 v3 d := by
  rcases h with ⟨bo, bp, bw, bb, h⟩ | ⟨rfl, rfl, rfl, e1, e2, e3⟩
  · exact h.read
  · exact ⟨⟨_, _, by rw [e1]; rfl, .inl (by rw [e1]; rfl)⟩, ⟨_, _, by rw [e2]; rfl, .inl (by rw [e2]; rfl)⟩, ⟨_, _, by rw [e3]; rfl, .inl (by rw [e3]; rfl)⟩⟩
theorem FrameP.there {P : Nat → Prop} {w : World} {v1 v2 v3 : Value} {d : FrameD} (h : FrameP P w v1 v2 v3 d) : FrameP (fun c => P c ∧ c < w.heap.size) w v1 v2 v3 d := by
  rcases h with ⟨bo, bp, bw, bb, h⟩ | h
  · exact .inl ⟨bo, bp, bw, bb, h.bound fun _ h1 h2 => ⟨h1, h2⟩⟩
  · exact .inr h
theorem FrameP.but {P Q K : Nat → Prop} {w w' : World} {v1 v2 v3 : Value} {d : FrameD} (h : FrameP P w v1 v2 v3 d) (e : But K w w') (hk : ∀ c, P c → K c) (hq : ∀ c, P c → Q c) : FrameP Q w' v1 v2 v3 d := by
  rcases h with ⟨bo, bp, bw, bb, h⟩ | h
  · exact .inl ⟨bo, bp, bw, bb, h.but e hk hq⟩
  · exact .inr h
end Go.Proofs.YtdhinkgjiapigaaDoor

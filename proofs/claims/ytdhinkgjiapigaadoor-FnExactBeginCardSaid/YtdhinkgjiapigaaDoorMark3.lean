import Derived.Test.YtdhinkgjiapigaaDoorMarkA
import Derived.Test.YtdhinkgjiapigaaDoorToA
namespace Go.Proofs.YtdhinkgjiapigaaDoor
open Go.RowKit Go.Deep

/-- The marks, as data. -/
def m3 (k : Int) : Bool := k % 3 == 0
def marksB (k : Int) (n : Nat) : List Bool := (List.range n).map fun i : Nat => m3 (k + i)
def marksP (k : Int) (n : Nat) : List (Int × Int) := (List.range n).map fun i : Nat => (k + 2 * (i : Int), k + 2 * (i : Int) + 1)
def markH (k : Int) (x : HeldD) : HeldD := ⟨k, k + 1, marksB (k + 1 + 1) x.been.length, m3 (k + 1 + 1 + x.been.length), k + 1 + 1 + x.been.length + 1⟩
def cntH (l : List HeldD) : Nat := (l.map fun x => 4 + x.been.length).sum
def posH (k : Int) (l : List HeldD) (j : Nat) : Int := k + cntH (l.take j)
def markHs (k : Int) (l : List HeldD) : List HeldD := l.mapIdx fun i x => markH (posH k l i) x
def markF (k : Int) (d : FrameD) : FrameD := ⟨d.ok, marksB k d.occ.length, marksP (k + d.occ.length) d.points.length, markHs (k + d.occ.length + 2 * d.points.length) d.ways⟩
def cntF (d : FrameD) : Int := d.occ.length + 2 * d.points.length + cntH d.ways
theorem marksB_length (k : Int) (n : Nat) : (marksB k n).length = n := by simp [marksB]
theorem marksP_length (k : Int) (n : Nat) : (marksP k n).length = n := by simp [marksP]
theorem markHs_length (k : Int) (l : List HeldD) : (markHs k l).length = l.length := by simp [markHs]
theorem marksB_get {k : Int} {n i : Nat} (h : i < n) : (marksB k n)[i]? = some (m3 (k + i)) := by simp [marksB, h]
theorem marksP_get {k : Int} {n i : Nat} (h : i < n) : (marksP k n)[i]? = some (k + 2 * i, k + 2 * i + 1) := by simp [marksP, h]
theorem markHs_get {k : Int} {l : List HeldD} {i : Nat} {x : HeldD} (h : l[i]? = some x) : (markHs k l)[i]? = some (markH (posH k l i) x) := by simp [markHs, h]
theorem posH_zero (k : Int) (l : List HeldD) : posH k l 0 = k := by simp [posH, cntH]
theorem posH_succ {k : Int} {l : List HeldD} {j : Nat} {x : HeldD} (h : l[j]? = some x) : posH k l (j + 1) = posH k l j + 4 + x.been.length := by
  unfold posH cntH
  rw [List.take_add_one, h]
  simp
  omega
theorem posH_end {k : Int} {l : List HeldD} {j : Nat} (h : l.length ≤ j) : posH k l j = k + cntH l := by
  unfold posH
  rw [List.take_of_length_le h]
theorem cntH_le {l : List HeldD} {N : Nat} (h : ∀ x ∈ l, x.been.length ≤ N) (j : Nat) : cntH (l.take j) ≤ (4 + N) * j := by
  induction j with
  | zero => simp [cntH]
  | succ j ih =>
    cases hx : l[j]? with
    | none =>
      rw [List.take_of_length_le (by have := List.getElem?_eq_none_iff.1 hx; omega : l.length ≤ j + 1)]
      rw [List.take_of_length_le (by have := List.getElem?_eq_none_iff.1 hx; omega : l.length ≤ j)] at ih
      exact Nat.le_trans ih (Nat.mul_le_mul_left _ (by omega))
    | some x =>
      unfold cntH at ih ⊢
      rw [List.take_add_one, hx]
      simp only [List.map_append, List.sum_append, Option.toList_some, List.map_cons, List.map_nil, List.sum_cons, List.sum_nil]
      have := h x (List.mem_of_getElem? hx)
      rw [Nat.mul_add]
      omega

set_option maxHeartbeats 1000000 in
theorem markBools_own (v : Value) (l : List Bool) (b : Nat) (k : Int) (w : World) (hv : OBools w v l b) (hn : l.length ≤ 1048576) (h0 : 0 ≤ k) (h1 : k ≤ 1152921504606846976) :
    Calls Tryd.prog 44 #[v, .int .i64 k] w fun e w' => e = .returned (.int .i64 (k + l.length)) ∧ OBools w' v (marksB k l.length) b ∧ But (fun c => c ≠ b) w w' := by
  obtain ⟨f, N, cap, rfl, hr, hN, -⟩ := hv
  obtain ⟨n, hn'⟩ : ∃ n, l.length = n := ⟨_, rfl⟩
  rw [hn'] at hn hN ⊢
  clear hn'
  go_enter Tryd.func44, Tryd.ntmps44
  go_wp2
  go_loopw [1, 5] (fun kv i wr => ∃ (j : Nat) (q : Int) (g : Nat → Value), j ≤ n ∧ i = .int .i64 j ∧ q = k + j ∧ kv = .int .i64 q ∧ wr.rowIs b 4 N g ∧ (∀ i : Nat, i < j → g i = .bool (m3 (k + i))) ∧ But (fun c => c ≠ b) w wr) (fun _ i _ => n - (intOf i).toNat)
  case atStart => exact ⟨0, _, f, Nat.zero_le _, rfl, by simp, rfl, hr, fun i hi => by omega, But.refl _ _⟩
  case round =>
    obtain ⟨j, q, g, hj, rfl, hq, rfl, hg, hm, hb⟩ := hrel
    have HM := hide hm
    have HB := hide hb
    have Hq := hide hq
    have hq2 : q ≤ 1152921504606846976 + 4194304 := by omega
    have hq0 : 0 ≤ q := by omega
    clear hm hb hq
    by_cases hlt : j < n
    · have c0 := hg.cell (i := j) (by omega)
      have f0 := hg.frozen j
      clear hr
      go_wp2
      go_roundw
      case rel =>
        refine ⟨j + 1, _, _, by omega, by go_num, by have := Hq.out; omega, rfl, hg.set j _, fun i hi => ?_, HB.out.setCell (fun z => z rfl) _⟩
        by_cases e : i = j
        · subst e; rw [if_pos rfl, ← Hq.out]; rfl
        · rw [if_neg e]; exact HM.out i (by omega)
      case measure => simp [intOf]; omega
    · go_wp2
      go_ret
      have hjn : j = n := by omega
      refine ⟨ret_int (by have := Hq.out; omega), ⟨g, N, cap, by rw [marksB_length], hg, by rw [marksB_length]; exact hN, fun i x hx => ?_⟩, HB.out⟩
      have hi : i < n := by have := (List.getElem?_eq_some_iff.1 hx).1; rw [marksB_length] at this; exact this
      rw [marksB_get hi] at hx
      cases hx
      exact HM.out i (by omega)

/-- An empty slice. -/
def Emp (v : Value) : Prop := ∃ a c, v = .slice a 0 c
set_option maxHeartbeats 1000000 in
theorem markBools_none (v : Value) (k : Int) (w : World) (hv : Emp v) (_h0 : 0 ≤ k) : Calls Tryd.prog 44 #[v, .int .i64 k] w fun e w' => e = .returned (.int .i64 k) ∧ w' = w := by
  obtain ⟨a, c, rfl⟩ := hv
  go_enter Tryd.func44, Tryd.ntmps44
  go_wp2
  go_loopw [1, 5] (fun kv i wr => i = .int .i64 0 ∧ kv = .int .i64 k ∧ wr = w) (fun _ _ _ => 0)
  case atStart => exact ⟨rfl, rfl, rfl⟩
  case round =>
    obtain ⟨rfl, rfl, rfl⟩ := hrel
    go_wp2
    go_ret
    exact ⟨rfl, rfl⟩

set_option maxHeartbeats 1000000 in
theorem markPointsO_any (v : Value) (l : List (Int × Int)) (b : Nat) (k : Int) (w : World) (hv : OPoints w v l b) (hn : l.length ≤ 1048576) (h0 : 0 ≤ k) (h1 : k ≤ 1152921504606846976) :
    Calls Tryd.prog 45 #[v, .int .i64 k] w fun e w' => e = .returned (.int .i64 (k + 2 * l.length)) ∧ OPoints w' v (marksP k l.length) b ∧ But (fun c => c ≠ b) w w' := by
  obtain ⟨a, cap, rfl, hc⟩ := hv
  obtain ⟨n, hn'⟩ : ∃ n, l.length = n := ⟨_, rfl⟩
  rcases hc with hl | ⟨rfl, f, N, hr, hN, -⟩
  · rw [hl]
    clear hn' hn
    go_enter Tryd.func45, Tryd.ntmps45
    go_wp2
    go_loopw [1, 5] (fun kv i wr => i = .int .i64 0 ∧ kv = .int .i64 k ∧ wr = w) (fun _ _ _ => 0)
    case atStart => exact ⟨rfl, rfl, rfl⟩
    case round =>
      obtain ⟨rfl, rfl, rfl⟩ := hrel
      go_wp2
      go_ret
      exact ⟨ret_int (by omega), ⟨a, cap, by rw [marksP_length], .inl (marksP_length _ _)⟩, But.refl _ _⟩
  rw [hn'] at hn hN ⊢
  clear hn'
  go_enter Tryd.func45, Tryd.ntmps45
  go_wp2
  go_loopw [1, 5] (fun kv i wr => ∃ (j : Nat) (q : Int) (g : Nat → Value), j ≤ n ∧ i = .int .i64 j ∧ q = k + 2 * j ∧ kv = .int .i64 q ∧ wr.rowIs b 75 N g ∧ (∀ i : Nat, i < j → g (i * 2) = .int .i64 (k + 2 * i) ∧ g (i * 2 + 1) = .int .i64 (k + 2 * i + 1)) ∧ But (fun c => c ≠ b) w wr) (fun _ i _ => n - (intOf i).toNat)
  case atStart => exact ⟨0, _, f, Nat.zero_le _, rfl, by simp, rfl, hr, fun i hi => by omega, But.refl _ _⟩
  case round =>
    obtain ⟨j, q, g, hj, rfl, hq, rfl, hg, hm, hb⟩ := hrel
    have HM := hide hm
    have HB := hide hb
    have Hq := hide hq
    have hq2 : q ≤ 1152921504606846976 + 4194304 := by omega
    have hq0 : 0 ≤ q := by omega
    clear hm hb hq
    by_cases hlt : j < n
    · have c0 := hg.cell (i := j * 2) (by omega)
      have f0 := hg.frozen (j * 2)
      have c1 := hg.cell (i := j * 2 + 1) (by omega)
      have f1 := hg.frozen (j * 2 + 1)
      clear hr
      go_wp2
      go_roundw
      case rel =>
        refine ⟨j + 1, _, _, by omega, by go_num, by have := Hq.out; omega, rfl, (hg.set (j * 2) _).set (j * 2 + 1) _, fun i hi => ?_, (HB.out.setCell (fun z => z rfl) _).setCell (fun z => z rfl) _⟩
        by_cases e : i = j
        · subst e
          rw [if_neg (by omega), if_pos rfl, if_pos rfl, Hq.out]
          exact ⟨rfl, rfl⟩
        · rw [if_neg (by omega), if_neg (by omega), if_neg (by omega), if_neg (by omega)]; exact HM.out i (by omega)
      case measure => simp [intOf]; omega
    · go_wp2
      go_ret
      have hjn : j = n := by omega
      refine ⟨ret_int (by have := Hq.out; omega), ⟨_, cap, by rw [marksP_length], .inr ⟨rfl, g, N, hg, by rw [marksP_length]; exact hN, fun i x hx => ?_⟩⟩, HB.out⟩
      have hi : i < n := by have := (List.getElem?_eq_some_iff.1 hx).1; rw [marksP_length] at this; exact this
      rw [marksP_get hi] at hx
      cases hx
      exact HM.out i (by omega)
end Go.Proofs.YtdhinkgjiapigaaDoor

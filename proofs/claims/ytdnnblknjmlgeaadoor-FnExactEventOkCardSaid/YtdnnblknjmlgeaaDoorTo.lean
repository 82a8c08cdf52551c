import Derived.Test.YtdnnblknjmlgeaaDoorProg
import Derived.Test.YtdnnblknjmlgeaaDoorData
import Derived.Deep.OwnRows
namespace Go.Proofs.YtdnnblknjmlgeaaDoor
open Go.RowKit Go.Deep

theorem Tryd.infoInt : (Tryd.prog.info? 3).map (fun i => (i.zero, i.size, i.bytes)) = some (some (.int .i64 0), 1, 8) := by kernel_rfl
theorem Tryd.infoBool : (Tryd.prog.info? 4).map (fun i => (i.zero, i.size, i.bytes)) = some (some (.bool false), 1, 1) := by kernel_rfl
theorem Tryd.infoBools : (Tryd.prog.info? 38).map (fun i => (i.zero, i.size, i.bytes)) = some (some (.slice none 0 0), 1, 24) := by kernel_rfl
theorem Tryd.infoLie : (Tryd.prog.info? 95).map (fun i => (i.zero, i.size, i.bytes)) = some (some (.agg #[.int .i64 0, .int .i64 0]), 2, 16) := by kernel_rfl
theorem Tryd.infoWay : (Tryd.prog.info? 59).map (fun i => (i.zero, i.size, i.bytes)) = some (some (.agg #[.slice none 0 0, .slice none 0 0, .slice none 0 0, .slice none 0 0, .slice none 0 0]), 5, 120) := by kernel_rfl

/-- make of elements of several cells. -/
theorem run_make_cells {P : Program} (t e : TypeId) (z : Value) (size bytes : Nat) (ht : P.underlying t = some (.slice e)) (hinfo : (P.info? e).map (fun i => (i.zero, i.size, i.bytes)) = some (some z, size, bytes))
    (n : Nat) (hb : bytes * n ≤ 281474976710656) (h63 : n ≤ 9223372036854775807) (w : World) :
    (Instr.makeSlice t (.int .i64 (n : Int)) (.int .i64 (n : Int))).run P w = .ok (.slice (some ⟨w.heap.size, 0, none⟩) n n) (w.alloc (.cells (madeCells z.cells (n * size)) e)) := by
  cases hi : P.info? e with
  | none => rw [hi] at hinfo; cases hinfo
  | some i =>
    rw [hi] at hinfo
    simp only [Option.map_some, Option.some.injEq, Prod.mk.injEq] at hinfo
    obtain ⟨h1, h2, h3⟩ := hinfo
    have := run_make (P := P) w t e i z ht hi h1 .i64 .i64 n n (by omega) (by omega) (by rw [h3, ← Int.natCast_mul]; omega) (by omega)
    rw [h2] at this
    simpa using this
theorem rowIs_made_any (w : World) (z : Array Value) (n : Nat) (t : TypeId) : (w.alloc (.cells (madeCells z n) t)).rowIs w.heap.size t n (fun i => (madeCells z n)[i]!) := by
  have := World.rowIs_alloc w (madeCells z n) t (fun i => (madeCells z n)[i]!) (fun i hi => by rw [getElem!_pos _ i hi]; exact Array.getElem?_eq_getElem hi)
  rwa [size_madeCells] at this

theorem Ints.made {w wr : World} {l : List Int} {n : Nat} {t : TypeId} {f : Nat → Value} (hn : l.length = n) (hrow : wr.rowIs w.heap.size t n f)
    (hf : ∀ j x, j < n → l[j]? = some x → f j = .int .i64 x) : Ints (Fresh w wr) wr (.slice (some ⟨w.heap.size, 0, none⟩) n n) l := by
  subst hn
  exact ⟨_, _, rfl, .inr ⟨w.heap.size, 0, rfl, ⟨Nat.le_refl _, hrow.lt, hrow.frozen⟩, fun i hi x hx => by rw [Nat.zero_add, hrow.cell hi, hf i x hi hx]⟩⟩
theorem Bools.made {w wr : World} {l : List Bool} {n : Nat} {t : TypeId} {f : Nat → Value} (hn : l.length = n) (hrow : wr.rowIs w.heap.size t n f)
    (hf : ∀ j x, j < n → l[j]? = some x → f j = .bool x) : Bools (Fresh w wr) wr (.slice (some ⟨w.heap.size, 0, none⟩) n n) l := by
  subst hn
  exact ⟨_, _, rfl, .inr ⟨w.heap.size, 0, rfl, ⟨Nat.le_refl _, hrow.lt, hrow.frozen⟩, fun i hi x hx => by rw [Nat.zero_add, hrow.cell hi, hf i x hi hx]⟩⟩
theorem Lies.made {w wr : World} {l : List (Int × Int)} {n : Nat} {t : TypeId} {f : Nat → Value} (hn : l.length = n) (hrow : wr.rowIs w.heap.size t (n * 2) f)
    (hf : ∀ j x, j < n → l[j]? = some x → f (j * 2) = .int .i64 x.1 ∧ f (j * 2 + 1) = .int .i64 x.2) : Lies (Fresh w wr) wr (.slice (some ⟨w.heap.size, 0, none⟩) n n) l := by
  subst hn
  refine ⟨_, _, rfl, .inr ⟨w.heap.size, 0, rfl, ⟨Nat.le_refl _, hrow.lt, hrow.frozen⟩, fun i hi x hx => ?_⟩⟩
  rw [Nat.zero_add, hrow.cell (by omega), hrow.cell (by omega), (hf i x hi hx).1, (hf i x hi hx).2]; exact ⟨rfl, rfl⟩

set_option maxHeartbeats 1000000 in
theorem toIntS_any (v : Value) (l : List Int) (w : World) (hv : Ints (In w) w v l) (hn : l.length ≤ 1048576) :
    Calls Tryd.prog 27 #[v] w fun e w' => ∃ v', e = .returned v' ∧ Below w.heap.size w w' ∧ Ints (Fresh w w') w' v' l := by
  obtain ⟨a, cap, rfl, hc⟩ := hv
  generalize hn' : l.length = n at *
  have Hn : Hid (l.length = n) := hn'
  have HC := hide hc
  clear hc hn'
  have hmk := run_make_row' (P := Tryd.prog) 22 3 (.int .i64 0) 8 Tryd.underlying22 Tryd.infoInt rfl .i64 .i64 n (by omega) (by omega)
  go_enter Tryd.func27, Tryd.ntmps27
  go_wp2
  go_loopw [4] (fun i wr => ∃ (k : Nat) (f : Nat → Value), k ≤ n ∧ i = .int .i64 k ∧ Below w.heap.size w wr ∧ wr.rowIs w.heap.size 3 n f ∧ (∀ j x, j < k → l[j]? = some x → f j = .int .i64 x)) (fun i _ => n - (intOf i).toNat)
  case atStart => exact ⟨0, _, Nat.zero_le _, rfl, (Below.refl _ _).alloc (Nat.le_refl _) _, World.rowIs_made w _ n _, fun j x hj => by omega⟩
  case round =>
    obtain ⟨k, f, hk, rfl, hbl, hrow, hf⟩ := hrel
    have HF := hide hf
    clear hf hmk
    by_cases hlt : k < n
    · obtain h0 | ⟨b, off, rfl, hb0, hc⟩ := HC.out
      · omega
      obtain ⟨x, hx⟩ := get_some l Hn hlt
      have g0 := hc k hlt x hx
      rw [← hbl.cell (p := ⟨b, _, none⟩) hb0] at g0
      have hcw := hrow.cell hlt
      have hfr := hrow.frozen k
      have Hx := hide hx
      clear hx hc
      go_wp2
      go_roundw
      case rel => exact ⟨k + 1, _, by omega, by go_num, hbl.setCell (Nat.le_refl _) _, hrow.set k _, fun j y hj hy => by
        by_cases e : j = k
        · subst e; rw [Hx.out] at hy; rw [if_pos rfl]; exact Option.some.inj hy ▸ rfl
        · rw [if_neg e]; exact HF.out j y (by omega) hy⟩
      case measure => simp [intOf]; omega
    · go_wp2
      go_ret
      exact ⟨.slice (some ⟨w.heap.size, 0, none⟩) n n, rfl, hbl, Ints.made Hn.out hrow fun j x hj => HF.out j x (by omega)⟩
set_option maxHeartbeats 1000000 in
theorem toBoolS_any (v : Value) (l : List Bool) (w : World) (hv : Bools (In w) w v l) (hn : l.length ≤ 1048576) :
    Calls Tryd.prog 57 #[v] w fun e w' => ∃ v', e = .returned v' ∧ Below w.heap.size w w' ∧ Bools (Fresh w w') w' v' l := by
  obtain ⟨a, cap, rfl, hc⟩ := hv
  generalize hn' : l.length = n at *
  have Hn : Hid (l.length = n) := hn'
  have HC := hide hc
  clear hc hn'
  have hmk := run_make_row' (P := Tryd.prog) 38 4 (.bool false) 1 Tryd.underlying38 Tryd.infoBool rfl .i64 .i64 n (by omega) (by omega)
  go_enter Tryd.func57, Tryd.ntmps57
  go_wp2
  go_loopw [4] (fun i wr => ∃ (k : Nat) (f : Nat → Value), k ≤ n ∧ i = .int .i64 k ∧ Below w.heap.size w wr ∧ wr.rowIs w.heap.size 4 n f ∧ (∀ j x, j < k → l[j]? = some x → f j = .bool x)) (fun i _ => n - (intOf i).toNat)
  case atStart => exact ⟨0, _, Nat.zero_le _, rfl, (Below.refl _ _).alloc (Nat.le_refl _) _, World.rowIs_made w _ n _, fun j x hj => by omega⟩
  case round =>
    obtain ⟨k, f, hk, rfl, hbl, hrow, hf⟩ := hrel
    have HF := hide hf
    clear hf hmk
    by_cases hlt : k < n
    · obtain h0 | ⟨b, off, rfl, hb0, hc⟩ := HC.out
      · omega
      obtain ⟨x, hx⟩ := get_some l Hn hlt
      have g0 := hc k hlt x hx
      rw [← hbl.cell (p := ⟨b, _, none⟩) hb0] at g0
      have hcw := hrow.cell hlt
      have hfr := hrow.frozen k
      have Hx := hide hx
      clear hx hc
      go_wp2
      go_roundw
      case rel => exact ⟨k + 1, _, by omega, by go_num, hbl.setCell (Nat.le_refl _) _, hrow.set k _, fun j y hj hy => by
        by_cases e : j = k
        · subst e; rw [Hx.out] at hy; rw [if_pos rfl]; exact Option.some.inj hy ▸ rfl
        · rw [if_neg e]; exact HF.out j y (by omega) hy⟩
      case measure => simp [intOf]; omega
    · go_wp2
      go_ret
      exact ⟨.slice (some ⟨w.heap.size, 0, none⟩) n n, rfl, hbl, Bools.made Hn.out hrow fun j x hj => HF.out j x (by omega)⟩

set_option maxHeartbeats 400000 in
theorem toLie_any (x y : Int) (w : World) :
    Calls Tryd.prog 84 #[.agg #[.int .i64 x, .int .i64 y]] w fun e w' => e = .returned (.agg #[.int .i64 x, .int .i64 y]) ∧ Below w.heap.size w w' := by
  go_enter Tryd.func84, Tryd.ntmps84
  go_wp2
  exact bodyPost_ret (v := .agg #[.int .i64 x, .int .i64 y]) (by simp [results, Tryd.results84, go_sem]) rfl ⟨rfl, ((((Below.refl _ _).alloc (Nat.le_refl _) _).alloc (by simp) _).alloc (by simp; omega) _)⟩

theorem rowIs_keep {w w' : World} {b t n : Nat} {f : Nat → Value} (h : w.rowIs b t n f) (hb : Below w.heap.size w w') : w'.rowIs b t n f := h.of_block (hb.block b h.lt)

set_option maxHeartbeats 1000000 in
theorem toLieS_any (v : Value) (l : List (Int × Int)) (w : World) (hv : Lies (In w) w v l) (hn : l.length ≤ 1048576) :
    Calls Tryd.prog 76 #[v] w fun e w' => ∃ v', e = .returned v' ∧ Below w.heap.size w w' ∧ Lies (Fresh w w') w' v' l := by
  obtain ⟨a, cap, rfl, hc⟩ := hv
  generalize hn' : l.length = n at *
  have Hn : Hid (l.length = n) := hn'
  have HC := hide hc
  clear hc hn'
  have hmk := run_make_cells (P := Tryd.prog) 57 95 _ 2 16 Tryd.underlying57 Tryd.infoLie n (by omega) (by omega)
  go_enter Tryd.func76, Tryd.ntmps76
  go_wp2
  go_loopw [4] (fun i wr => ∃ (k : Nat) (f : Nat → Value), k ≤ n ∧ i = .int .i64 k ∧ Below w.heap.size w wr ∧ wr.rowIs w.heap.size 95 (n * 2) f ∧ (∀ j x, j < k → l[j]? = some x → f (j * 2) = .int .i64 x.1 ∧ f (j * 2 + 1) = .int .i64 x.2)) (fun i _ => n - (intOf i).toNat)
  case atStart => exact ⟨0, _, Nat.zero_le _, rfl, (Below.refl _ _).alloc (Nat.le_refl _) _, rowIs_made_any w _ (n * 2) _, fun j x hj => by omega⟩
  case round =>
    obtain ⟨k, f, hk, rfl, hbl, hrow, hf⟩ := hrel
    have HF := hide hf
    clear hf hmk
    by_cases hlt : k < n
    · obtain h0 | ⟨b, off, rfl, hb0, hc⟩ := HC.out
      · omega
      obtain ⟨x, hx⟩ := get_some l Hn hlt
      obtain ⟨g0, g1⟩ := hc k hlt x hx
      rw [← hbl.cell (p := ⟨b, _, none⟩) hb0] at g0 g1
      have Hx := hide hx
      clear hx hc
      go_wp2_with fail
      refine (toLie_any x.1 x.2 wr).mono ?_
      rintro e w1 ⟨rfl, hb1⟩
      have hbl1 : Below w.heap.size w w1 := hbl.trans (hb1.mono hbl.size)
      have hrow1 := rowIs_keep hrow hb1
      have q0 := hrow1.cell (i := k * 2) (by omega)
      have q1 := hrow1.cell (i := k * 2 + 1) (by omega)
      have r0 := hrow1.frozen (k * 2)
      have r1 := hrow1.frozen (k * 2 + 1)
      clear g0 g1
      go_wp2
      go_roundw
      case rel => exact ⟨k + 1, _, by omega, by go_num, (hbl1.setCell (Nat.le_refl _) _).setCell (Nat.le_refl _) _, (hrow1.set (k * 2) _).set (k * 2 + 1) _, fun j y hj hy => by
        by_cases e : j = k
        · subst e; rw [Hx.out] at hy; cases hy; rw [if_neg (by omega), if_pos rfl, if_pos rfl]; exact ⟨rfl, rfl⟩
        · rw [if_neg (by omega), if_neg (by omega), if_neg (by omega), if_neg (by omega)]; exact HF.out j y (by omega) hy⟩
      case measure => simp [intOf]; omega
    · go_wp2
      go_ret
      exact ⟨.slice (some ⟨w.heap.size, 0, none⟩) n n, rfl, hbl, Lies.made Hn.out hrow fun j x hj => HF.out j x (by omega)⟩
end Go.Proofs.YtdnnblknjmlgeaaDoor

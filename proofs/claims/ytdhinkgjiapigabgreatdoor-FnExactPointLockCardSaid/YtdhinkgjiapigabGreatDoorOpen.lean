import Derived.Test.YtdhinkgjiapigabGreatDoorBase
import Derived.Deep.Slices
import Derived.ChangeArms
import Derived.ChangeSame
import Derived.Lib.SmallJoins
namespace Go.Proofs.YtdhinkgjiapigabGreatDoor
open Go.Deep

section
variable {H : Type} {enc : TypeId × Value → H} {P : Program} {w : World} {base : Nat} {spare : Nat → Bool} {held : Bool}

theorem range_get {α : Type} (f : Nat → α) {n i : Nat} {x : α} (h : ((List.range n).map f)[i]? = some x) : i < n ∧ x = f i := by
  rw [List.getElem?_map] at h
  cases hr : (List.range n)[i]? with
  | none => rw [hr] at h; cases h
  | some j =>
    rw [hr] at h
    have hi := (List.getElem?_eq_some_iff.1 hr).1
    rw [List.length_range] at hi
    rw [List.getElem?_range hi] at hr
    cases hr
    exact ⟨hi, (Option.some.inj h).symm⟩

/-- An address whose cell is there has no spot. -/
theorem addr_of_cell {a : Addr} {v : Value} (h : w.cell? a = some v) : ∃ b off, a = ⟨b, off, none⟩ ∧ b < w.heap.size := by
  obtain ⟨b, off, spot⟩ := a
  have hb : b < w.heap.size := World.block_lt_of_cell? _ _ h
  cases spot with
  | none => exact ⟨b, off, rfl, hb⟩
  | some s =>
    unfold World.cell? at h
    split at h
    · simp at h
    · cases h
theorem add_at (b off i : Nat) : (⟨b, off, none⟩ : Addr).add i = ⟨b, off + i, none⟩ := by
  unfold Addr.add
  split <;> simp_all

/-- A slice of one-cell elements. -/
theorem read1 {α : Type} [Inhabited α] {t e : TypeId} {fuel : Nat} {v : Value} {x : DataW H × List MemPlace} {R : Value → α → Prop} (ht : P.underlying t = some (.slice e)) (hc : P.cellsOf e = 1)
    (h : DataW.trod enc P w base spare held fuel t [v] = some x) (hr : ∀ n u y, DataW.trod enc P w base spare held n e [u] = some y → ∃ z : α, R u z) :
    ∃ l : List α, l.length ≤ 9223372036854775807 ∧ Sl (In w) v l.length fun b off i => ∀ z, l[i]? = some z → ∃ u, R u z ∧ w.cell? ⟨b, off + i, none⟩ = some u := by
  rcases open_slice1 ht hc h with ⟨hcs, -⟩ | ⟨a, len, cap, m, n, V, D, Pl, hcs, -, hl, hm, hmm, -, hx⟩
  · cases hcs
    exact ⟨[], by simp, _, _, rfl, .inl rfl⟩
  · cases hcs
    have hlm : len ≤ m := by rw [hmm]; split <;> omega
    have hz : ∀ i, i < len → ∃ z : α, R (V i) z := fun i hi => hr n (V i) _ (hx i (by omega)).2
    obtain ⟨f, hf⟩ := choose_lt hz
    have hm' : cap ≤ 9223372036854775807 := by unfold maxLen at hm; omega
    refine ⟨(List.range len).map f, by simp; omega, some a, cap, by simp, ?_⟩
    rcases Nat.eq_zero_or_pos len with h0 | h0
    · exact .inl (by simp [h0])
    · obtain ⟨b, off, rfl, hb⟩ := addr_of_cell (by have := (hx 0 (by omega)).1; rwa [show a.add 0 = a from rfl] at this)
      refine .inr ⟨b, off, rfl, hb, fun i _ z hz => ?_⟩
      obtain ⟨hi, rfl⟩ := range_get f hz
      exact ⟨V i, hf i hi, by have := (hx i (by omega)).1; rwa [add_at] at this⟩

theorem read_ints {t e : TypeId} {fuel : Nat} {v : Value} {x : DataW H × List MemPlace} (ht : P.underlying t = some (.slice e)) (he : P.underlying e = some (.int .i64)) (hc : P.cellsOf e = 1)
    (h : DataW.trod enc P w base spare held fuel t [v] = some x) : ∃ l, l.length ≤ 9223372036854775807 ∧ Ints (In w) w v l := by
  obtain ⟨l, hl, hs⟩ := read1 (R := fun u (z : Int) => u = .int .i64 z) ht hc h fun n u y hy => by
    obtain ⟨z, hz, -⟩ := DataW.trod_int he hy
    cases hz
    exact ⟨z, rfl⟩
  exact ⟨l, hl, Sl.imp hs (fun _ h => h) fun b off i _ _ hE z hz => by obtain ⟨u, rfl, hu⟩ := hE z hz; exact hu⟩
theorem read_bools {t e : TypeId} {fuel : Nat} {v : Value} {x : DataW H × List MemPlace} (ht : P.underlying t = some (.slice e)) (he : P.underlying e = some .bool) (hc : P.cellsOf e = 1)
    (h : DataW.trod enc P w base spare held fuel t [v] = some x) : ∃ l, l.length ≤ 9223372036854775807 ∧ Bools (In w) w v l := by
  obtain ⟨l, hl, hs⟩ := read1 (R := fun u (z : Bool) => u = .bool z) ht hc h fun n u y hy => by
    obtain ⟨z, hz, -⟩ := DataW.trod_bool he hy
    cases hz
    exact ⟨z, rfl⟩
  exact ⟨l, hl, Sl.imp hs (fun _ h => h) fun b off i _ _ hE z hz => by obtain ⟨u, rfl, hu⟩ := hE z hz; exact hu⟩
theorem read_rows {t e g : TypeId} {fuel : Nat} {v : Value} {x : DataW H × List MemPlace} (ht : P.underlying t = some (.slice e)) (he : P.underlying e = some (.slice g)) (hg : P.underlying g = some .bool) (hc : P.cellsOf e = 1) (hcg : P.cellsOf g = 1)
    (h : DataW.trod enc P w base spare held fuel t [v] = some x) : ∃ l, l.length ≤ 9223372036854775807 ∧ (∀ r ∈ l, r.length ≤ 9223372036854775807) ∧ Rows2 (In w) w v l := by
  obtain ⟨l, hl, hs⟩ := read1 (R := fun u (z : List Bool) => z.length ≤ 9223372036854775807 ∧ Bools (In w) w u z) ht hc h fun n u y hy => read_bools he hg hcg hy
  refine ⟨l, hl, fun r hr => ?_, Sl.imp hs (fun _ h => h) fun b off i _ _ hE z hz => ?_⟩
  · obtain ⟨i, hi⟩ := List.getElem?_of_mem hr
    obtain ⟨a, cap, -, h0 | ⟨b, off, -, -, hE⟩⟩ := hs
    · rw [List.length_eq_zero_iff.1 h0] at hr; cases hr
    · obtain ⟨u, hu, -⟩ := hE i (List.getElem?_eq_some_iff.1 hi).1 r hi
      exact hu.1
  · obtain ⟨u, hu, hcu⟩ := hE z hz
    exact ⟨u, hu.2, hcu⟩

/-- A slice of elements of k cells. -/
theorem readk {α : Type} [Inhabited α] {t e : TypeId} {k fuel : Nat} {v : Value} {x : DataW H × List MemPlace} {R : List Value → α → Prop} (ht : P.underlying t = some (.slice e)) (hc : P.cellsOf e = k) (hk : 0 < k)
    (h : DataW.trod enc P w base spare held fuel t [v] = some x) (hr : ∀ n cs y, cs.length = k → DataW.trod enc P w base spare held n e cs = some y → ∃ z : α, R cs z) :
    ∃ l : List α, l.length ≤ 9223372036854775807 ∧ Sl (In w) v l.length fun b off i => ∀ z, l[i]? = some z → ∃ cs, cs.length = k ∧ R cs z ∧ ∀ j, j < k → w.cell? ⟨b, off + i * k + j, none⟩ = cs[j]? := by
  rcases open_slice ht h with ⟨hcs, -⟩ | ⟨a, len, cap, m, n, D, Pl, hcs, -, hl, hm, hmm, -, hx⟩
  · cases hcs
    exact ⟨[], by simp, _, _, rfl, .inl rfl⟩
  · cases hcs
    rw [hc] at hx
    have hlm : len ≤ m := by rw [hmm]; split <;> omega
    have hz : ∀ i, i < len → ∃ z : α, ∃ cs, cs.length = k ∧ R cs z ∧ ∀ j, j < k → w.cell? ((a.add (i * k)).add j) = cs[j]? := fun i hi => by
      obtain ⟨cs', h1, h2⟩ := hx i (by omega)
      obtain ⟨-, h3, h4⟩ := World.cells?_some h1
      obtain ⟨z, hz⟩ := hr n cs' _ h3 h2
      exact ⟨z, cs', h3, hz, h4⟩
    obtain ⟨f, hf⟩ := choose_lt hz
    have hm' : cap ≤ 9223372036854775807 := by unfold maxLen at hm; omega
    refine ⟨(List.range len).map f, by simp; omega, some a, cap, by simp, ?_⟩
    rcases Nat.eq_zero_or_pos len with h0 | h0
    · exact .inl (by simp [h0])
    · obtain ⟨cs, hcl, -, h4⟩ := hf 0 h0
      have hcell := h4 0 hk
      rw [Nat.zero_mul, show (a.add 0).add 0 = a from rfl, List.getElem?_eq_getElem (by omega)] at hcell
      obtain ⟨b, off, rfl, hb⟩ := addr_of_cell hcell
      refine .inr ⟨b, off, rfl, hb, fun i _ z hz => ?_⟩
      obtain ⟨hi, rfl⟩ := range_get f hz
      obtain ⟨cs, h1, h2, h3⟩ := hf i hi
      exact ⟨cs, h1, h2, fun j hj => by have := h3 j hj; rwa [add_at, add_at] at this⟩

theorem list2 {l : List Value} (h : l.length = 2) : ∃ a b, l = [a, b] := by
  match l, h with
  | [a, b], _ => exact ⟨a, b, rfl⟩
theorem list5 {l : List Value} (h : l.length = 5) : ∃ a b c d e, l = [a, b, c, d, e] := by
  match l, h with
  | [a, b, c, d, e], _ => exact ⟨a, b, c, d, e, rfl⟩

/-- A struct of two one-cell fields. -/
theorem fields2 {t : TypeId} {f0 f1 : Field} {fuel : Nat} {a b : Value} {x : DataW H × List MemPlace} (ht : P.underlying t = some (.struct #[f0, f1])) (h : DataW.trod enc P w base spare held fuel t [a, b] = some x)
    (ho : f0.offset = 0 ∧ f1.offset = 1) (hc : P.cellsOf f0.type = 1 ∧ P.cellsOf f1.type = 1) :
    ∃ n y0 y1, DataW.trod enc P w base spare held n f0.type [a] = some y0 ∧ DataW.trod enc P w base spare held n f1.type [b] = some y1 := by
  obtain ⟨xs, n, -, -, -, hlen, hf⟩ := DataW.trod_struct ht h
  have h0 := hf 0 f0 rfl
  have h1 := hf 1 f1 rfl
  rw [ho.1, hc.1] at h0
  rw [ho.2, hc.2] at h1
  rw [List.getElem?_eq_getElem (by rw [hlen]; show 0 < 2; omega)] at h0
  rw [List.getElem?_eq_getElem (by rw [hlen]; show 1 < 2; omega)] at h1
  exact ⟨n, _, _, h0, h1⟩
theorem fields5 {t : TypeId} {f0 f1 f2 f3 f4 : Field} {fuel : Nat} {a b c d e : Value} {x : DataW H × List MemPlace} (ht : P.underlying t = some (.struct #[f0, f1, f2, f3, f4])) (h : DataW.trod enc P w base spare held fuel t [a, b, c, d, e] = some x)
    (ho : f0.offset = 0 ∧ f1.offset = 1 ∧ f2.offset = 2 ∧ f3.offset = 3 ∧ f4.offset = 4) (hc : P.cellsOf f0.type = 1 ∧ P.cellsOf f1.type = 1 ∧ P.cellsOf f2.type = 1 ∧ P.cellsOf f3.type = 1 ∧ P.cellsOf f4.type = 1) :
    ∃ n y0 y1 y2 y3 y4, DataW.trod enc P w base spare held n f0.type [a] = some y0 ∧ DataW.trod enc P w base spare held n f1.type [b] = some y1 ∧ DataW.trod enc P w base spare held n f2.type [c] = some y2 ∧ DataW.trod enc P w base spare held n f3.type [d] = some y3 ∧ DataW.trod enc P w base spare held n f4.type [e] = some y4 := by
  obtain ⟨xs, n, -, -, -, hlen, hf⟩ := DataW.trod_struct ht h
  have h0 := hf 0 f0 rfl
  have h1 := hf 1 f1 rfl
  have h2 := hf 2 f2 rfl
  have h3 := hf 3 f3 rfl
  have h4 := hf 4 f4 rfl
  rw [ho.1, hc.1] at h0
  rw [ho.2.1, hc.2.1] at h1
  rw [ho.2.2.1, hc.2.2.1] at h2
  rw [ho.2.2.2.1, hc.2.2.2.1] at h3
  rw [ho.2.2.2.2, hc.2.2.2.2] at h4
  have hl : xs.length = 5 := hlen
  rw [List.getElem?_eq_getElem (by omega)] at h0 h1 h2 h3 h4
  exact ⟨n, _, _, _, _, _, h0, h1, h2, h3, h4⟩
end
end Go.Proofs.YtdhinkgjiapigabGreatDoor

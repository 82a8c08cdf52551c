import Derived.Test.YtdnnblknjmlgeaaDoorMath
namespace Go.Proofs.YtdnnblknjmlgeaaDoor

theorem fault1 {b : Nat → Prop} {d : PlanD} (h : Bad1 d) : FaultBy b d 1 0 := .inl ⟨h, rfl, rfl⟩
theorem fault2 {b : Nat → Prop} {d : PlanD} {k : Nat} (h1 : ¬ Bad1 d) (h : First (Bad2 d) k) : FaultBy b d 2 k := .inr ⟨h1, .inl ⟨k, h, rfl, rfl⟩⟩
theorem fault3 {b : Nat → Prop} {d : PlanD} {k : Nat} (h1 : ¬ Bad1 d) (h2 : ∀ k, ¬ Bad2 d k) (h : First (Bad3 d) k) : FaultBy b d 3 k := .inr ⟨h1, .inr ⟨h2, .inl ⟨k, h, rfl, rfl⟩⟩⟩
theorem fault4a {b : Nat → Prop} {d : PlanD} (h1 : ¬ Bad1 d) (h2 : ∀ k, ¬ Bad2 d k) (h3 : ∀ k, ¬ Bad3 d k) (h : d.bars.length ≠ d.ways.length) : FaultBy b d 4 0 :=
  .inr ⟨h1, .inr ⟨h2, .inr ⟨h3, .inl ⟨h, rfl, rfl⟩⟩⟩⟩
theorem fault4b {b : Nat → Prop} {d : PlanD} {k : Nat} (h1 : ¬ Bad1 d) (h2 : ∀ k, ¬ Bad2 d k) (h3 : ∀ k, ¬ Bad3 d k) (h4 : d.bars.length = d.ways.length) (h : First (Bad4 d) k) : FaultBy b d 4 k :=
  .inr ⟨h1, .inr ⟨h2, .inr ⟨h3, .inr ⟨fun e => e h4, .inl ⟨k, h, rfl, rfl⟩⟩⟩⟩⟩
theorem fault5of {b : Nat → Prop} {d : PlanD} {k : Nat} (h1 : ¬ Bad1 d) (h2 : ∀ k, ¬ Bad2 d k) (h3 : ∀ k, ¬ Bad3 d k) (h4 : d.bars.length = d.ways.length) (h5 : ∀ k, ¬ Bad4 d k) (h : First b k) : FaultBy b d 5 k :=
  .inr ⟨h1, .inr ⟨h2, .inr ⟨h3, .inr ⟨fun e => e h4, .inr ⟨h5, .inl ⟨k, h, rfl, rfl⟩⟩⟩⟩⟩⟩
theorem fault0 {b : Nat → Prop} {d : PlanD} (h1 : ¬ Bad1 d) (h2 : ∀ k, ¬ Bad2 d k) (h3 : ∀ k, ¬ Bad3 d k) (h4 : d.bars.length = d.ways.length) (h5 : ∀ k, ¬ Bad4 d k) (h : ∀ k, ¬ b k) : FaultBy b d 0 0 :=
  .inr ⟨h1, .inr ⟨h2, .inr ⟨h3, .inr ⟨fun e => e h4, .inr ⟨h5, .inr ⟨h, rfl, rfl⟩⟩⟩⟩⟩⟩

/-- One index more without a fault. -/
theorem no_snoc {bad : Nat → Prop} {k : Nat} (h : ∀ j, j < k → ¬ bad j) (hk : ¬ bad k) : ∀ j, j < k + 1 → ¬ bad j := by
  intro j hj
  by_cases e : j = k
  · exact e ▸ hk
  · exact h j (by omega)
theorem no2 {d : PlanD} {k : Nat} (h : ∀ j, j < k → ¬ Bad2 d j) (hk : d.switches.length ≤ k) : ∀ j, ¬ Bad2 d j := by
  intro j hb
  have hb2 := hb
  obtain ⟨s, hs, _⟩ := hb2
  exact h j (by have := (List.getElem?_eq_some_iff.1 hs).1; omega) hb
theorem no3 {d : PlanD} {k : Nat} (h : ∀ j, j < k → ¬ Bad3 d j) (hk : d.ways.length ≤ k) : ∀ j, ¬ Bad3 d j := by
  intro j hb
  have hb2 := hb
  obtain ⟨s, hs, _⟩ := hb2
  exact h j (by have := (List.getElem?_eq_some_iff.1 hs).1; omega) hb
theorem no4 {d : PlanD} {k : Nat} (h : ∀ j, j < k → ¬ Bad4 d j) (hk : d.bars.length ≤ k) : ∀ j, ¬ Bad4 d j := by
  intro j hb
  have hb2 := hb
  obtain ⟨s, hs, _⟩ := hb2
  exact h j (by have := (List.getElem?_eq_some_iff.1 hs).1; omega) hb
theorem bad2_iff {d : PlanD} {k : Nat} {s : Int} (h : d.switches[k]? = some s) : Bad2 d k ↔ ¬ InR s 0 (d.sections - 1) :=
  ⟨fun ⟨t, ht, hn⟩ => by rw [h] at ht; cases ht; exact hn, fun hn => ⟨s, h, hn⟩⟩
theorem bad3_iff {d : PlanD} {k : Nat} {x : WayD} (h : d.ways[k]? = some x) : Bad3 d k ↔ ¬ WayOk d.sections d.switches x :=
  ⟨fun ⟨t, ht, hn⟩ => by rw [h] at ht; cases ht; exact hn, fun hn => ⟨x, h, hn⟩⟩
theorem bad4_iff {d : PlanD} {k : Nat} {x : List Bool} (h : d.bars[k]? = some x) : Bad4 d k ↔ x.length ≠ d.ways.length :=
  ⟨fun ⟨t, ht, hn⟩ => by rw [h] at ht; cases ht; exact hn, fun hn => ⟨x, h, hn⟩⟩
theorem bar_of {d : PlanD} {i k : Nat} {r : List Bool} {x : Bool} (h : d.bars[i]? = some r) (hx : r[k]? = some x) : d.bar i k = some x := by
  unfold PlanD.bar; rw [h]; exact hx
/-- What the code asks of a pair is the pair's fault. -/
theorem pair_iff {d : PlanD} {i k : Nat} {x y : Bool} {v z : WayD} (hx : d.bar i k = some x) (hy : d.bar k i = some y) (hv : d.ways[i]? = some v) (hz : d.ways[k]? = some z) :
    Pair d i k ↔ (x ≠ y ∨ (i ≠ k ∧ x = false ∧ Meet v.sections z.sections)) := by
  unfold Pair
  rw [hx, hy]
  constructor
  · rintro (h | ⟨h1, h2, v', z', h3, h4, h5⟩)
    · exact .inl fun e => h (by rw [e])
    · rw [hv] at h3; rw [hz] at h4; cases h3; cases h4
      exact .inr ⟨h1, by simpa using h2, h5⟩
  · rintro (h | ⟨h1, h2, h3⟩)
    · exact .inl fun e => h (by simpa using e)
    · exact .inr ⟨h1, by rw [h2], v, z, hv, hz, h3⟩
end Go.Proofs.YtdnnblknjmlgeaaDoor

import Derived.Test.YtdnnblknjmlgeaaDoorTo2
namespace Go.Proofs.YtdnnblknjmlgeaaDoor
open Go.RowKit Go.Deep

theorem rowIs_new (u : World) (t : TypeId) (c : Array Value) : (u.alloc (.cells c t)).rowIs u.heap.size t c.size (fun i => c[i]!) :=
  World.rowIs_alloc u c t _ fun i hi => by rw [getElem!_pos _ i hi]; exact Array.getElem?_eq_getElem hi
def five (b0 b1 b2 b3 b4 : Value) : Nat → Value := fun i => (#[b0, b1, b2, b3, b4] : Array Value)[i]!

/-- The box of one parameter of five cells. -/
structure Bx1 (w : World) (t : TypeId) (f : Nat → Value) (W : World) : Prop where
  below : Below w.heap.size w W
  one : W.rowIs w.heap.size t 5 f
theorem Bx1.call {w : World} {t : TypeId} {f : Nat → Value} {W W' : World} (h : Bx1 w t f W) (hb : Below W.heap.size W W') : Bx1 w t f W' :=
  ⟨h.below.trans (hb.mono h.below.size), rowIs_keep h.one hb⟩
theorem Bx1.start (w : World) (t : TypeId) (b0 b1 b2 b3 b4 : Value) : Bx1 w t (five b0 b1 b2 b3 b4) (w.alloc (.cells #[b0, b1, b2, b3, b4] t)) :=
  ⟨(Below.refl _ _).alloc (Nat.le_refl _) _, rowIs_new _ _ _⟩
theorem Bx1.cells {w : World} {t : TypeId} {b0 b1 b2 b3 b4 : Value} {W : World} (h : Bx1 w t (five b0 b1 b2 b3 b4) W) :
    W.cell? ⟨w.heap.size, 0, none⟩ = some b0 ∧ W.cell? ⟨w.heap.size, 1, none⟩ = some b1 ∧ W.cell? ⟨w.heap.size, 2, none⟩ = some b2 ∧ W.cell? ⟨w.heap.size, 3, none⟩ = some b3 ∧ W.cell? ⟨w.heap.size, 4, none⟩ = some b4 :=
  ⟨by simpa [five] using h.one.cell (i := 0) (by omega), by simpa [five] using h.one.cell (i := 1) (by omega), by simpa [five] using h.one.cell (i := 2) (by omega), by simpa [five] using h.one.cell (i := 3) (by omega), by simpa [five] using h.one.cell (i := 4) (by omega)⟩

/-- The boxes of two parameters of five cells. -/
structure Bx2 (w : World) (t u : TypeId) (f g : Nat → Value) (W : World) : Prop where
  below : Below w.heap.size w W
  one : W.rowIs w.heap.size t 5 f
  two : W.rowIs (w.heap.size + 1) u 5 g
theorem Bx2.call {w : World} {t u : TypeId} {f g : Nat → Value} {W W' : World} (h : Bx2 w t u f g W) (hb : Below W.heap.size W W') : Bx2 w t u f g W' :=
  ⟨h.below.trans (hb.mono h.below.size), rowIs_keep h.one hb, rowIs_keep h.two hb⟩
theorem Bx2.start (w : World) (t u : TypeId) (b0 b1 b2 b3 b4 z0 z1 z2 z3 z4 : Value) :
    Bx2 w t u (five b0 b1 b2 b3 b4) (five z0 z1 z2 z3 z4) ((w.alloc (.cells #[b0, b1, b2, b3, b4] t)).alloc (.cells #[z0, z1, z2, z3, z4] u)) := by
  refine ⟨(((Below.refl _ _).alloc (Nat.le_refl _) _).alloc (by simp) _), (rowIs_new _ _ _).alloc _, ?_⟩
  have := rowIs_new (w.alloc (.cells #[b0, b1, b2, b3, b4] t)) u #[z0, z1, z2, z3, z4]
  rw [show (w.alloc (.cells #[b0, b1, b2, b3, b4] t)).heap.size = w.heap.size + 1 by simp] at this
  exact this
theorem Bx2.cells {w : World} {t u : TypeId} {b0 b1 b2 b3 b4 z0 z1 z2 z3 z4 : Value} {W : World} (h : Bx2 w t u (five b0 b1 b2 b3 b4) (five z0 z1 z2 z3 z4) W) :
    (W.cell? ⟨w.heap.size, 0, none⟩ = some b0 ∧ W.cell? ⟨w.heap.size, 1, none⟩ = some b1 ∧ W.cell? ⟨w.heap.size, 2, none⟩ = some b2 ∧ W.cell? ⟨w.heap.size, 3, none⟩ = some b3 ∧ W.cell? ⟨w.heap.size, 4, none⟩ = some b4) ∧
    (W.cell? ⟨w.heap.size + 1, 0, none⟩ = some z0 ∧ W.cell? ⟨w.heap.size + 1, 1, none⟩ = some z1 ∧ W.cell? ⟨w.heap.size + 1, 2, none⟩ = some z2 ∧ W.cell? ⟨w.heap.size + 1, 3, none⟩ = some z3 ∧ W.cell? ⟨w.heap.size + 1, 4, none⟩ = some z4) :=
  ⟨⟨by simpa [five] using h.one.cell (i := 0) (by omega), by simpa [five] using h.one.cell (i := 1) (by omega), by simpa [five] using h.one.cell (i := 2) (by omega), by simpa [five] using h.one.cell (i := 3) (by omega), by simpa [five] using h.one.cell (i := 4) (by omega)⟩,
   ⟨by simpa [five] using h.two.cell (i := 0) (by omega), by simpa [five] using h.two.cell (i := 1) (by omega), by simpa [five] using h.two.cell (i := 2) (by omega), by simpa [five] using h.two.cell (i := 3) (by omega), by simpa [five] using h.two.cell (i := 4) (by omega)⟩⟩
theorem below_new (w : World) (o : Obj) : Below w.heap.size w (w.alloc o) := (Below.refl _ _).alloc (Nat.le_refl _) _
theorem below_drew (w : World) : Below w.heap.size w w.drew := (Below.refl _ _).drew
end Go.Proofs.YtdnnblknjmlgeaaDoor

import Derived.Test.YtdnnblknjmlgeaaDoorData
import Derived.Deep.OwnRows
namespace Go.Proofs.YtdnnblknjmlgeaaDoor
open Go.RowKit Go.Deep

/-- How a way stands, and how all stands, as plain data. -/
structure HeldD where
  state : Int
  gone : Int
  been : List Bool
  shown : Bool
  timer : Int
structure FrameD where
  ok : Bool
  occ : List Bool
  points : List (Int × Int)
  ways : List HeldD

def Helds (P : Nat → Prop) (w : World) (v : Value) (l : List HeldD) : Prop :=
  Sl P v l.length fun b off i => ∀ x, l[i]? = some x → ∃ v2, Bools P w v2 x.been ∧
    w.cell? ⟨b, off + i * 5, none⟩ = some (.int .i64 x.state) ∧ w.cell? ⟨b, off + i * 5 + 1, none⟩ = some (.int .i64 x.gone) ∧ w.cell? ⟨b, off + i * 5 + 2, none⟩ = some v2 ∧
    w.cell? ⟨b, off + i * 5 + 3, none⟩ = some (.bool x.shown) ∧ w.cell? ⟨b, off + i * 5 + 4, none⟩ = some (.int .i64 x.timer)
def FrameAt (P : Nat → Prop) (w : World) (v1 v2 v3 : Value) (d : FrameD) : Prop :=
  Bools P w v1 d.occ ∧ Lies P w v2 d.points ∧ Helds P w v3 d.ways
theorem Helds.keep {P Q : Nat → Prop} {w w' : World} {v : Value} {l : List HeldD} (h : Helds P w v l) (hs : Same P w w') (hP : ∀ b, P b → Q b) : Helds Q w' v l :=
  Sl.imp h hP fun b off i hb _ he x hx => by
    obtain ⟨v2, hw, hc⟩ := he x hx
    refine ⟨v2, hw.keep hs hP, ?_⟩
    rw [hs b hb, hs b hb, hs b hb, hs b hb, hs b hb]; exact hc
theorem FrameAt.keep {P Q : Nat → Prop} {w w' : World} {v1 v2 v3 : Value} {d : FrameD} (h : FrameAt P w v1 v2 v3 d) (hs : Same P w w') (hP : ∀ b, P b → Q b) : FrameAt Q w' v1 v2 v3 d :=
  ⟨h.1.keep hs hP, h.2.1.keep hs hP, h.2.2.keep hs hP⟩
def FrameD.Small (n : Nat) (d : FrameD) : Prop := d.occ.length ≤ n ∧ d.points.length ≤ n ∧ d.ways.length ≤ n ∧ ∀ x ∈ d.ways, x.been.length ≤ n

/-- Boxes of a call: block w.heap.size + j holds the cells c. -/
structure Boxes (w : World) (bs : List (TypeId × Array Value)) (W : World) : Prop where
  below : Below w.heap.size w W
  row : ∀ j t c, bs[j]? = some (t, c) → W.rowIs (w.heap.size + j) t c.size (fun i => c[i]!)
theorem rowIs_calls {w w' : World} {b t n : Nat} {f : Nat → Value} (h : w.rowIs b t n f) (hb : Below w.heap.size w w') : w'.rowIs b t n f := h.of_block (hb.block b h.lt)
theorem Boxes.call {w : World} {bs : List (TypeId × Array Value)} {W W' : World} (h : Boxes w bs W) (hb : Below W.heap.size W W') : Boxes w bs W' :=
  ⟨h.below.trans (hb.mono h.below.size), fun j t c hj => rowIs_calls (h.row j t c hj) hb⟩
theorem Boxes.cell {w : World} {bs : List (TypeId × Array Value)} {W : World} (h : Boxes w bs W) {j i : Nat} {t : TypeId} {c : Array Value} {v : Value} (hj : bs[j]? = some (t, c)) (hi : c[i]? = some v) : W.cell? ⟨w.heap.size + j, i, none⟩ = some v := by
  have hl : i < c.size := by
    rcases Nat.lt_or_ge i c.size with e | e
    · exact e
    · rw [Array.getElem?_eq_none e] at hi; cases hi
  rw [(h.row j t c hj).cell hl, getElem!_pos _ i hl]
  rw [Array.getElem?_eq_getElem hl] at hi
  exact hi
theorem Boxes.frozen {w : World} {bs : List (TypeId × Array Value)} {W : World} (h : Boxes w bs W) {j : Nat} (i : Nat) {t : TypeId} {c : Array Value} (hj : bs[j]? = some (t, c)) : W.frozen? ⟨w.heap.size + j, i, none⟩ = false :=
  (h.row j t c hj).frozen i
theorem Boxes.lt {w : World} {bs : List (TypeId × Array Value)} {W : World} (h : Boxes w bs W) {j : Nat} {t : TypeId} {c : Array Value} (hj : bs[j]? = some (t, c)) : w.heap.size + j < W.heap.size := (h.row j t c hj).lt
theorem Boxes.none (w : World) : Boxes w [] w := ⟨Below.refl _ _, fun j t c hj => by simp at hj⟩
/-- One box more, laid next. -/
theorem Boxes.snoc {w : World} {bs : List (TypeId × Array Value)} {W : World} (h : Boxes w bs W) (hz : W.heap.size = w.heap.size + bs.length) (t : TypeId) (c : Array Value) : Boxes w (bs ++ [(t, c)]) (W.alloc (.cells c t)) := by
  refine ⟨h.below.alloc h.below.size _, fun j t' c' hj => ?_⟩
  by_cases e : j < bs.length
  · rw [List.getElem?_append_left e] at hj
    exact (h.row j t' c' hj).alloc _
  · rw [List.getElem?_append_right (by omega)] at hj
    have e0 : j - bs.length = 0 := by
      rcases Nat.eq_zero_or_pos (j - bs.length) with q | q
      · exact q
      · rw [List.getElem?_eq_none (by simp; omega)] at hj; cases hj
    rw [e0] at hj
    cases hj
    have ej : w.heap.size + j = W.heap.size := by omega
    rw [ej]
    exact World.rowIs_alloc W c t _ fun i hi => by rw [getElem!_pos _ i hi]; exact Array.getElem?_eq_getElem hi
theorem boxes1 (w : World) (t0 : TypeId) (c0 : Array Value) : Boxes w [(t0, c0)] (w.alloc (.cells c0 t0)) := (Boxes.none w).snoc (by simp) t0 c0
theorem boxes2 (w : World) (t0 t1 : TypeId) (c0 c1 : Array Value) : Boxes w [(t0, c0), (t1, c1)] ((w.alloc (.cells c0 t0)).alloc (.cells c1 t1)) := (boxes1 w t0 c0).snoc (by simp) t1 c1
theorem boxes3 (w : World) (t0 t1 t2 : TypeId) (c0 c1 c2 : Array Value) : Boxes w [(t0, c0), (t1, c1), (t2, c2)] (((w.alloc (.cells c0 t0)).alloc (.cells c1 t1)).alloc (.cells c2 t2)) := (boxes2 w t0 t1 c0 c1).snoc (by simp) t2 c2
end Go.Proofs.YtdnnblknjmlgeaaDoor

import Derived.WalkKit
import Derived.WalkSpells
import Derived.WalkLawsBesides
namespace Go.Proofs.YtdnnblknjmlgeaaDoor
open Go.RowKit

/-- A way and a plan as plain data. -/
structure WayD where
  sections : List Int
  lies : List (Int × Int)
  flanks : List (Int × Int)
  over : List Int
  near : List Int
structure PlanD where
  sections : Int
  switches : List Int
  ways : List WayD
  bars : List (List Bool)
  hold : Int

/-- A slice value of n elements whose array lies in a block that P allows; E b off i: what is known of element i. -/
def Sl (P : Nat → Prop) (v : Value) (n : Nat) (E : Nat → Nat → Nat → Prop) : Prop :=
  ∃ a cap, v = .slice a n cap ∧ (n = 0 ∨ ∃ b off, a = some ⟨b, off, none⟩ ∧ P b ∧ ∀ i, i < n → E b off i)

theorem Sl.imp {P Q : Nat → Prop} {v : Value} {n : Nat} {E F : Nat → Nat → Nat → Prop} (h : Sl P v n E) (hP : ∀ b, P b → Q b) (hE : ∀ b off i, P b → i < n → E b off i → F b off i) : Sl Q v n F := by
  obtain ⟨a, cap, hv, h0 | ⟨b, off, ha, hb, he⟩⟩ := h
  · exact ⟨a, cap, hv, .inl h0⟩
  · exact ⟨a, cap, hv, .inr ⟨b, off, ha, hP b hb, fun i hi => hE b off i hb hi (he i hi)⟩⟩

def Ints (P : Nat → Prop) (w : World) (v : Value) (l : List Int) : Prop :=
  Sl P v l.length fun b off i => ∀ x, l[i]? = some x → w.cell? ⟨b, off + i, none⟩ = some (.int .i64 x)
def Bools (P : Nat → Prop) (w : World) (v : Value) (l : List Bool) : Prop :=
  Sl P v l.length fun b off i => ∀ x, l[i]? = some x → w.cell? ⟨b, off + i, none⟩ = some (.bool x)
def Lies (P : Nat → Prop) (w : World) (v : Value) (l : List (Int × Int)) : Prop :=
  Sl P v l.length fun b off i => ∀ x, l[i]? = some x → w.cell? ⟨b, off + i * 2, none⟩ = some (.int .i64 x.1) ∧ w.cell? ⟨b, off + i * 2 + 1, none⟩ = some (.int .i64 x.2)
def WayAt (P : Nat → Prop) (w : World) (v0 v1 v2 v3 v4 : Value) (d : WayD) : Prop :=
  Ints P w v0 d.sections ∧ Lies P w v1 d.lies ∧ Lies P w v2 d.flanks ∧ Ints P w v3 d.over ∧ Ints P w v4 d.near
def Ways (P : Nat → Prop) (w : World) (v : Value) (l : List WayD) : Prop :=
  Sl P v l.length fun b off i => ∀ x, l[i]? = some x → ∃ v0 v1 v2 v3 v4, WayAt P w v0 v1 v2 v3 v4 x ∧
    w.cell? ⟨b, off + i * 5, none⟩ = some v0 ∧ w.cell? ⟨b, off + i * 5 + 1, none⟩ = some v1 ∧ w.cell? ⟨b, off + i * 5 + 2, none⟩ = some v2 ∧
    w.cell? ⟨b, off + i * 5 + 3, none⟩ = some v3 ∧ w.cell? ⟨b, off + i * 5 + 4, none⟩ = some v4
def Rows2 (P : Nat → Prop) (w : World) (v : Value) (l : List (List Bool)) : Prop :=
  Sl P v l.length fun b off i => ∀ x, l[i]? = some x → ∃ v0, Bools P w v0 x ∧ w.cell? ⟨b, off + i, none⟩ = some v0
def PlanAt (P : Nat → Prop) (w : World) (v1 v2 v3 : Value) (d : PlanD) : Prop :=
  Ints P w v1 d.switches ∧ Ways P w v2 d.ways ∧ Rows2 P w v3 d.bars

/-- All cells of the blocks that P allows read in w' as in w. -/
def Same (P : Nat → Prop) (w w' : World) : Prop := ∀ b, P b → ∀ o, w'.cell? ⟨b, o, none⟩ = w.cell? ⟨b, o, none⟩

theorem Ints.keep {P Q : Nat → Prop} {w w' : World} {v : Value} {l : List Int} (h : Ints P w v l) (hs : Same P w w') (hP : ∀ b, P b → Q b) : Ints Q w' v l :=
  Sl.imp h hP fun b off i hb _ he x hx => by rw [hs b hb]; exact he x hx
theorem Bools.keep {P Q : Nat → Prop} {w w' : World} {v : Value} {l : List Bool} (h : Bools P w v l) (hs : Same P w w') (hP : ∀ b, P b → Q b) : Bools Q w' v l :=
  Sl.imp h hP fun b off i hb _ he x hx => by rw [hs b hb]; exact he x hx
theorem Lies.keep {P Q : Nat → Prop} {w w' : World} {v : Value} {l : List (Int × Int)} (h : Lies P w v l) (hs : Same P w w') (hP : ∀ b, P b → Q b) : Lies Q w' v l :=
  Sl.imp h hP fun b off i hb _ he x hx => by rw [hs b hb, hs b hb]; exact he x hx
theorem WayAt.keep {P Q : Nat → Prop} {w w' : World} {v0 v1 v2 v3 v4 : Value} {d : WayD} (h : WayAt P w v0 v1 v2 v3 v4 d) (hs : Same P w w') (hP : ∀ b, P b → Q b) : WayAt Q w' v0 v1 v2 v3 v4 d :=
  ⟨h.1.keep hs hP, h.2.1.keep hs hP, h.2.2.1.keep hs hP, h.2.2.2.1.keep hs hP, h.2.2.2.2.keep hs hP⟩
theorem Ways.keep {P Q : Nat → Prop} {w w' : World} {v : Value} {l : List WayD} (h : Ways P w v l) (hs : Same P w w') (hP : ∀ b, P b → Q b) : Ways Q w' v l :=
  Sl.imp h hP fun b off i hb _ he x hx => by
    obtain ⟨v0, v1, v2, v3, v4, hw, hc⟩ := he x hx
    refine ⟨v0, v1, v2, v3, v4, hw.keep hs hP, ?_⟩
    rw [hs b hb, hs b hb, hs b hb, hs b hb, hs b hb]; exact hc
theorem Rows2.keep {P Q : Nat → Prop} {w w' : World} {v : Value} {l : List (List Bool)} (h : Rows2 P w v l) (hs : Same P w w') (hP : ∀ b, P b → Q b) : Rows2 Q w' v l :=
  Sl.imp h hP fun b off i hb _ he x hx => by
    obtain ⟨v0, hw, hc⟩ := he x hx
    refine ⟨v0, hw.keep hs hP, ?_⟩
    rw [hs b hb]; exact hc
theorem PlanAt.keep {P Q : Nat → Prop} {w w' : World} {v1 v2 v3 : Value} {d : PlanD} (h : PlanAt P w v1 v2 v3 d) (hs : Same P w w') (hP : ∀ b, P b → Q b) : PlanAt Q w' v1 v2 v3 d :=
  ⟨h.1.keep hs hP, h.2.1.keep hs hP, h.2.2.keep hs hP⟩

theorem same_below {B : Nat} {w w' : World} (h : Below B w w') {P : Nat → Prop} (hP : ∀ b, P b → b < B) : Same P w w' :=
  fun b hb o => h.cell (p := ⟨b, o, none⟩) (hP b hb)
theorem same_refl (P : Nat → Prop) (w : World) : Same P w w := fun _ _ _ => rfl
theorem Same.trans {P : Nat → Prop} {a b c : World} (h : Same P a b) (k : Same P b c) : Same P a c := fun x hx o => (k x hx o).trans (h x hx o)

/-- Blocks that are there. -/
def In (w : World) (b : Nat) : Prop := b < w.heap.size
/-- Blocks that came between two worlds. -/
def New (w w' : World) (b : Nat) : Prop := w.heap.size ≤ b ∧ b < w'.heap.size

/-- Nothing of the block is frozen. -/
def Thaw (w : World) (b : Nat) : Prop := ∀ o, w.frozen? ⟨b, o, none⟩ = false
/-- Blocks that came between two worlds and are not frozen. -/
def Fresh (w w' : World) (b : Nat) : Prop := w.heap.size ≤ b ∧ b < w'.heap.size ∧ Thaw w' b

theorem In.keep {w w' : World} (h : Below w.heap.size w w') : Same (In w) w w' ∧ ∀ b, In w b → In w' b :=
  ⟨same_below h fun _ hb => hb, fun _ hb => Nat.lt_of_lt_of_le hb h.size⟩

/-- What lies in the lists is no longer than n. -/
def WayD.Small (n : Nat) (d : WayD) : Prop := d.sections.length ≤ n ∧ d.lies.length ≤ n ∧ d.flanks.length ≤ n ∧ d.over.length ≤ n ∧ d.near.length ≤ n
def PlanD.Small (n : Nat) (d : PlanD) : Prop := d.switches.length ≤ n ∧ d.ways.length ≤ n ∧ (∀ x ∈ d.ways, x.Small n) ∧ d.bars.length ≤ n ∧ ∀ x ∈ d.bars, x.length ≤ n

theorem Sl.size {P : Nat → Prop} {v : Value} {n : Nat} {E : Nat → Nat → Nat → Prop} (h : Sl P v n E) : ∃ a cap, v = .slice a n cap := by
  obtain ⟨a, cap, hv, _⟩ := h; exact ⟨a, cap, hv⟩
theorem hide {p : Prop} (h : p) : Hid p := h
theorem get_some {α : Type} (l : List α) {k n : Nat} (hn : Hid (l.length = n)) (h : k < n) : ∃ x, l[k]? = some x :=
  ⟨l[k]'(by rw [hn.out]; exact h), List.getElem?_eq_getElem _⟩
theorem ret_int {k : IntKind} {a b : Int} (h : a = b) : Ending.returned (.int k a) = .returned (.int k b) := by rw [h]
theorem ret_bool {a b : Bool} (h : a = b) : Ending.returned (.bool a) = .returned (.bool b) := by rw [h]
end Go.Proofs.YtdnnblknjmlgeaaDoor

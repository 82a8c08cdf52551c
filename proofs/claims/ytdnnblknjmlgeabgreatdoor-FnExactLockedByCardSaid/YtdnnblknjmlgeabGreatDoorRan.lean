import Derived.RangeFuncNested
import Derived.RangeFuncBound
import Derived.RangeFuncCalls
import Derived.RangeFuncLeaves
import Derived.Shelf.Abstract
import Derived.Shelf.RegionOpen
import Derived.WalkKit
import Derived.OwnWalkIn
import Derived.TacticsInMore
import Derived.LoopNIn
import Derived.LoopIn
import Derived.Test.YtdnnblknjmlgeabGreatDoorToA
namespace Go.Proofs.YtdnnblknjmlgeabGreatDoor
open Go.RowKit

theorem ownFrom_le {β : Type} {B B' : Nat} {I : β → World → Prop} (h : OwnFrom B I) (hB : B ≤ B') : OwnFrom B' I :=
  fun s W W' row hs hg hr => h s W W' row hs hg fun r e => ⟨Nat.le_trans hB (hr r e).1, (hr r e).2⟩
theorem grown_call {W W' : World} (hb : Below W.heap.size W W') (row : Option Nat) : W.grownBy W' row := ⟨hb.os, hb.tape, hb.output, hb.size, fun k hk _ => hb.block k hk⟩
theorem ownFrom_call {β : Type} {B : Nat} {I : β → World → Prop} (h : OwnFrom B I) {s : β} {W W' : World} (hs : I s W) (hb : Below W.heap.size W W') : I s W' :=
  h s W W' none hs (grown_call hb none) fun r e => by cases e

/-- The blocks a, .., b - 1 lie as they lay. -/
def Mid (a b : Nat) (W W' : World) : Prop := ∀ k, a ≤ k → k < b → W'.heap[k]? = W.heap[k]?
theorem Mid.refl (a b : Nat) (W : World) : Mid a b W W := fun _ _ _ => rfl
theorem Mid.trans {a b : Nat} {A B C : World} (h : Mid a b A B) (k : Mid a b B C) : Mid a b A C := fun i h1 h2 => (k i h1 h2).trans (h i h1 h2)
theorem Mid.part {a b a' b' : Nat} {A B : World} (h : Mid a b A B) (h1 : a ≤ a') (h2 : b' ≤ b) : Mid a' b' A B := fun i k1 k2 => h i (by omega) (by omega)
theorem Mid.call {a b : Nat} {W W' : World} (h : Below W.heap.size W W') (hb : b ≤ W.heap.size) : Mid a b W W' := fun k _ hk => h.block k (by omega)

/-- A function value that hands the values xs to a loop, in order, until the loop says that it has enough. It lays c blocks of its own ahead of the first round, which stay through a round, and so does what lies below n0. -/
def Gives {α : Type} (P : Program) (g : Nat) (lb : Array Value) (encs : α → Array Value) (n0 c : Nat) (xs : List α) (w : World) : Prop :=
  ∀ (l : Nat) (J Jx : List α → World → Prop) (W : World), Below w.heap.size w W → OwnFrom W.heap.size J → OwnFrom W.heap.size Jx →
    (∀ pre x W1, pre ++ [x] <+: xs → W.heap.size + c ≤ W1.heap.size → J pre W1 → YieldAt Fence.wide 0 P l (encs x) W1 fun e W' =>
      (e = .returned (.bool true) ∧ J (pre ++ [x]) W' ∧ Below n0 W1 W' ∧ Mid W.heap.size (W.heap.size + c) W1 W') ∨ (e = .returned (.bool false) ∧ Jx (pre ++ [x]) W' ∧ Mid W.heap.size (W.heap.size + c) W1 W')) →
    J [] W →
    CallsIn Fence.wide 0 P g (#[.func (.yield l) #[] #[]] ++ lb) W fun e W' => (∃ v, e = .returned v) ∧ (J xs W' ∨ ∃ pre, pre <+: xs ∧ Jx pre W')

/-- How a round of such a loop may end. -/
def goesOn {α : Type} (B c n0 : Nat) (I Ix : List α → World → Prop) (xs : List α) (W : World) : Exit → Act → World → Prop
  | .normal, _, W' => Mid B (B + 2 + c) W W' ∧ Below n0 W W' ∧ I xs W'
  | .ret, _, W' => Mid B (B + 2 + c) W W' ∧ Ix xs W'
  | _, _, _ => False

/-- A range over such a value: I before each round, Ix where a round has returned. -/
theorem range_gives {α : Type} {P : Program} {g : Operand} {ps : Array Tmp} {assign body : Code} {Q : Exit → Act → World → Prop} {a : Act} {w w0 : World} {gf : Nat} {lb : Array Value} {encs : α → Array Value} {n0 c : Nat} {xs : List α}
    (hg : a.eval g = .func (.func gf) #[] lb) (eg : ∀ args w, (callFunc gf args).run P w = .ok (.enter gf args) w) (hseq : Gives P gf lb encs n0 c xs w0) (hb0 : Below w0.heap.size w0 w) (hn : n0 ≤ w.heap.size) (hps : ∀ x, (encs x).size = ps.size)
    (I Ix : List α → World → Prop) (hI : OwnFrom w.heap.size I) (hIx : OwnFrom w.heap.size Ix) (h0 : I [] w) (a1 : α → Act)
    (hassign : ∀ (l : Nat) (x : α) (W : World) (K : Act → World → Prop), K (a1 x) W →
      assign.wpIn (Fence.wide.inRound l) 0 P (Exit.then K (fun _ _ _ => False)) { tmps := (ps.zip (encs x)).foldl (fun t (p, v) => t.setIfInBounds p v) a.tmps, defers := [] } W)
    (hbody : ∀ (l : Nat) (pre : List α) (x : α) (W : World), pre ++ [x] <+: xs → w.heap.size + 2 + c ≤ W.heap.size → I pre W → body.wpIn (Fence.wide.inRound l) 0 P (goesOn w.heap.size c n0 I Ix (pre ++ [x]) W) (a1 x) W)
    (hdone : ∀ (D : Nat) (W : World), w.heap.size ≤ D → I xs W → W.heap[D]? = some (.deferred (some [])) → Q .normal { a with defers := { target := .collected D, args := #[] } :: a.defers } W)
    (hstop : ∀ (D : Nat) (pre : List α) (W : World), w.heap.size ≤ D → pre <+: xs → Ix pre W → W.heap[D]? = some (.deferred (some [])) → Code.ret.wpIn Fence.wide 0 P Q { a with defers := { target := .collected D, args := #[] } :: a.defers } W) :
    (Code.rangeFunc g ps assign body).wpIn Fence.wide 0 P Q a w := by
  refine wpIn_rangeFunc fun fn hfn => ?_
  let rec0 : Loop := { state := .ready, pending := none, fn, tmps := a.tmps, params := ps, assign, body, defers := w.heap.size }
  -- the two blocks of the loop's own: what is deferred, and its record
  let Fact (r : Loop) (W : World) : Prop := W.heap[w.heap.size]? = some (.deferred (some [])) ∧ W.heap[w.heap.size + 1]? = some (.loop r)
  have factOwn : ∀ r s W W' row, Fact r W → W.grownBy W' row → (∀ b, row = some b → w.heap.size + 2 ≤ b) → (fun (_ : List α) => Fact r) s W' := fun r s W W' row hf hgr hr =>
    ⟨(hgr.block _ (Array.getElem?_eq_some_iff.1 hf.1).1 fun e => by have := hr _ e.symm; omega).trans hf.1, (hgr.block _ (Array.getElem?_eq_some_iff.1 hf.2).1 fun e => by have := hr _ e.symm; omega).trans hf.2⟩
  have factPut : ∀ r r' W, Fact r W → Fact r' (W.putObj (w.heap.size + 1) (.loop r')) := fun r r' W hf =>
    ⟨(World.putObj_heap_other (by omega)).trans hf.1, World.putObj_heap_same (Array.getElem?_eq_some_iff.1 hf.2).1⟩
  have factKeep : ∀ r W W', Fact r W → Mid w.heap.size (w.heap.size + 2 + c) W W' → Fact r W' := fun r W W' hf hk => ⟨(hk _ (Nat.le_refl _) (by omega)).trans hf.1, (hk _ (by omega) (by omega)).trans hf.2⟩
  have putMid : ∀ W o, Mid (w.heap.size + 2) (w.heap.size + 2 + c) W (W.putObj (w.heap.size + 1) o) := fun W o k h1 _ => World.putObj_heap_other (by omega)
  have putBelow : ∀ r W o, Fact r W → Below n0 W (W.putObj (w.heap.size + 1) o) := fun r W o hf =>
    (Below.refl n0 W).grown (grownBy_putObj' _ _ _) (by have := (Array.getElem?_eq_some_iff.1 hf.2).1; omega) fun k e => by cases e; omega
  have ownPut : ∀ {K : List α → World → Prop}, OwnFrom w.heap.size K → ∀ r s W o, Fact r W → K s W → K s (W.putObj (w.heap.size + 1) o) := fun hK r s W o hf hs => hK.putObj o hs (by omega) hf.2 rfl
  obtain ⟨W1, hW1⟩ : ∃ W1, W1 = (w.alloc (.deferred (some []))).alloc (.loop rec0) := ⟨_, rfl⟩
  have hz1 : W1.heap.size = w.heap.size + 2 := by rw [hW1]; simp
  have hF1 : Fact rec0 W1 := by
    have h1 := World.alloc_heap_new (w.alloc (.deferred (some []))) (.loop rec0)
    rw [World.size_alloc] at h1
    rw [hW1]
    exact ⟨(Below.heap_alloc _ _ _ (by simp)).trans (World.alloc_heap_new w _), h1⟩
  have hb1 : Below w.heap.size w W1 := by rw [hW1]; exact ((Below.refl _ w).alloc (Nat.le_refl _) _).alloc (by simp) _
  refine ⟨w.heap.size + 1, [{ target := .collected w.heap.size, args := #[] }], W1, { target := .fn (.func gf) lb, args := #[.func (.yield (w.heap.size + 1)) #[] #[]] }, W1, gf,
    #[.func (.yield (w.heap.size + 1)) #[] #[]] ++ lb, W1, ?_, ?_, fun _ _ => trivial, ?_, fun h => (by cases h), ?_⟩
  · rw [hW1]; exact run_enterLoop_outer _ _ _ _ _
  · simp only [resolve, hg]
    simp [go_sem]
  · simp [invoke, go_sem, eg]
  refine (hseq (w.heap.size + 1) (fun pre W => I pre W ∧ Fact rec0 W) (fun pre W => Ix pre W ∧ Fact { rec0 with state := .done, pending := some .ret } W) W1 (hb0.trans (hb1.mono hb0.size))
    (fun s A B row hs hgr hr => ⟨ownFrom_le hI (by omega) s A B row hs.1 hgr hr, factOwn _ s A B row hs.2 hgr fun b e => by have := (hr b e).1; omega⟩)
    (fun s A B row hs hgr hr => ⟨ownFrom_le hIx (by omega) s A B row hs.1 hgr hr, factOwn _ s A B row hs.2 hgr fun b e => by have := (hr b e).1; omega⟩) ?_ ⟨ownFrom_call hI h0 hb1, hF1⟩).mono ?_
  · rintro pre x W hpre hsz ⟨hi, hf⟩
    rw [hz1] at hsz ⊢
    refine ⟨fn, _, assign, body, run_yield hf.2 (hps x), roundIn_of_wpIn hfn (hassign _ x W _ ⟨_, run_beginRound hf.2 rfl, ?_⟩)⟩
    have hf2 := factPut _ { rec0 with state := .busy } W hf
    refine wpIn_mono (hbody _ pre x _ hpre (by simpa using hsz) (ownPut hI _ _ _ _ hf hi)) ?_
    rintro e a3 W3 hp
    have fin : ∀ (jump : Option Code), Mid w.heap.size (w.heap.size + 2 + c) (W.putObj (w.heap.size + 1) (.loop { rec0 with state := .busy })) W3 →
        Fact { rec0 with state := .busy } W3 ∧ (Instr.endRound (w.heap.size + 1) jump).run P W3 = .ok (.bool jump.isNone) (W3.putObj (w.heap.size + 1) (.loop { rec0 with state := if jump.isNone then .ready else .done, pending := jump })) ∧
        Mid (w.heap.size + 2) (w.heap.size + 2 + c) W (W3.putObj (w.heap.size + 1) (.loop { rec0 with state := if jump.isNone then .ready else .done, pending := jump })) := fun jump hk => by
      have hf3 := factKeep _ _ _ hf2 hk
      exact ⟨hf3, run_endRound (r := { rec0 with state := .busy }) jump hf3.2, ((putMid _ _).trans (hk.part (by omega) (by omega))).trans (putMid _ _)⟩
    cases e with
    | normal =>
      obtain ⟨hk, hb, hi3⟩ := hp
      obtain ⟨hf3, hr, hk4⟩ := fin none hk
      exact ⟨_, _, hr, .inl ⟨rfl, ⟨ownPut hI _ _ _ _ hf3 hi3, factPut _ _ _ hf3⟩, ((putBelow _ _ _ hf).trans hb).trans (putBelow _ _ _ hf3), hk4⟩⟩
    | ret =>
      obtain ⟨hk, hi3⟩ := hp
      obtain ⟨hf3, hr, hk4⟩ := fin (some .ret) hk
      exact ⟨_, _, hr, .inr ⟨rfl, ⟨ownPut hIx _ _ _ _ hf3 hi3, factPut _ _ _ hf3⟩, hk4⟩⟩
    | exit id => exact hp.elim
    | goto t => exact hp.elim
    | panic ch => exact hp.elim
    | outgrown => exact hp.elim
  · rintro e W2 ⟨⟨v, rfl⟩, ⟨hi, hf⟩ | ⟨pre, hpre, hi, hf⟩⟩
    · exact ⟨none, _, run_endLoop hf.2 (by simp [rec0]), hdone _ _ (Nat.le_refl _) (ownPut hI _ _ _ _ hf hi) (factPut _ _ _ hf).1⟩
    · exact ⟨some .ret, _, run_endLoop hf.2 (by simp), hstop _ pre _ (Nat.le_refl _) hpre (ownPut hIx _ _ _ _ hf hi) (factPut _ _ _ hf).1⟩
end Go.Proofs.YtdnnblknjmlgeabGreatDoor

import Derived.Test.YtdhinkgjiapigaaDoorRight
import Derived.Test.YtdhinkgjiapigaaDoorOwnX
import Derived.Test.YtdhinkgjiapigaaDoorMark5
namespace Go.Proofs.YtdhinkgjiapigaaDoor
open Go.RowKit Go.Deep
open Classical

/-- How all stands at the beginning. -/
def idles (ways : List WayD) : List HeldD := ways.map fun x => idleD x.sections.length
def beginD (p : PlanD) : FrameD := ⟨true, List.replicate p.sections.toNat false, List.replicate p.switches.length (1, 1), idles p.ways⟩
def noFrame : FrameD := ⟨false, [], [], []⟩
def beginOf (p : PlanD) [Decidable (Right p)] : FrameD := if Right p then beginD p else noFrame
theorem idles_get {ways : List WayD} {k : Nat} {x : WayD} (h : ways[k]? = some x) : (idles ways)[k]? = some (idleD x.sections.length) := by unfold idles; rw [List.getElem?_map, h]; rfl
theorem idles_length (ways : List WayD) : (idles ways).length = ways.length := by unfold idles; rw [List.length_map]
theorem cells2_snoc (k : Nat) : cells2 (List.replicate k ((1, 1) : Int × Int)) ++ [.int .i64 1, .int .i64 1] = cells2 (List.replicate (k + 1) (1, 1)) := by
  rw [List.replicate_succ']
  unfold cells2
  rw [List.flatMap_append]
  rfl
theorem noFrameM (B : Nat) (w : World) : FrameM B w (.slice none 0 0) (.slice none 0 0) (.slice none 0 0) noFrame := .inr ⟨rfl, rfl, rfl, rfl, rfl, rfl⟩

/-- The blocks of Begin. -/
structure BegF (w : World) (pc : Array Value) (n fb : Nat) (W : World) (u1 u2 u3 : Value) (bo : Nat) : Prop where
  below : Below w.heap.size w W
  box : W.rowIs w.heap.size 33 5 (fun i => pc[i]!)
  res : ∃ g, W.rowIs (w.heap.size + 1) 42 4 g
  out : W.rowIs fb 42 4 (fun i => (#[.bool true, u1, u2, u3] : Array Value)[i]!)
  occ : OBools W u1 (List.replicate n false) bo
  po : w.heap.size + 1 < bo
  pf : bo < fb
theorem BegF.but {w : World} {pc : Array Value} {n fb : Nat} {W W' : World} {u1 u2 u3 : Value} {bo : Nat} (h : BegF w pc n fb W u1 u2 u3 bo) {K : Nat → Prop} (hB : But K W W') (hk : ∀ c, c < fb + 1 → K c) : BegF w pc n fb W' u1 u2 u3 bo := by
  have h1 := h.po
  have h2 := h.pf
  exact ⟨h.below.trans (hB.below h.below.size fun c hc => hk c (by omega)), hB.row h.box (hk _ (by omega)), h.res.imp fun _ z => hB.row z (hk _ (by omega)), hB.row h.out (hk _ (by omega)), h.occ.but hB (hk _ (by omega)), h1, h2⟩
theorem BegF.call {w : World} {pc : Array Value} {n fb : Nat} {W W' : World} {u1 u2 u3 : Value} {bo : Nat} (h : BegF w pc n fb W u1 u2 u3 bo) (hB : Below W.heap.size W W') : BegF w pc n fb W' u1 u2 u3 bo :=
  h.but (K := fun _ => True) (But.of_calls hB) fun _ _ => trivial
theorem BegF.lay2 {w : World} {pc : Array Value} {n fb : Nat} {W : World} {u1 u2 u3 : Value} {bo : Nat} (h : BegF w pc n fb W u1 u2 u3 bo) (u : Value) : BegF w pc n fb (W.setCell ⟨fb, 2, none⟩ u) u1 u u3 bo := by
  have h1 := h.po
  have h2 := h.pf
  have ne : ∀ c : Nat, c ≠ fb → c ≠ (⟨fb, 2, none⟩ : Addr).block := fun c hc => hc
  refine ⟨h.below.setCell (by show w.heap.size ≤ fb; omega) _, h.box.setOther (ne _ (by omega)) _, h.res.imp fun _ z => z.setOther (ne _ (by omega)) _, ?_, h.occ.of_block (Below.heap_setCell _ _ _ _ (ne _ (by omega))), h1, h2⟩
  refine (h.out.set 2 u).congr fun i hi => ?_
  rcases i with _ | _ | _ | _ | i
  · rfl
  · rfl
  · rfl
  · rfl
  · omega
theorem BegF.lay3 {w : World} {pc : Array Value} {n fb : Nat} {W : World} {u1 u2 u3 : Value} {bo : Nat} (h : BegF w pc n fb W u1 u2 u3 bo) (u : Value) : BegF w pc n fb (W.setCell ⟨fb, 3, none⟩ u) u1 u2 u bo := by
  have h1 := h.po
  have h2 := h.pf
  have ne : ∀ c : Nat, c ≠ fb → c ≠ (⟨fb, 3, none⟩ : Addr).block := fun c hc => hc
  refine ⟨h.below.setCell (by show w.heap.size ≤ fb; omega) _, h.box.setOther (ne _ (by omega)) _, h.res.imp fun _ z => z.setOther (ne _ (by omega)) _, ?_, h.occ.of_block (Below.heap_setCell _ _ _ _ (ne _ (by omega))), h1, h2⟩
  refine (h.out.set 3 u).congr fun i hi => ?_
  rcases i with _ | _ | _ | _ | i
  · rfl
  · rfl
  · rfl
  · rfl
  · omega
/-- Behind the frame's box: the points are owned. -/
theorem own_far {W W' : World} {base e size : Nat} {v : Value} {n : Nat} {xs : List Value} (h : W.ownsRow base e size v n xs) {K : Nat → Prop} (hB : But K W W') (hk : ∀ c, base ≤ c → c < W.heap.size → K c) : W'.ownsRow base e size v n xs :=
  own_but h hB fun _ hg => hk _ (own_block h hg).1 (own_block h hg).2.1
/-- Points of a call's own stay as they are where Helds grow. -/
theorem OPoints.held {W W' : World} {v : Value} {l : List (Int × Int)} {b : Nat} {base size n : Nat} {u : Value} {xs : List Value} (h : OPoints W v l b) (hg : W.grownBy W' u.ownBlock) (hown : W.ownsRow base 77 size u n xs) : OPoints W' v l b := by
  obtain ⟨a, cap, rfl, h0 | ⟨rfl, f, N, hr, hN⟩⟩ := h
  · exact ⟨a, cap, rfl, .inl h0⟩
  · exact ⟨_, cap, rfl, .inr ⟨rfl, f, N, hr.of_block (hg.block b hr.lt fun e => (own_block hown e.symm).2.2 _ _ _ _ hr (by decide) rfl), hN⟩⟩
theorem OBools.held {W W' : World} {v : Value} {l : List Bool} {b : Nat} {base size n : Nat} {u : Value} {xs : List Value} (h : OBools W v l b) (hg : W.grownBy W' u.ownBlock) (hown : W.ownsRow base 77 size u n xs) : OBools W' v l b := by
  obtain ⟨f, N, c, hv, hr, hN⟩ := h
  exact ⟨f, N, c, hv, hr.of_block (hg.block b hr.lt fun e => (own_block hown e.symm).2.2 _ _ _ _ hr (by decide) rfl), hN⟩
end Go.Proofs.YtdhinkgjiapigaaDoor

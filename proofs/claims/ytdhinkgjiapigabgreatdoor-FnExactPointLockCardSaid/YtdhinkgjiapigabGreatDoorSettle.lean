import Derived.Test.YtdhinkgjiapigabGreatDoorPass
import Derived.Test.YtdhinkgjiapigabGreatDoorSpec5
namespace Go.Proofs.YtdhinkgjiapigabGreatDoor
open Go.RowKit Go.Deep

/-- What one way becomes. -/
def used1 (occ : List Bool) (w : WayD) (h : HeldD) : HeldD := if h.state ≠ 4 ∧ occAt occ (w.sections.getD 0 0) = true then { h with state := 4, timer := 0 } else h
def clear1 (occ : List Bool) (points : List (Int × Int)) (w : WayD) (h : HeldD) : HeldD :=
  if h.state = 1 ∨ h.state = 2 then (if provedB occ points w = true then { h with state := 2, shown := true } else { h with state := 1 }) else h
def gone1 (occ : List Bool) (w : WayD) (h : HeldD) : HeldD := if h.state = 4 then passD occ w.sections h else h
def settle1 (occ : List Bool) (points : List (Int × Int)) (w : WayD) (h : HeldD) : HeldD :=
  if h.state = 0 then h else gone1 occ w (clear1 occ points w (used1 occ w h))
def settleD (ways : List WayD) (d : FrameD) : FrameD := { d with ways := List.zipWith (settle1 d.occ d.points) ways d.ways }

theorem settle1_idle {occ points w} {h : HeldD} (e : h.state = 0) : settle1 occ points w h = h := by unfold settle1; rw [if_pos e]
theorem used1_in {occ w} {h : HeldD} (e4 : h.state ≠ 4) (ho : occAt occ (w.sections.getD 0 0) = true) : used1 occ w h = { h with state := 4, timer := 0 } := if_pos ⟨e4, ho⟩
theorem used1_no {occ w} {h : HeldD} (ho : occAt occ (w.sections.getD 0 0) = false) : used1 occ w h = h := if_neg fun q => by rw [ho] at q; exact Bool.noConfusion q.2
theorem used1_4 {occ w} {h : HeldD} (e4 : h.state = 4) : used1 occ w h = h := if_neg fun q => q.1 e4
theorem clear1_no {occ points w} {h : HeldD} (e1 : h.state ≠ 1) (e2 : h.state ≠ 2) : clear1 occ points w h = h := if_neg fun q => q.elim e1 e2
theorem clear1_yes {occ points w} {h : HeldD} (e : h.state = 1 ∨ h.state = 2) (hp : provedB occ points w = true) : clear1 occ points w h = { h with state := 2, shown := true } := by unfold clear1; rw [if_pos e, if_pos hp]
theorem clear1_set {occ points w} {h : HeldD} (e : h.state = 1 ∨ h.state = 2) (hp : provedB occ points w = false) : clear1 occ points w h = { h with state := 1 } := by unfold clear1; rw [if_pos e, if_neg (by rw [hp]; decide)]
theorem gone1_4 {occ w} {h : HeldD} (e : h.state = 4) : gone1 occ w h = passD occ w.sections h := if_pos e
theorem gone1_no {occ w} {h : HeldD} (e : h.state ≠ 4) : gone1 occ w h = h := if_neg e
theorem settle1_in {occ points w} {h : HeldD} (e : h.state ≠ 0) (e4 : h.state ≠ 4) (ho : occAt occ (w.sections.getD 0 0) = true) : settle1 occ points w h = passD occ w.sections { h with state := 4, timer := 0 } := by
  unfold settle1
  rw [if_neg e, used1_in e4 ho, clear1_no (by simp) (by simp), gone1_4 rfl]
theorem settle1_used {occ points w} {h : HeldD} (e4 : h.state = 4) : settle1 occ points w h = passD occ w.sections h := by
  unfold settle1
  rw [if_neg (by omega), used1_4 e4, clear1_no (by omega) (by omega), gone1_4 e4]
theorem settle1_clear {occ points w} {h : HeldD} (e : h.state = 1 ∨ h.state = 2) (ho : occAt occ (w.sections.getD 0 0) = false) (hp : provedB occ points w = true) : settle1 occ points w h = { h with state := 2, shown := true } := by
  unfold settle1
  rw [if_neg (by omega), used1_no ho, clear1_yes e hp, gone1_no (by simp)]
theorem settle1_set {occ points w} {h : HeldD} (e : h.state = 1 ∨ h.state = 2) (ho : occAt occ (w.sections.getD 0 0) = false) (hp : provedB occ points w = false) : settle1 occ points w h = { h with state := 1 } := by
  unfold settle1
  rw [if_neg (by omega), used1_no ho, clear1_set e hp, gone1_no (by simp)]
theorem settle1_else {occ points w} {h : HeldD} (e4 : h.state ≠ 4) (e1 : h.state ≠ 1) (e2 : h.state ≠ 2) (ho : occAt occ (w.sections.getD 0 0) = false) : settle1 occ points w h = h := by
  by_cases e : h.state = 0
  · exact settle1_idle e
  · unfold settle1
    rw [if_neg e, used1_no ho, clear1_no e1 e2, gone1_no e4]

/-- How far a round has come: the first i ways have settled. -/
def SetR (P : Nat → Prop) (W0 : World) (v1 v2 v3 : Value) (d : FrameD) (ways : List WayD) (bo bp bw : Nat) (i : Nat) (W : World) : Prop :=
  ∃ (cur : List HeldD) (bb : Nat → Nat), cur.length = d.ways.length ∧ (∀ (j : Nat) x h, j < i → ways[j]? = some x → d.ways[j]? = some h → cur[j]? = some (settle1 d.occ d.points x h)) ∧ (∀ j : Nat, i ≤ j → cur[j]? = d.ways[j]?) ∧
    OFrame (fun c => P c ∨ W0.heap.size ≤ c) W v1 v2 v3 { d with ways := cur } bo bp bw bb ∧ But (fun c => ¬ P c) W0 W
theorem SetR.next {P : Nat → Prop} {W0 : World} {v1 v2 v3 : Value} {d : FrameD} {ways : List WayD} {bo bp bw : Nat} {i : Nat} {W W' : World} {cur : List HeldD} {bb : Nat → Nat} {x : WayD} {h : HeldD} {f : Nat → Value} {N : Nat}
    (hl : cur.length = d.ways.length) (h1 : ∀ (j : Nat) x h, j < i → ways[j]? = some x → d.ways[j]? = some h → cur[j]? = some (settle1 d.occ d.points x h)) (h2 : ∀ j : Nat, i ≤ j → cur[j]? = d.ways[j]?)
    (hf : OFrame (fun c => P c ∨ W0.heap.size ≤ c) W v1 v2 v3 { d with ways := cur } bo bp bw bb) (hb : But (fun c => ¬ P c) W0 W) (hi : i < d.ways.length) (hx : ways[i]? = some x) (hh : d.ways[i]? = some h)
    (hr : W.rowIs bw 93 N f) (hs : HeldStep W W' bw N i f (bb i) (settle1 d.occ d.points x h)) : SetR P W0 v1 v2 v3 d ways bo bp bw (i + 1) W' := by
  obtain ⟨bb', hf', e⟩ := hf.step (Q := fun c => P c ∨ W0.heap.size ≤ c) (i := i) (by show i < cur.length; omega) (x := settle1 d.occ d.points x h) (w' := W')
    (fun f' N' hr' _ _ => hs.from hr hr') (fun _ q => q) (fun c q _ => .inr (Nat.le_trans hb.size q))
  refine ⟨cur.set i (settle1 d.occ d.points x h), bb', by rw [List.length_set]; exact hl, fun j y g hj hy hg => ?_, fun j hj => ?_, hf', ?_⟩
  · by_cases e2 : j = i
    · subst e2
      rw [hx] at hy; rw [hh] at hg
      cases hy; cases hg
      rw [List.getElem?_set_self (by omega)]
    · rw [List.getElem?_set_ne (Ne.symm e2)]
      exact h1 j y g (by omega) hy hg
  · rw [List.getElem?_set_ne (by omega)]
    exact h2 j (by omega)
  · refine ⟨e.os.trans hb.os, e.tape.trans hb.tape, e.output.trans hb.output, Nat.le_trans hb.size e.size, fun c hc hk => ?_⟩
    refine (e.block c (Nat.lt_of_lt_of_le hc hb.size) ⟨fun q => ?_, fun q => ?_⟩).trans (hb.block c hc hk)
    · rcases hf.pw (by show cur.length ≠ 0; omega) with z | z
      · exact hk (q ▸ z)
      · omega
    · rcases hf.pb i (by show i < cur.length; omega) with z | z
      · exact hk (q ▸ z)
      · omega
/-- The ways as they have settled. -/
theorem SetR.end {P : Nat → Prop} {W0 : World} {v1 v2 v3 : Value} {d : FrameD} {ways : List WayD} {bo bp bw : Nat} {n : Nat} {W : World} (h : SetR P W0 v1 v2 v3 d ways bo bp bw n W) (hl : d.ways.length = ways.length) (hn : n = ways.length) :
    ∃ bb, OFrame (fun c => P c ∨ W0.heap.size ≤ c) W v1 v2 v3 (settleD ways d) bo bp bw bb ∧ But (fun c => ¬ P c) W0 W := by
  obtain ⟨cur, bb, h0, h1, -, hf, hb⟩ := h
  have : cur = List.zipWith (settle1 d.occ d.points) ways d.ways := by
    apply List.ext_getElem?
    intro j
    rw [List.getElem?_zipWith]
    by_cases hj : j < ways.length
    · obtain ⟨x, hx⟩ := get_some ways (hide rfl) hj
      obtain ⟨y, hy⟩ := get_some d.ways (hide hl) hj
      rw [h1 j x y (by omega) hx hy, hx, hy]
    · rw [List.getElem?_eq_none (by omega), List.getElem?_eq_none (by omega : ways.length ≤ j)]
  rw [this] at hf
  exact ⟨bb, hf, hb⟩
end Go.Proofs.YtdhinkgjiapigabGreatDoor

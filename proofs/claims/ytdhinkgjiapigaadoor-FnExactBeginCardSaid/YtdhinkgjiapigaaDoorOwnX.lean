import Derived.Test.YtdhinkgjiapigaaDoorToA
import Derived.Test.YtdhinkgjiapigaaDoorRight
import Derived.OwnWalk
import Derived.Laws.AppendOwnNone
namespace Go.Proofs.YtdhinkgjiapigaaDoor
open Go.RowKit Go.Deep

/-- append of nothing to what the call owns. -/
theorem run_append_zero {P : Program} {w : World} (base : Nat) (t ty e : TypeId) (i : TypeInfo) (size : Nat) (ht : P.underlying t = some (.slice e)) (hi : P.info? e = some i)
    (v : Value) (n : Nat) (xs : List Value) (hown : w.ownsRow base e size v n xs) (c : Nat) :
    (Builtin.append_ #[t, t] ty #[v, .slice none 0 c]).run P w = .ok v w := by
  rcases hown.2 with ⟨rfl, rfl⟩ | ⟨g, cap, cur, rfl, _, _, hnc, _⟩
  · simp [Builtin.append_, run_underlying ht, sizeOf, typeInfo, hi, Builtin.lenOf, Builtin.firstCells]
  · simp [Builtin.append_, run_underlying ht, sizeOf, typeInfo, hi, Builtin.lenOf, Builtin.firstCells, hnc, storeCells]

/-- append to what the call owns, the source empty or not. -/
theorem wpList_append_any {P : Program} {w : World} {ops : Array Oper} {rest : List Oper} {o : Oper} {a : Act} {Q : Exit → Act → World → Prop} (hgd : o.guard = none) (s x : Operand) (t : TypeId)
    (ho : o.op = .call { callee := .builtin .append, args := #[s, x], argTypes := #[t, t] })
    (base : Nat) (e : TypeId) (z : Value) (size bytes : Nat) (ht : P.underlying t = some (.slice e)) (hinfo : (P.info? e).map (fun i => (i.zero, i.size, i.bytes)) = some (some z, size, bytes)) (hzs : z.cells.size = size) (hsz : 0 < size)
    (v : Value) (n : Nat) (xs : List Value) (hs : a.eval s = v) (hown : w.ownsRow base e size v n xs)
    (ad : Option Addr) (m c : Nat) (news : List Value) (hx : a.eval x = .slice ad m c) (hl : news.length = m * size) (hnews : m = 0 ∨ ∃ A, ad = some A ∧ ∀ j u, news[j]? = some u → w.cell? (A.add j) = some u) (h1 : ∀ u ∈ news, u.oneCell' = true)
    (h63 : n + m ≤ maxLen) (hbytes : (n + m) * bytes ≤ 140737488355328) (hbase : base ≤ w.heap.size)
    (h : ∀ v' w', w'.ownsRow base e size v' (n + m) (xs ++ news) → w.grownBy w' v.ownBlock → wpList P ops Q rest (a.put o.dst v') w') : wpList P ops Q (o :: rest) a w := by
  cases hi : P.info? e with
  | none => rw [hi] at hinfo; cases hinfo
  | some i =>
    rw [hi] at hinfo
    simp only [Option.map_some, Option.some.injEq, Prod.mk.injEq] at hinfo
    obtain ⟨hz, hsize, hby⟩ := hinfo
    rcases hnews with h0 | ⟨A, rfl, hn⟩
    · subst h0
      have e0 : news = [] := List.length_eq_zero_iff.1 (by omega)
      subst e0
      cases ad with
      | some A => exact wpList_append_own w hgd s x t ho base e i z size bytes ht hi hz hsize hby hzs hsz v n xs hs hown A 0 c [] hx hl (fun j u hu => by simp at hu) h1 h63 hbytes hbase fun v' w' h2 h3 _ => h v' w' h2 h3
      | none =>
      refine wpList_plain hgd fun K hK => ?_
      have hrun := run_append_zero (P := P) (w := w) base t o.type e i size ht hi v n xs hown c
      unfold Oper.wp
      simp [execOp, ho, resolve, invoke, builtin, hs, hx, hrun, Result.andThen]
      exact hK _ _ (h v w (by simpa using hown) ⟨rfl, rfl, rfl, Nat.le_refl _, fun _ _ _ => rfl⟩)
    · exact wpList_append_own w hgd s x t ho base e i z size bytes ht hi hz hsize hby hzs hsz v n xs hs hown A m c news hx hl hn h1 h63 hbytes hbase fun v' w' h2 h3 _ => h v' w' h2 h3

/-- What is owned, as a row. -/
theorem own_row {w : World} {base e size : Nat} {v : Value} {n : Nat} {xs : List Value} (h : w.ownsRow base e size v n xs) (hn : 0 < n) :
    ∃ g cap f, v = .slice (some ⟨g, 0, none⟩) n cap ∧ base ≤ g ∧ w.rowIs g e (cap * size) f ∧ n * size ≤ cap * size ∧ ∀ j u, xs[j]? = some u → f j = u := by
  obtain ⟨hl, ⟨-, h0⟩ | ⟨g, cap, cur, hv, hb, hh, hnc, -, hs, ht⟩⟩ := h
  · omega
  · refine ⟨g, cap, fun j => cur[j]!, hv, hb, ⟨cur, hh, hs, fun j hj => ?_⟩, Nat.mul_le_mul_right _ hnc, fun j u hu => ?_⟩
    · show cur[j]? = some cur[j]!
      rw [getElem!_pos cur j (by omega)]
      exact Array.getElem?_eq_getElem _
    · rw [← ht, List.getElem?_take] at hu
      split at hu
      · rw [Array.getElem?_toList] at hu
        show cur[j]! = u
        rw [getElem!_def, hu]
      · cases hu
theorem own_bools {w : World} {base : Nat} {v : Value} {l : List Bool} {n : Nat} (h : w.ownsRow base 4 1 v n (l.map .bool)) (hl : n = l.length) (hn : 0 < l.length) : ∃ b, OBools w v l b ∧ base ≤ b := by
  subst hl
  obtain ⟨g, cap, f, hv, hb, hr, hc, hf⟩ := own_row h hn
  exact ⟨g, ⟨f, _, cap, hv, hr, by omega, fun i x hx => hf i _ (by rw [List.getElem?_map, hx]; rfl)⟩, hb⟩
def cells2 (l : List (Int × Int)) : List Value := l.flatMap fun x => [.int .i64 x.1, .int .i64 x.2]
theorem cells2_length (l : List (Int × Int)) : (cells2 l).length = l.length * 2 := by
  unfold cells2
  induction l with
  | nil => rfl
  | cons a l ih => simp only [List.flatMap_cons, List.length_append, List.length_cons, List.length_nil]; omega
theorem cells2_get (l : List (Int × Int)) (i : Nat) (x : Int × Int) (h : l[i]? = some x) : (cells2 l)[i * 2]? = some (.int .i64 x.1) ∧ (cells2 l)[i * 2 + 1]? = some (.int .i64 x.2) := by
  unfold cells2
  induction l generalizing i with
  | nil => simp at h
  | cons a l ih =>
    cases i with
    | zero => simp at h; subst h; exact ⟨rfl, rfl⟩
    | succ i =>
      have := ih i (by simpa using h)
      rw [List.flatMap_cons]
      refine ⟨?_, ?_⟩
      · rw [List.getElem?_append_right (by simp; omega)]
        simpa [show (i + 1) * 2 - 2 = i * 2 by omega] using this.1
      · rw [List.getElem?_append_right (by simp; omega)]
        simpa [show (i + 1) * 2 + 1 - 2 = i * 2 + 1 by omega] using this.2
theorem own_points {w : World} {base : Nat} {v : Value} {l : List (Int × Int)} {n : Nat} (h : w.ownsRow base 75 2 v n (cells2 l)) (hl : n = l.length) : ∃ b, OPoints w v l b ∧ (l.length ≠ 0 → base ≤ b) := by
  subst hl
  rcases Nat.eq_zero_or_pos l.length with e | e
  · obtain ⟨-, ⟨rfl, -⟩ | ⟨g, cap, cur, rfl, -⟩⟩ := h
    · exact ⟨0, ⟨none, 0, by rw [e], .inl e⟩, fun z => absurd e z⟩
    · exact ⟨0, ⟨_, cap, rfl, .inl e⟩, fun z => absurd e z⟩
  · obtain ⟨g, cap, f, rfl, hb, hr, hc, hf⟩ := own_row h e
    exact ⟨g, ⟨_, cap, rfl, .inr ⟨rfl, f, _, hr, hc, fun i x hx => ⟨hf _ _ (cells2_get l i x hx).1, hf _ _ (cells2_get l i x hx).2⟩⟩⟩, fun _ => hb⟩
theorem addr_add (b o j : Nat) : (⟨b, o, none⟩ : Addr).add j = ⟨b, o + j, none⟩ := by simp [Addr.add]
theorem bools_news {P : Nat → Prop} {W : World} {a : Option Addr} {l : List Bool} {c : Nat} (h : Bools P W (.slice a l.length c) l) : l.length = 0 ∨ ∃ A, a = some A ∧ ∀ j u, (l.map Value.bool)[j]? = some u → W.cell? (A.add j) = some u := by
  obtain ⟨a', c', hv, h0 | ⟨b, off, rfl, -, hc⟩⟩ := h
  · exact .inl h0
  · cases hv
    refine .inr ⟨_, rfl, fun j u hu => ?_⟩
    rw [List.getElem?_map] at hu
    obtain ⟨x, hx, rfl⟩ := Option.map_eq_some_iff.1 hu
    rw [addr_add]
    exact hc j (List.getElem?_eq_some_iff.1 hx).1 x hx
theorem lies_news {P : Nat → Prop} {W : World} {a : Option Addr} {l : List (Int × Int)} {c : Nat} (h : Lies P W (.slice a l.length c) l) : l.length = 0 ∨ ∃ A, a = some A ∧ ∀ j u, (cells2 l)[j]? = some u → W.cell? (A.add j) = some u := by
  obtain ⟨a', c', hv, h0 | ⟨b, off, rfl, -, hc⟩⟩ := h
  · exact .inl h0
  · cases hv
    refine .inr ⟨_, rfl, fun j u hu => ?_⟩
    have hj := (List.getElem?_eq_some_iff.1 hu).1
    rw [cells2_length] at hj
    obtain ⟨x, hx⟩ : ∃ x, l[j / 2]? = some x := ⟨_, List.getElem?_eq_getElem (by omega)⟩
    have hg := cells2_get l (j / 2) x hx
    have hr := hc (j / 2) (by omega) x hx
    rw [addr_add]
    rcases Nat.mod_two_eq_zero_or_one j with e | e
    · have ej : j / 2 * 2 = j := by omega
      rw [ej] at hg hr
      rw [hr.1]
      rw [hg.1] at hu
      exact hu
    · have ej : j / 2 * 2 + 1 = j := by omega
      have ej2 : off + j / 2 * 2 + 1 = off + j := by omega
      rw [ej] at hg
      rw [ej2] at hr
      rw [hr.2]
      rw [hg.2] at hu
      exact hu
theorem one_bools (l : List Bool) : ∀ u ∈ l.map Value.bool, u.oneCell' = true := fun u hu => by
  obtain ⟨x, -, rfl⟩ := List.mem_map.1 hu
  rfl
theorem one_cells2 (l : List (Int × Int)) : ∀ u ∈ cells2 l, u.oneCell' = true := fun u hu => by
  obtain ⟨x, -, hx⟩ := List.mem_flatMap.1 hu
  simp at hx
  rcases hx with rfl | rfl <;> rfl
theorem below_grown {w w' : World} (h : w.grownBy w' none) : Below w.heap.size w w' := (Below.refl _ _).grown h (Nat.le_refl _) fun _ z => by cases z
end Go.Proofs.YtdhinkgjiapigaaDoor

namespace Go.Proofs.YtdhinkgjiapigaaDoor
open Go.RowKit Go.Deep

/-- The cells of the first k Helds, as they have been laid; the Been of the j-th lies in block bb j, from m on. -/
def HeldsX (w : World) (m : Nat) (l : List HeldD) (k : Nat) (xs : List Value) (bb : Nat → Nat) : Prop :=
  ∀ (j : Nat) x, j < k → l[j]? = some x → xs[j * 5]? = some (.int .i64 x.state) ∧ xs[j * 5 + 1]? = some (.int .i64 x.gone) ∧ (∃ u, xs[j * 5 + 2]? = some u ∧ OBools w u x.been (bb j)) ∧ xs[j * 5 + 3]? = some (.bool x.shown) ∧ xs[j * 5 + 4]? = some (.int .i64 x.timer) ∧ m ≤ bb j
theorem own_helds {w : World} {base m : Nat} {v : Value} {l : List HeldD} {n : Nat} {xs : List Value} {bb : Nat → Nat} (h : w.ownsRow base 77 5 v n xs) (hX : HeldsX w m l n xs bb) (hl : n = l.length) : ∃ b, OHelds w v l b bb ∧ (l.length ≠ 0 → base ≤ b) := by
  subst hl
  rcases Nat.eq_zero_or_pos l.length with e | e
  · obtain ⟨-, ⟨rfl, -⟩ | ⟨g, cap, cur, rfl, -⟩⟩ := h
    · exact ⟨0, ⟨none, 0, by rw [e], .inl e⟩, fun z => absurd e z⟩
    · exact ⟨0, ⟨_, cap, rfl, .inl e⟩, fun z => absurd e z⟩
  · obtain ⟨g, cap, f, rfl, hb, hr, hc, hf⟩ := own_row h e
    refine ⟨g, ⟨_, cap, rfl, .inr ⟨rfl, f, _, hr, hc, fun i x hx => ?_⟩⟩, fun _ => hb⟩
    obtain ⟨h0, h1, ⟨u, h2, h2'⟩, h3, h4, -⟩ := hX i x (List.getElem?_eq_some_iff.1 hx).1 hx
    exact ⟨hf _ _ h0, hf _ _ h1, by rw [hf _ _ h2]; exact h2', hf _ _ h3, hf _ _ h4⟩
theorem own_slice {w : World} {base e size : Nat} {v : Value} {n : Nat} {xs : List Value} (h : w.ownsRow base e size v n xs) : ∃ a c, v = .slice a n c := by
  obtain ⟨-, ⟨rfl, rfl⟩ | ⟨g, cap, cur, rfl, -⟩⟩ := h
  · exact ⟨_, _, rfl⟩
  · exact ⟨_, _, rfl⟩

theorem own_lit0 (W : World) (n : Nat) (hn : W.heap.size = n) : (W.alloc (.cells #[] 4)).ownsRow n 4 1 (.slice (some ⟨n, 0, none⟩) 0 0) 0 [] := by
  subst hn
  exact World.ownsRow_lit (base := W.heap.size) (e := 4) (size := 1) W #[] 0 (Nat.le_refl _) (by unfold maxLen; omega) rfl
theorem own_but {K : Nat → Prop} {W W' : World} {base e size : Nat} {v : Value} {n : Nat} {xs : List Value} (h : W.ownsRow base e size v n xs) (hB : But K W W') (hk : ∀ g, v.ownBlock = some g → K g) : W'.ownsRow base e size v n xs := by
  obtain ⟨hl, h0 | ⟨g, cap, cur, hv, hb, hh, k⟩⟩ := h
  · exact ⟨hl, .inl h0⟩
  · refine ⟨hl, .inr ⟨g, cap, cur, hv, hb, ?_, k⟩⟩
    rw [hB.block g (by obtain ⟨hlt, _⟩ := Array.getElem?_eq_some_iff.1 hh; exact hlt) (hk g (by rw [hv]; rfl))]
    exact hh
/-- What is owned lies from base on, in a block of its type. -/
theorem own_block {W : World} {base e size : Nat} {v : Value} {n : Nat} {xs : List Value} (h : W.ownsRow base e size v n xs) {g : Nat} (hg : v.ownBlock = some g) : base ≤ g ∧ g < W.heap.size ∧ ∀ t N f b, W.rowIs b t N f → t ≠ e → b ≠ g := by
  obtain ⟨hl, ⟨rfl, -⟩ | ⟨g', cap, cur, rfl, hb, hh, k⟩⟩ := h
  · cases hg
  · cases hg
    refine ⟨hb, by obtain ⟨hlt, _⟩ := Array.getElem?_eq_some_iff.1 hh; exact hlt, fun t N f b hr ht => ?_⟩
    rintro rfl
    obtain ⟨y, hy, -⟩ := hr
    rw [hh] at hy
    cases hy
    exact ht rfl
/-- One Held more. -/
theorem HeldsX.snoc {W W' : World} {m : Nat} {l : List HeldD} {k : Nat} {xs : List Value} {bb : Nat → Nat} {x : HeldD} {u : Value} {b : Nat} (h : HeldsX W m l k xs bb) (hl : xs.length = k * 5) (hx : l[k]? = some x) (hu : OBools W' u x.been b) (hb : m ≤ b)
    (hk : ∀ j y v, j < k → l[j]? = some y → OBools W v y.been (bb j) → OBools W' v y.been (bb j)) :
    HeldsX W' m l (k + 1) (xs ++ [.int .i64 x.state, .int .i64 x.gone, u, .bool x.shown, .int .i64 x.timer]) (fun j => if j = k then b else bb j) := by
  intro j y hj hy
  by_cases e : j = k
  · subst e
    rw [hx] at hy
    cases hy
    simp only [if_true]
    refine ⟨?_, ?_, ⟨u, ?_, hu⟩, ?_, ?_, hb⟩
    · rw [List.getElem?_append_right (by omega), hl, Nat.sub_self]; rfl
    · rw [List.getElem?_append_right (by omega), hl, show j * 5 + 1 - j * 5 = 1 by omega]; rfl
    · rw [List.getElem?_append_right (by omega), hl, show j * 5 + 2 - j * 5 = 2 by omega]; rfl
    · rw [List.getElem?_append_right (by omega), hl, show j * 5 + 3 - j * 5 = 3 by omega]; rfl
    · rw [List.getElem?_append_right (by omega), hl, show j * 5 + 4 - j * 5 = 4 by omega]; rfl
  · obtain ⟨h0, h1, ⟨v, h2, h2'⟩, h3, h4, h5⟩ := h j y (by omega) hy
    simp only [if_neg e]
    refine ⟨?_, ?_, ⟨v, ?_, hk j y v (by omega) hy h2'⟩, ?_, ?_, h5⟩
    · rw [List.getElem?_append_left (by omega)]; exact h0
    · rw [List.getElem?_append_left (by omega)]; exact h1
    · rw [List.getElem?_append_left (by omega)]; exact h2
    · rw [List.getElem?_append_left (by omega)]; exact h3
    · rw [List.getElem?_append_left (by omega)]; exact h4

end Go.Proofs.YtdhinkgjiapigaaDoor

namespace Go.Proofs.YtdhinkgjiapigaaDoor
open Go.RowKit Go.Deep
theorem Boxes.but {w : World} {bs : List (TypeId × Array Value)} {W W' : World} {K : Nat → Prop} (h : Boxes w bs W) (hB : But K W W') (hK : ∀ c, c < w.heap.size + bs.length → K c) : Boxes w bs W' := by
  refine ⟨h.below.trans (hB.below h.below.size fun c hc => hK c (by omega)), fun j t c hj => ?_⟩
  have hjl := (List.getElem?_eq_some_iff.1 hj).1
  exact hB.row (h.row j t c hj) (hK _ (by omega))
/-- append of one integer to a list that the call owns. -/
theorem own_snoc {W W' : World} {base : Nat} {e size : Nat} {v : Value} {n : Nat} {xs : List Value} (hown : W.ownsRow base e size v n xs) (hg : W.grownBy W' v.ownBlock) {B : Nat} (hB : B ≤ base) (hBW : B ≤ W.heap.size) : Below B W W' :=
  (Below.refl _ _).grown hg hBW fun _k hk => Nat.le_trans hB (own_block hown hk).1
def ints (l : List Int) : List Value := l.map (Value.int .i64)
theorem ints_append (a b : List Int) : ints (a ++ b) = ints a ++ ints b := List.map_append
theorem ints_length (l : List Int) : (ints l).length = l.length := List.length_map _
theorem own_ints {w : World} {base : Nat} {v : Value} {l : List Int} {n : Nat} (h : w.ownsRow base 3 1 v n (ints l)) : n = l.length ∧ Ints (fun c => base ≤ c ∧ c < w.heap.size) w v l := by
  have hn : n = l.length := by have := h.1; rw [ints_length] at this; omega
  refine ⟨hn, ?_⟩
  subst hn
  rcases Nat.eq_zero_or_pos l.length with e | e
  · obtain ⟨-, ⟨rfl, -⟩ | ⟨g, cap, cur, rfl, -⟩⟩ := h
    · exact ⟨none, 0, by rw [e], .inl e⟩
    · exact ⟨_, cap, rfl, .inl e⟩
  · obtain ⟨g, cap, f, rfl, hb, hr, hc, hf⟩ := own_row h e
    exact ⟨_, cap, rfl, .inr ⟨g, 0, rfl, ⟨hb, hr.lt⟩, fun i hi x hx => by rw [Nat.zero_add, hr.cell (by omega), hf i (.int .i64 x) (by unfold ints; rw [List.getElem?_map, hx]; rfl)]⟩⟩

theorem made_bools {W : World} {n : Nat} (_hn : 0 < n) : OBools (W.alloc (.cells (madeCells #[.bool false] n) 4)) (.slice (some ⟨W.heap.size, 0, none⟩) n n) (List.replicate n false) W.heap.size := by
  refine ⟨_, n, n, by rw [List.length_replicate], World.rowIs_made W _ n _, by rw [List.length_replicate]; exact Nat.le_refl _, fun i x hx => ?_⟩
  have := (List.mem_replicate.1 (List.mem_of_getElem? hx)).2
  rw [this]
theorem held4 (w : World) (o1 o2 o3 : Obj) {n : Nat} (hn : 0 < n) : OBools ((((w.alloc o1).alloc o2).alloc o3).alloc (.cells (madeCells #[.bool false] n) 4)) (.slice (some ⟨w.heap.size + 1 + 1 + 1, 0, none⟩) n n) (List.replicate n false) (w.heap.size + 1 + 1 + 1) ∧ Below w.heap.size w ((((w.alloc o1).alloc o2).alloc o3).alloc (.cells (madeCells #[.bool false] n) 4)) := by
  have hs : (((w.alloc o1).alloc o2).alloc o3).heap.size = w.heap.size + 1 + 1 + 1 := by simp
  have := made_bools (W := ((w.alloc o1).alloc o2).alloc o3) hn
  rw [hs] at this
  exact ⟨this, (((((Below.refl _ _).alloc (Nat.le_refl _) _).alloc (by simp) _).alloc (by simp; omega) _).alloc (by simp; omega) _)⟩

set_option maxRecDepth 100000 in
set_option maxHeartbeats 2000000 in
theorem idleHeld0 (u0 u1 u2 u3 u4 : Value) (secs : List Int) (w : World) (hu : Ints (In w) w u0 secs) (hn1 : 1 ≤ secs.length) (hn : secs.length ≤ 30) :
    Calls Tryd.prog 37 #[.agg #[], .agg #[u0, u1, u2, u3, u4]] w fun e w' => ∃ a c b, e = .returned (.agg #[.int .i64 0, .int .i64 0, .slice a secs.length c, .bool false, .int .i64 0]) ∧ OBools w' (.slice a secs.length c) (idleD secs.length).been b ∧ w.heap.size ≤ b ∧ Below w.heap.size w w' := by
  obtain ⟨a0, c0, rfl, -⟩ := hu
  have hmk := run_make_row' (P := Tryd.prog) 38 4 (.bool false) 1 Tryd.underlying38 Tryd.infoBool rfl .i64 .i64 secs.length (by omega) (by omega)
  go_enter Tryd.func37, Tryd.ntmps37
  go_wp2
  exact bodyPost_ret (v := .agg #[.int .i64 0, .int .i64 0, .slice (some ⟨w.heap.size + 1 + 1 + 1, 0, none⟩) secs.length secs.length, .bool false, .int .i64 0]) (by simp [results, Tryd.results37, go_sem]) rfl ⟨_, _, _, rfl, (held4 w _ _ _ hn1).1, by omega, (held4 w _ _ _ hn1).2⟩
theorem ckb' {W W' : World} {b o : Nat} {v : Value} (h : W.cell? ⟨b, o, none⟩ = some v) (hb : Below W.heap.size W W') : W'.cell? ⟨b, o, none⟩ = some v :=
  (hb.cell (p := ⟨b, o, none⟩) (World.block_lt_of_cell? _ _ h)).trans h
theorem Right.way {p : PlanD} (h : Right p) {i : Nat} {x : WayD} (hx : p.ways[i]? = some x) : WayOk p.sections p.switches x := Classical.byContradiction fun e => h.parts.2.2.1 i ⟨x, hx, e⟩
end Go.Proofs.YtdhinkgjiapigaaDoor

import Derived.Test.YtdnnblknjmlgeaaDoorWay
namespace Go.Proofs.YtdnnblknjmlgeaaDoor
open Go.RowKit Go.Deep
open Classical

theorem Tryd.infoSet : (Tryd.prog.info? 138).map (fun i => (i.zero, i.size, i.bytes)) = some (some (.agg #[.int .u32 0, .int .u32 0]), 2, 8) := by kernel_rfl

/-- A slice of sets of the ways' sections. -/
def Sets (P : Nat → Prop) (w : World) (v : Value) (l : List WayD) : Prop :=
  Sl P v l.length fun b off i => ∀ x, l[i]? = some x → ∃ A C, SetIs A C x.sections ∧ w.cell? ⟨b, off + i * 2, none⟩ = some (.int .u32 (A : Int)) ∧ w.cell? ⟨b, off + i * 2 + 1, none⟩ = some (.int .u32 (C : Int))
theorem Sets.keep {P Q : Nat → Prop} {w w' : World} {v : Value} {l : List WayD} (h : Sets P w v l) (hs : Same P w w') (hP : ∀ b, P b → Q b) : Sets Q w' v l :=
  Sl.imp h hP fun b off i hb _ he x hx => by
    obtain ⟨A, C, h1, h2, h3⟩ := he x hx
    exact ⟨A, C, h1, by rw [hs b hb]; exact h2, by rw [hs b hb]; exact h3⟩

theorem own_keep {W W' : World} {base : Nat} {e : TypeId} {size : Nat} {v : Value} {n : Nat} {xs : List Value} (h : W.ownsRow base e size v n xs) (hb : Below W.heap.size W W') : W'.ownsRow base e size v n xs := by
  obtain ⟨h1, h2 | ⟨g, cap, cur, hv, hg, hblk, hr⟩⟩ := h
  · exact ⟨h1, .inl h2⟩
  · refine ⟨h1, .inr ⟨g, cap, cur, hv, hg, ?_, hr⟩⟩
    have hlt : g < W.heap.size := by
      rcases Nat.lt_or_ge g W.heap.size with e | e
      · exact e
      · rw [Array.getElem?_eq_none e] at hblk; cases hblk
    rw [hb.block g hlt]; exact hblk
/-- What xs holds: two words for each of the first k ways. -/
def Words (l : List WayD) (k : Nat) (xs : List Value) : Prop := xs.length = k * 2 ∧ ∀ j x, j < k → l[j]? = some x → ∃ A C, SetIs A C x.sections ∧ xs[j * 2]? = some (.int .u32 ((A : Nat) : Int)) ∧ xs[j * 2 + 1]? = some (.int .u32 ((C : Nat) : Int))
theorem Words.snoc {l : List WayD} {k : Nat} {xs : List Value} (h : Words l k xs) {x : WayD} {A C : Nat} (hx : l[k]? = some x) (hs : SetIs A C x.sections) : Words l (k + 1) (xs ++ [.int .u32 (A : Int), .int .u32 (C : Int)]) := by
  refine ⟨by rw [List.length_append, h.1]; simp; omega, fun j y hj hy => ?_⟩
  by_cases e : j = k
  · subst e
    rw [hx] at hy; cases hy
    refine ⟨A, C, hs, ?_, ?_⟩
    · rw [List.getElem?_append_right (by rw [h.1]; exact Nat.le_refl _), h.1, Nat.sub_self]; rfl
    · rw [List.getElem?_append_right (by rw [h.1]; omega), h.1, show j * 2 + 1 - j * 2 = 1 by omega]; rfl
  · obtain ⟨A', C', h1, h2, h3⟩ := h.2 j y (by omega) hy
    exact ⟨A', C', h1, by rw [List.getElem?_append_left (by rw [h.1]; omega)]; exact h2, by rw [List.getElem?_append_left (by rw [h.1]; omega)]; exact h3⟩
theorem Sets.made {w W : World} {l : List WayD} {n g base : Nat} {e : TypeId} {xs : List Value} (hn : l.length = n) (h : W.ownsRow base e 2 (.slice (some ⟨g, 0, none⟩) n n) n xs) (hw : Words l n xs) (hg : w.heap.size ≤ g) : Sets (New w W) W (.slice (some ⟨g, 0, none⟩) n n) l := by
  subst hn
  obtain ⟨h1, ⟨h2, h3⟩ | ⟨g', cap, cur, hv, hb, hblk, hc1, hc2, hc3, hc4⟩⟩ := h
  · exact ⟨_, _, rfl, .inl h3⟩
  · cases hv
    have hlt : g < W.heap.size := by
      rcases Nat.lt_or_ge g W.heap.size with e | e
      · exact e
      · rw [Array.getElem?_eq_none e] at hblk; cases hblk
    refine ⟨_, _, rfl, .inr ⟨g, 0, rfl, ⟨hg, hlt⟩, fun i hi x hx => ?_⟩⟩
    obtain ⟨A, C, p1, p2, p3⟩ := hw.2 i x hi hx
    refine ⟨A, C, p1, ?_, ?_⟩
    · rw [← hc4, List.getElem?_take, if_pos (by omega)] at p2
      simp only [World.cell?, hblk, Nat.zero_add]
      simpa using p2
    · rw [← hc4, List.getElem?_take, if_pos (by omega)] at p3
      simp only [World.cell?, hblk, Nat.zero_add]
      simpa using p3

set_option maxHeartbeats 2000000 in
theorem waySets_any (n : Int) (v1 v2 v3 hd : Value) (l : List WayD) (w : World) (hv : Ways (In w) w v2 l) (hl : l.length ≤ 100) (hsm : ∀ x ∈ l, x.Small 1048576) (h60 : n ≤ 60) (hok : ∀ x ∈ l, ListOk n x.sections) :
    Calls Tryd.prog 81 #[.agg #[.int .i64 n, v1, v2, v3, hd]] w fun e w' => ∃ v, e = .returned v ∧ Sets (New w w') w' v l ∧ Below w.heap.size w w' := by
  have T0 := Bx1.start w 33 (.int .i64 n) v1 v2 v3 hd
  obtain ⟨a, cap, rfl, hc⟩ := hv
  generalize hn' : l.length = m at *
  have Hn : Hid (l.length = m) := hn'
  have HC := hide hc
  have HSM := hide hsm
  have HOK := hide hok
  clear hc hn' hsm hok
  obtain ⟨i0, hi, hz0, hz1, hz2⟩ : ∃ i, Tryd.prog.info? 138 = some i ∧ i.zero = some (.agg #[.int .u32 0, .int .u32 0]) ∧ i.size = 2 ∧ i.bytes = 8 := by
    have h := Tryd.infoSet
    cases hi : Tryd.prog.info? 138 with
    | none => rw [hi] at h; cases h
    | some i =>
      rw [hi] at h
      simp only [Option.map_some, Option.some.injEq, Prod.mk.injEq] at h
      exact ⟨i, rfl, h.1, h.2.1, h.2.2⟩
  have hmk : ∀ W : World, (Instr.makeSlice 134 (.int .i64 0) (.int .i64 (m : Int))).run Tryd.prog W = .ok (.slice (some ⟨W.heap.size, 0, none⟩) 0 m) (W.alloc (.cells (madeCells #[.int .u32 0, .int .u32 0] (m * 2)) 138)) := fun W => by
    have := run_make (P := Tryd.prog) W 134 138 i0 _ Tryd.underlying134 hi hz0 .i64 .i64 0 m (by omega) (by omega) (by rw [hz2, ← Int.natCast_mul]; omega) (by omega)
    rw [hz1] at this
    simpa [Value.cells] using this
  have hown0 : ((w.alloc (.cells #[.int .i64 n, v1, .slice a m cap, v3, hd] 33)).alloc (.cells (madeCells #[.int .u32 0, .int .u32 0] (m * 2)) 138)).ownsRow (w.heap.size + 1) 138 2 (.slice (some ⟨w.heap.size + 1, 0, none⟩) 0 m) 0 [] := by
    have := World.ownsRow_made (e := 138) (size := 2) (base := w.heap.size + 1) (w.alloc (.cells #[.int .i64 n, v1, .slice a m cap, v3, hd] 33)) (madeCells #[.int .u32 0, .int .u32 0] (m * 2)) m (by simp) (by unfold maxLen; omega) (size_madeCells _ _)
    simpa using this
  have HI := hide hi
  have HZ := hide hz1
  clear hi hz0 hz1 hz2
  have TT0 := T0.call (below_new _ (.cells (madeCells #[.int .u32 0, .int .u32 0] (m * 2)) 138))
  go_enter Tryd.func81, Tryd.ntmps81
  go_wp2
  go_loopw [3, 15] (fun s i wr => ∃ (k : Nat) (xs : List Value), k ≤ m ∧ i = .int .i64 k ∧ s = .slice (some ⟨w.heap.size + 1, 0, none⟩) k m ∧ wr.ownsRow (w.heap.size + 1) 138 2 (.slice (some ⟨w.heap.size + 1, 0, none⟩) k m) k xs ∧ Words l k xs ∧ Bx1 w 33 (five (.int .i64 n) v1 (.slice a m cap) v3 hd) wr) (fun _ i _ => m - (intOf i).toNat)
  case atStart => exact ⟨0, [], Nat.zero_le _, rfl, rfl, hown0, ⟨rfl, fun j _ hj => by omega⟩, TT0⟩
  case round =>
    obtain ⟨k, xs, hk, rfl, rfl, hown, hwd, T1⟩ := hrel
    rename World => wo
    have HW := hide hwd
    have HOW := hide hown
    clear hwd hown T0 TT0 hown0 hmk
    obtain ⟨b0, b1, b2, b3, b4⟩ := T1.cells
    by_cases hlt : k < m
    · obtain h0 | ⟨b, off, rfl, hb0, hc⟩ := HC.out
      · omega
      obtain ⟨x, hx⟩ := get_some l Hn hlt
      obtain ⟨u0, u1, u2, u3, u4, hw, g0, g1, g2, g3, g4⟩ := hc k hlt x hx
      rw [← T1.below.cell (p := ⟨b, _, none⟩) hb0] at g0 g1 g2 g3 g4
      have hsx := HSM.out x (List.mem_of_getElem? hx)
      have hox := HOK.out x (List.mem_of_getElem? hx)
      have Hx := hide hx
      have hz := T1.one.lt
      have T2 := T1.call (below_new _ (.cells #[u0, u1, u2, u3, u4] 59))
      have HO2 := hide (own_keep HOW.out (below_new _ (.cells #[u0, u1, u2, u3, u4] 59)))
      have hq := setOf_any n v1 (.slice (some ⟨b, off, none⟩) m cap) v3 hd u0 x.sections _ (hw.1.keep (In.keep T2.below).1 (In.keep T2.below).2) hsx.1 h60
      have HQ := hide hq
      obtain ⟨⟨p0, o0, rfl, -⟩, ⟨p1, o1, rfl, -⟩, ⟨p2, o2, rfl, -⟩, ⟨p3, o3, rfl, -⟩, ⟨p4, o4, rfl, -⟩⟩ := hw
      clear hx hc hsx hq HOW
      go_wp2_with fail
      refine HQ.out.mono ?_
      clear b0 b1 b2 b3 b4 g0 g1 g2 g3 g4 hz HQ
      rintro e w1 ⟨A, C, rfl, hset, hb1⟩
      have hset := hset hox
      have HST := hide hset
      have T3 := T2.call hb1
      have HO3 := hide (own_keep HO2.out hb1)
      clear hset T1 T2 HO2 hb1
      have hb2 := below_new w1 (.cells #[.int .u32 (A : Int), .int .u32 (C : Int)] 138)
      have T4 := T3.call hb2
      have HO4 := own_keep HO3.out hb2
      have hb3 := below_new (w1.alloc (.cells #[.int .u32 (A : Int), .int .u32 (C : Int)] 138)) (.cells #[.int .u32 (A : Int), .int .u32 (C : Int)] 138)
      have T5 := T4.call hb3
      have HO5 := hide (own_keep HO4 hb3)
      clear HO4 HO3 hb2 hb3 T3 T4
      go_wp2_with (at_builtin; refine wpList_append_fits _ rfl _ _ 134 rfl (w.heap.size + 1) 138 i0 2 Tryd.underlying134 HI.out HZ.out (w.heap.size + 1) k m xs rfl HO5.out ⟨w1.heap.size + 1, 0, none⟩ 1 1 [.int .u32 (A : Int), .int .u32 (C : Int)] rfl rfl ?c1 ?c2 ?c3 ?_)
      case c1 =>
        intro j u hj
        match j, hj with
        | 0, hj => simp at hj; subst hj; simp [Addr.add]
        | 1, hj => simp at hj; subst hj; simp [Addr.add]
      case c2 => intro u hu; simp at hu; rcases hu with rfl | rfl <;> rfl
      case c3 => omega
      intro w2 hown2 hgrow
      have T6 : Bx1 w 33 (five (.int .i64 n) v1 (.slice (some ⟨b, off, none⟩) m cap) v3 hd) w2 :=
        ⟨T5.below.grown hgrow T5.below.size (fun k hk => by cases hk; omega), T5.one.of_block (hgrow.block _ T5.one.lt (fun e => by have := Option.some.inj e; omega))⟩
      have HO6 := hide hown2
      clear T5 HO5 hown2 hgrow
      go_wp2
      go_roundw
      case rel => exact ⟨k + 1, _, by omega, by go_num, rfl, HO6.out, HW.out.snoc Hx.out HST.out, T6⟩
      case measure => simp [intOf]; omega
    · go_wp2
      go_ret
      have hkm : k = m := by omega
      subst hkm
      exact ⟨.slice (some ⟨w.heap.size + 1, 0, none⟩) k k, rfl, Sets.made Hn.out HOW.out HW.out (by omega), T1.below⟩
end Go.Proofs.YtdnnblknjmlgeaaDoor

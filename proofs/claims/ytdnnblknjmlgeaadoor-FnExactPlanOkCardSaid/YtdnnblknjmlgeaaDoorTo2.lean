import Derived.Test.YtdnnblknjmlgeaaDoorTo
namespace Go.Proofs.YtdnnblknjmlgeaaDoor
open Go.RowKit Go.Deep

/-- Blocks from m on that are there. -/
def Above (m : Nat) (w : World) (b : Nat) : Prop := m ≤ b ∧ b < w.heap.size ∧ Thaw w b
theorem Above.call {m : Nat} {W W' : World} {b : Nat} (h : Above m W b) (hb : Below W.heap.size W W') : Above m W' b :=
  ⟨h.1, Nat.lt_of_lt_of_le h.2.1 hb.size, fun o => (hb.frozen (p := ⟨b, o, none⟩) h.2.1).trans (h.2.2 o)⟩
theorem Above.store {m : Nat} {W : World} {b : Nat} (h : Above m W b) (a : Addr) (v : Value) (_ha : a.block < m) : Above m (W.setCell a v) b :=
  ⟨h.1, by simpa [World.setCell] using h.2.1, fun o => (World.frozen?_setCell _ _ _ _).trans (h.2.2 o)⟩

theorem same_set {P : Nat → Prop} (w : World) (a : Addr) (v : Value) (h : ∀ b, P b → b ≠ a.block) : Same P w (w.setCell a v) := by
  intro b hb o
  exact World.cell?_of_block (w := w) (Below.heap_setCell w a v b (h b hb))

abbrev Dat := (Nat → Prop) → World → Prop
/-- A reading that stands where its blocks stand. -/
def Keepable (D : Dat) : Prop := ∀ P Q W W', D P W → Same P W W' → (∀ b, P b → Q b) → D Q W'
theorem Keepable.and {D E : Dat} (h : Keepable D) (k : Keepable E) : Keepable (fun P W => D P W ∧ E P W) := fun _ _ _ _ x s q => ⟨h _ _ _ _ x.1 s q, k _ _ _ _ x.2 s q⟩
theorem keep_true : Keepable (fun _ _ => True) := fun _ _ _ _ _ _ _ => trivial
theorem keep_ints (v : Value) (l : List Int) : Keepable (fun P W => Ints P W v l) := fun _ _ _ _ h s q => h.keep s q
theorem keep_lies (v : Value) (l : List (Int × Int)) : Keepable (fun P W => Lies P W v l) := fun _ _ _ _ h s q => h.keep s q
theorem keep_bools (v : Value) (l : List Bool) : Keepable (fun P W => Bools P W v l) := fun _ _ _ _ h s q => h.keep s q
theorem keep_ways (v : Value) (l : List WayD) : Keepable (fun P W => Ways P W v l) := fun _ _ _ _ h s q => h.keep s q
theorem keep_rows (v : Value) (l : List (List Bool)) : Keepable (fun P W => Rows2 P W v l) := fun _ _ _ _ h s q => h.keep s q

/-- Three blocks of a call that copies a struct of five cells: the parameter's box, the result's, the copy's; D: what the call has made besides. -/
structure Copy (w : World) (tb tr : TypeId) (box : Nat → Value) (D : Dat) (W : World) (f g : Nat → Value) : Prop where
  below : Below w.heap.size w W
  box : W.rowIs w.heap.size tb 5 box
  res : W.rowIs (w.heap.size + 1) tr 5 g
  out : W.rowIs (w.heap.size + 1 + 1) tr 5 f
  keep : Keepable D
  made : D (Above (w.heap.size + 1 + 1 + 1) W) W
theorem Copy.call {w : World} {tb tr : TypeId} {box : Nat → Value} {D : Dat} {W W' : World} {f g : Nat → Value} (h : Copy w tb tr box D W f g) (hb : Below W.heap.size W W') : Copy w tb tr box D W' f g :=
  ⟨h.below.trans (hb.mono h.below.size), rowIs_keep h.box hb, rowIs_keep h.res hb, rowIs_keep h.out hb, h.keep, h.keep _ _ _ _ h.made (same_below hb fun _ hb => hb.2.1) fun _ hx => hx.call hb⟩
theorem Copy.store {w : World} {tb tr : TypeId} {box : Nat → Value} {D : Dat} {W : World} {f g : Nat → Value} (h : Copy w tb tr box D W f g) (i : Nat) (v : Value) : Copy w tb tr box D (W.setCell ⟨w.heap.size + 1 + 1, i, none⟩ v) (fun j => if j = i then v else f j) g :=
  ⟨h.below.setCell (by show w.heap.size ≤ w.heap.size + 1 + 1; omega) _, h.box.setOther (by show w.heap.size ≠ w.heap.size + 1 + 1; omega) _, h.res.setOther (by show w.heap.size + 1 ≠ w.heap.size + 1 + 1; omega) _, h.out.set i v, h.keep,
    h.keep _ _ _ _ h.made (same_set _ _ _ fun b hb => by have := hb.1; show b ≠ w.heap.size + 1 + 1; omega) fun _ hx => hx.store _ _ (by show _ < w.heap.size + 1 + 1 + 1; simp only []; omega)⟩
theorem Copy.storeRes {w : World} {tb tr : TypeId} {box : Nat → Value} {D : Dat} {W : World} {f g : Nat → Value} (h : Copy w tb tr box D W f g) (i : Nat) (v : Value) : Copy w tb tr box D (W.setCell ⟨w.heap.size + 1, i, none⟩ v) f (fun j => if j = i then v else g j) :=
  ⟨h.below.setCell (by show w.heap.size ≤ w.heap.size + 1; omega) _, h.box.setOther (by show w.heap.size ≠ w.heap.size + 1; omega) _, h.res.set i v, h.out.setOther (by show w.heap.size + 1 + 1 ≠ w.heap.size + 1; omega) _, h.keep,
    h.keep _ _ _ _ h.made (same_set _ _ _ fun b hb => by have := hb.1; show b ≠ w.heap.size + 1; omega) fun _ hx => hx.store _ _ (by show _ < w.heap.size + 1 + 1 + 1; simp only []; omega)⟩
theorem Copy.add {w : World} {tb tr : TypeId} {box : Nat → Value} {D E : Dat} {V W : World} {f g f' g' : Nat → Value} (h : Copy w tb tr box D W f g) (hV : Copy w tb tr box D V f' g') (hk : Keepable E) (he : E (Fresh V W) W) : Copy w tb tr box (fun P W => D P W ∧ E P W) W f g :=
  ⟨h.below, h.box, h.res, h.out, h.keep.and hk, h.made, hk _ _ _ _ he (same_refl _ _) fun b hb => ⟨by have := hV.out.lt; have := hb.1; omega, hb.2⟩⟩
theorem Copy.start (w : World) (tb tr : TypeId) (b0 b1 b2 b3 b4 z0 z1 z2 z3 z4 y0 y1 y2 y3 y4 : Value) :
    Copy w tb tr (fun i => (#[b0, b1, b2, b3, b4] : Array Value)[i]!) (fun _ _ => True) (((w.alloc (.cells #[b0, b1, b2, b3, b4] tb)).alloc (.cells #[z0, z1, z2, z3, z4] tr)).alloc (.cells #[y0, y1, y2, y3, y4] tr))
      (fun i => (#[y0, y1, y2, y3, y4] : Array Value)[i]!) (fun i => (#[z0, z1, z2, z3, z4] : Array Value)[i]!) := by
  have hr : ∀ (u : World) (t : TypeId) (c : Array Value), (u.alloc (.cells c t)).rowIs u.heap.size t c.size (fun i => c[i]!) := fun u t c =>
    World.rowIs_alloc u c t _ fun i hi => by rw [getElem!_pos _ i hi]; exact Array.getElem?_eq_getElem hi
  refine ⟨((((Below.refl _ _).alloc (Nat.le_refl _) _).alloc (by simp) _).alloc (by simp; omega) _), ((hr _ _ _).alloc _).alloc _, ?_, ?_, keep_true, trivial⟩
  · have := (hr (w.alloc (.cells #[b0, b1, b2, b3, b4] tb)) tr #[z0, z1, z2, z3, z4]).alloc (.cells #[y0, y1, y2, y3, y4] tr)
    simpa using this
  · have := hr ((w.alloc (.cells #[b0, b1, b2, b3, b4] tb)).alloc (.cells #[z0, z1, z2, z3, z4] tr)) tr #[y0, y1, y2, y3, y4]
    simpa using this
theorem Copy.boxes {w : World} {tb tr : TypeId} {b0 b1 b2 b3 b4 : Value} {D : Dat} {W : World} {f g : Nat → Value} (h : Copy w tb tr (fun i => (#[b0, b1, b2, b3, b4] : Array Value)[i]!) D W f g) :
    W.cell? ⟨w.heap.size, 0, none⟩ = some b0 ∧ W.cell? ⟨w.heap.size, 1, none⟩ = some b1 ∧ W.cell? ⟨w.heap.size, 2, none⟩ = some b2 ∧ W.cell? ⟨w.heap.size, 3, none⟩ = some b3 ∧ W.cell? ⟨w.heap.size, 4, none⟩ = some b4 :=
  ⟨by simpa using h.box.cell (i := 0) (by omega), by simpa using h.box.cell (i := 1) (by omega), by simpa using h.box.cell (i := 2) (by omega), by simpa using h.box.cell (i := 3) (by omega), by simpa using h.box.cell (i := 4) (by omega)⟩

set_option maxHeartbeats 2000000 in
theorem toWay_any (v0 v1 v2 v3 v4 : Value) (d : WayD) (w : World) (hv : WayAt (In w) w v0 v1 v2 v3 v4 d) (hs : d.Small 1048576) :
    Calls Tryd.prog 56 #[.agg #[v0, v1, v2, v3, v4]] w fun e w' => ∃ u0 u1 u2 u3 u4, e = .returned (.agg #[u0, u1, u2, u3, u4]) ∧ Below w.heap.size w w' ∧ WayAt (Fresh w w') w' u0 u1 u2 u3 u4 d := by
  have C0 := Copy.start w 91 59 v0 v1 v2 v3 v4 (.slice none 0 0) (.slice none 0 0) (.slice none 0 0) (.slice none 0 0) (.slice none 0 0) (.slice none 0 0) (.slice none 0 0) (.slice none 0 0) (.slice none 0 0) (.slice none 0 0)
  have hk : ∀ {W D f g}, Copy w 91 59 (fun i => (#[v0, v1, v2, v3, v4] : Array Value)[i]!) D W f g → WayAt (In W) W v0 v1 v2 v3 v4 d := fun h => hv.keep (In.keep h.below).1 (In.keep h.below).2
  obtain ⟨⟨va0, vc0, e0, -⟩, ⟨va1, vc1, e1, -⟩, ⟨va2, vc2, e2, -⟩, ⟨va3, vc3, e3, -⟩, ⟨va4, vc4, e4, -⟩⟩ := hv
  go_enter Tryd.func56, Tryd.ntmps56
  clear e0 e1 e2 e3 e4
  go_wp2_with fail
  refine (toIntS_any v0 d.sections _ (hk C0).1 hs.1).mono ?_
  rintro e w1 ⟨u0, rfl, hb1, n1⟩
  obtain ⟨a1, p1, rfl⟩ := Sl.size n1
  have C1 := (C0.call hb1).add C0 (keep_ints _ _) n1
  clear C0 n1 hb1
  obtain ⟨-, c1, -, -, -⟩ := C1.boxes
  have o1 := C1.out.cell (i := 0) (by omega)
  have f1 := C1.out.frozen 0
  have S1 := C1.store 0 (.slice a1 d.sections.length p1)
  go_wp2_with fail
  refine (toLieS_any v1 d.lies _ (hk S1).2.1 hs.2.1).mono ?_
  clear c1 o1 f1 C1
  rintro e w2 ⟨u1, rfl, hb2, n2⟩
  obtain ⟨a2, p2, rfl⟩ := Sl.size n2
  have C2 := (S1.call hb2).add S1 (keep_lies _ _) n2
  clear S1 n2 hb2
  obtain ⟨-, -, c1, -, -⟩ := C2.boxes
  have o1 := C2.out.cell (i := 1) (by omega)
  have f1 := C2.out.frozen 1
  have S2 := C2.store 1 (.slice a2 d.lies.length p2)
  go_wp2_with fail
  refine (toLieS_any v2 d.flanks _ (hk S2).2.2.1 hs.2.2.1).mono ?_
  clear c1 o1 f1 C2
  rintro e w3 ⟨u2, rfl, hb3, n3⟩
  obtain ⟨a3, p3, rfl⟩ := Sl.size n3
  have C3 := (S2.call hb3).add S2 (keep_lies _ _) n3
  clear S2 n3 hb3
  obtain ⟨-, -, -, c1, -⟩ := C3.boxes
  have o1 := C3.out.cell (i := 2) (by omega)
  have f1 := C3.out.frozen 2
  have S3 := C3.store 2 (.slice a3 d.flanks.length p3)
  go_wp2_with fail
  refine (toIntS_any v3 d.over _ (hk S3).2.2.2.1 hs.2.2.2.1).mono ?_
  clear c1 o1 f1 C3
  rintro e w4 ⟨u3, rfl, hb4, n4⟩
  obtain ⟨a4, p4, rfl⟩ := Sl.size n4
  have C4 := (S3.call hb4).add S3 (keep_ints _ _) n4
  clear S3 n4 hb4
  obtain ⟨-, -, -, -, c1⟩ := C4.boxes
  have o1 := C4.out.cell (i := 3) (by omega)
  have f1 := C4.out.frozen 3
  have S4 := C4.store 3 (.slice a4 d.over.length p4)
  go_wp2_with fail
  refine (toIntS_any v4 d.near _ (hk S4).2.2.2.2 hs.2.2.2.2).mono ?_
  clear c1 o1 f1 C4
  rintro e w5 ⟨u4, rfl, hb5, n5⟩
  obtain ⟨a5, p5, rfl⟩ := Sl.size n5
  have C5 := (S4.call hb5).add S4 (keep_ints _ _) n5
  clear S4 n5 hb5
  have o0 : w5.cell? ⟨w.heap.size + 1 + 1, 0, none⟩ = some (.slice a1 d.sections.length p1) := by simpa using C5.out.cell (i := 0) (by omega)
  have o1 : w5.cell? ⟨w.heap.size + 1 + 1, 1, none⟩ = some (.slice a2 d.lies.length p2) := by simpa using C5.out.cell (i := 1) (by omega)
  have o2 : w5.cell? ⟨w.heap.size + 1 + 1, 2, none⟩ = some (.slice a3 d.flanks.length p3) := by simpa using C5.out.cell (i := 2) (by omega)
  have o3 : w5.cell? ⟨w.heap.size + 1 + 1, 3, none⟩ = some (.slice a4 d.over.length p4) := by simpa using C5.out.cell (i := 3) (by omega)
  have o4 := C5.out.cell (i := 4) (by omega)
  have f4 := C5.out.frozen 4
  have r0 := C5.res.cell (i := 0) (by omega)
  have r1 := C5.res.cell (i := 1) (by omega)
  have r2 := C5.res.cell (i := 2) (by omega)
  have r3 := C5.res.cell (i := 3) (by omega)
  have r4 := C5.res.cell (i := 4) (by omega)
  have k0 := C5.res.frozen 0
  have k1 := C5.res.frozen 1
  have k2 := C5.res.frozen 2
  have k3 := C5.res.frozen 3
  have k4 := C5.res.frozen 4
  have F := (((((C5.store 4 (.slice a5 d.near.length p5)).storeRes 0 (.slice a1 d.sections.length p1)).storeRes 1 (.slice a2 d.lies.length p2)).storeRes 2 (.slice a3 d.flanks.length p3)).storeRes 3 (.slice a4 d.over.length p4)).storeRes 4 (.slice a5 d.near.length p5)
  have FF := hide F
  clear C5 F
  go_wp2
  refine bodyPost_ret (v := .agg #[.slice a1 d.sections.length p1, .slice a2 d.lies.length p2, .slice a3 d.flanks.length p3, .slice a4 d.over.length p4, .slice a5 d.near.length p5]) (by simp [results, Tryd.results56, go_sem, r0, r1, r2, r3, r4]) rfl ⟨_, _, _, _, _, rfl, FF.out.below, ?_⟩
  obtain ⟨⟨⟨⟨⟨-, m1⟩, m2⟩, m3⟩, m4⟩, m5⟩ := FF.out.made
  have hq : ∀ W b, Above (w.heap.size + 1 + 1 + 1) W b → Fresh w W b := fun W b hb => ⟨by have := hb.1; omega, hb.2⟩
  exact ⟨m1.keep (same_refl _ _) (hq _), m2.keep (same_refl _ _) (hq _), m3.keep (same_refl _ _) (hq _), m4.keep (same_refl _ _) (hq _), m5.keep (same_refl _ _) (hq _)⟩
end Go.Proofs.YtdnnblknjmlgeaaDoor

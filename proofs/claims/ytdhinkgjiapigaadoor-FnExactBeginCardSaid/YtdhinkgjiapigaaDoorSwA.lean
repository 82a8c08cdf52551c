import Derived.Test.YtdhinkgjiapigaaDoorSetA
import Derived.Test.YtdhinkgjiapigaaDoorToA
namespace Go.Proofs.YtdhinkgjiapigaaDoor
open Go.RowKit Go.Deep
open Classical

/-- switchesOk's blocks: the plan's box, the way's, the set's, the array of what was seen. -/
structure Bw (w : World) (t tw ts ta : TypeId) (f g : Nat → Value) (A C : Nat) (s : Nat → Bool) (W : World) : Prop where
  below : Below w.heap.size w W
  one : W.rowIs w.heap.size t 5 f
  way : W.rowIs (w.heap.size + 1) tw 5 g
  set : W.rowIs (w.heap.size + 1 + 1) ts 2 (two (.int .u32 (A : Int)) (.int .u32 (C : Int)))
  seen : W.rowIs (w.heap.size + 1 + 1 + 1) ta 40 (fun i => .bool (s i))
theorem Bw.call {w : World} {t tw ts ta : TypeId} {f g : Nat → Value} {A C : Nat} {s : Nat → Bool} {W W' : World} (h : Bw w t tw ts ta f g A C s W) (hb : Below W.heap.size W W') : Bw w t tw ts ta f g A C s W' :=
  ⟨h.below.trans (hb.mono h.below.size), rowIs_keep h.one hb, rowIs_keep h.way hb, rowIs_keep h.set hb, rowIs_keep h.seen hb⟩
theorem Bw.start (w : World) (t tw ts ta : TypeId) (b0 b1 b2 b3 b4 z0 z1 z2 z3 z4 : Value) (A C : Nat) (c : Array Value) (hc : c = Array.replicate 40 (.bool false)) :
    Bw w t tw ts ta (five b0 b1 b2 b3 b4) (five z0 z1 z2 z3 z4) A C (fun _ => false) ((((w.alloc (.cells #[b0, b1, b2, b3, b4] t)).alloc (.cells #[z0, z1, z2, z3, z4] tw)).alloc (.cells #[.int .u32 (A : Int), .int .u32 (C : Int)] ts)).alloc (.cells c ta)) := by
  have e1 : (w.alloc (.cells #[b0, b1, b2, b3, b4] t)).heap.size = w.heap.size + 1 := by simp
  have e2 : ((w.alloc (.cells #[b0, b1, b2, b3, b4] t)).alloc (.cells #[z0, z1, z2, z3, z4] tw)).heap.size = w.heap.size + 1 + 1 := by simp
  have e3 : (((w.alloc (.cells #[b0, b1, b2, b3, b4] t)).alloc (.cells #[z0, z1, z2, z3, z4] tw)).alloc (.cells #[.int .u32 (A : Int), .int .u32 (C : Int)] ts)).heap.size = w.heap.size + 1 + 1 + 1 := by simp
  refine ⟨(((((Below.refl _ _).alloc (Nat.le_refl _) _).alloc (by simp) _).alloc (by simp; omega) _).alloc (by simp; omega) _), (((rowIs_new _ _ _).alloc _).alloc _).alloc _, ?_, ?_, ?_⟩
  · have := ((rowIs_new (w.alloc (.cells #[b0, b1, b2, b3, b4] t)) tw #[z0, z1, z2, z3, z4]).alloc (.cells #[.int .u32 (A : Int), .int .u32 (C : Int)] ts)).alloc (.cells c ta)
    rw [e1] at this
    exact this
  · have := (rowIs_new ((w.alloc (.cells #[b0, b1, b2, b3, b4] t)).alloc (.cells #[z0, z1, z2, z3, z4] tw)) ts #[.int .u32 (A : Int), .int .u32 (C : Int)]).alloc (.cells c ta)
    rw [e2] at this
    exact this
  · subst hc
    have := rowIs_new (((w.alloc (.cells #[b0, b1, b2, b3, b4] t)).alloc (.cells #[z0, z1, z2, z3, z4] tw)).alloc (.cells #[.int .u32 (A : Int), .int .u32 (C : Int)] ts)) ta (Array.replicate 40 (.bool false))
    rw [e3, Array.size_replicate] at this
    exact this.congr fun i hi => by rw [getElem!_pos _ i (by rw [Array.size_replicate]; exact hi), Array.getElem_replicate]
theorem Bw.cells {w : World} {t tw ts ta : TypeId} {b0 b1 b2 b3 b4 z0 z1 z2 z3 z4 : Value} {A C : Nat} {s : Nat → Bool} {W : World} (h : Bw w t tw ts ta (five b0 b1 b2 b3 b4) (five z0 z1 z2 z3 z4) A C s W) :
    (W.cell? ⟨w.heap.size, 0, none⟩ = some b0 ∧ W.cell? ⟨w.heap.size, 1, none⟩ = some b1 ∧ W.cell? ⟨w.heap.size, 2, none⟩ = some b2 ∧ W.cell? ⟨w.heap.size, 3, none⟩ = some b3 ∧ W.cell? ⟨w.heap.size, 4, none⟩ = some b4) ∧
    (W.cell? ⟨w.heap.size + 1, 0, none⟩ = some z0 ∧ W.cell? ⟨w.heap.size + 1, 1, none⟩ = some z1 ∧ W.cell? ⟨w.heap.size + 1, 2, none⟩ = some z2 ∧ W.cell? ⟨w.heap.size + 1, 3, none⟩ = some z3 ∧ W.cell? ⟨w.heap.size + 1, 4, none⟩ = some z4) ∧
    (W.cell? ⟨w.heap.size + 1 + 1, 0, none⟩ = some (.int .u32 (A : Int)) ∧ W.cell? ⟨w.heap.size + 1 + 1, 1, none⟩ = some (.int .u32 (C : Int))) :=
  ⟨Bx1.cells ⟨h.below, h.one⟩, (Bx2.cells ⟨h.below, h.one, h.way⟩).2, by simpa [two] using h.set.cell (i := 0) (by omega), by simpa [two] using h.set.cell (i := 1) (by omega)⟩
theorem Bw.mark {w : World} {t tw ts ta : TypeId} {f g : Nat → Value} {A C : Nat} {s : Nat → Bool} {W : World} (h : Bw w t tw ts ta f g A C s W) (i : Nat) :
    Bw w t tw ts ta f g A C (fun j => if j = i then true else s j) (W.setCell ⟨w.heap.size + 1 + 1 + 1, i, none⟩ (.bool true)) := by
  refine ⟨h.below.setCell (by show w.heap.size ≤ w.heap.size + 1 + 1 + 1; omega) _, h.one.setOther (by show w.heap.size ≠ w.heap.size + 1 + 1 + 1; omega) _, h.way.setOther (by show w.heap.size + 1 ≠ w.heap.size + 1 + 1 + 1; omega) _, h.set.setOther (by show w.heap.size + 1 + 1 ≠ w.heap.size + 1 + 1 + 1; omega) _, (h.seen.set i _).congr fun j _ => ?_⟩
  by_cases e : j = i
  · rw [if_pos e, if_pos e]
  · rw [if_neg e, if_neg e]

def SwOk (sw : List Int) (d : WayD) : Prop := LiesOk sw.length d.lies ∧ LiesOk sw.length d.flanks ∧ ∀ x ∈ d.lies, OnOk sw d x
/-- What the first loop asks of one switch of Lies. -/
def LieAt (sw : List Int) (d : WayD) (j : Nat) : Prop := ∀ x, d.lies[j]? = some x → (InR x.1 0 ((sw.length : Int) - 1) ∧ InR x.2 1 2) ∧ (∀ q y, q < j → d.lies[q]? = some y → y.1 ≠ x.1) ∧ ∃ s, sw[x.1.toNat]? = some s ∧ s ∈ d.sections
/-- What the second loop asks of one switch of Flanks. -/
def FlankAt (sw : List Int) (d : WayD) (j : Nat) : Prop := ∀ x, d.flanks[j]? = some x → (InR x.1 0 ((sw.length : Int) - 1) ∧ InR x.2 1 2) ∧ (∀ y ∈ d.lies, y.1 ≠ x.1) ∧ ∀ q y, q < j → d.flanks[q]? = some y → y.1 ≠ x.1
theorem swOk_iff (sw : List Int) (d : WayD) : SwOk sw d ↔ (d.lies.length ≤ 30 ∧ d.flanks.length ≤ 30 ∧ (∀ j, j < d.lies.length → LieAt sw d j) ∧ ∀ j, j < d.flanks.length → FlankAt sw d j) := by
  constructor
  · rintro ⟨h1, h2, h3⟩
    refine ⟨h1.2, h2.2, fun j hj x hx => ?_, fun j hj x hx => ?_⟩
    · have a := h1.1 j hj x hx
      exact ⟨a.1, a.2, (h3 x (List.mem_of_getElem? hx)).2⟩
    · have a := h2.1 j hj x hx
      exact ⟨a.1, fun y hy => (h3 y hy).1 x (List.mem_of_getElem? hx), a.2⟩
  · rintro ⟨h1, h2, h3, h4⟩
    refine ⟨⟨fun j hj x hx => ⟨(h3 j hj x hx).1, (h3 j hj x hx).2.1⟩, h1⟩, ⟨fun j hj x hx => ⟨(h4 j hj x hx).1, (h4 j hj x hx).2.2⟩, h2⟩, fun x hx => ⟨fun y hy => ?_, ?_⟩⟩
    · obtain ⟨i, hi⟩ := List.getElem?_of_mem hy
      exact (h4 i (List.getElem?_eq_some_iff.1 hi).1 y hi).2.1 x hx
    · obtain ⟨i, hi⟩ := List.getElem?_of_mem hx
      exact (h3 i (List.getElem?_eq_some_iff.1 hi).1 x hi).2.2
theorem take_step2 {l : List (Int × Int)} {k : Nat} {x : Int × Int} (h : l[k]? = some x) : l.take (k + 1) = l.take k ++ [x] := by
  rw [List.take_add_one, h]; rfl
theorem mem_take2 {l : List (Int × Int)} {k : Nat} {x : Int × Int} (h : x ∈ l.take k) : ∃ q, q < k ∧ l[q]? = some x := by
  obtain ⟨i, hi⟩ := List.getElem?_of_mem h
  have hl := (List.getElem?_eq_some_iff.1 hi).1
  rw [List.length_take] at hl
  refine ⟨i, by omega, ?_⟩
  rw [List.getElem?_take, if_pos (by omega)] at hi
  exact hi
theorem take_mem2 {l : List (Int × Int)} {k q : Nat} {x : Int × Int} (hq : q < k) (h : l[q]? = some x) : x ∈ l.take k :=
  List.mem_of_getElem? (i := q) (by rw [List.getElem?_take, if_pos hq]; exact h)
/-- What was seen. -/
def SeenIs (s : Nat → Bool) (l : List (Int × Int)) : Prop := ∀ i, s i = true ↔ ∃ x ∈ l, x.1 = (i : Int)
theorem SeenIs.snoc {s : Nat → Bool} {l : List (Int × Int)} (h : SeenIs s l) {x : Int × Int} (h0 : 0 ≤ x.1) : SeenIs (fun j => if j = x.1.toNat then true else s j) (l ++ [x]) := by
  intro i
  by_cases e : i = x.1.toNat
  · simp only [if_pos e]
    exact ⟨fun _ => ⟨x, by simp, by omega⟩, fun _ => trivial⟩
  · simp only [if_neg e]
    rw [h i]
    constructor
    · rintro ⟨y, hy, hy2⟩; exact ⟨y, by simp [hy], hy2⟩
    · rintro ⟨y, hy, hy2⟩
      rw [List.mem_append, List.mem_singleton] at hy
      rcases hy with hy | hy
      · exact ⟨y, hy, hy2⟩
      · subst hy; omega

set_option maxHeartbeats 800000 in
theorem switchesOk_any (n hd v2 v3 : Value) (v1 u0 u1 u2 u3 u4 : Value) (sw : List Int) (d : WayD) (A C : Nat) (w : World) (hsw : Ints (In w) w v1 sw) (hw : WayAt (In w) w u0 u1 u2 u3 u4 d)
    (hm : sw.length ≤ 40) (hs : d.Small 1048576) (hset : SetIs A C d.sections) (hrange : ∀ s ∈ sw, 0 ≤ s ∧ s < 64) :
    Calls Tryd.prog 86 #[.agg #[n, v1, v2, v3, hd], .agg #[u0, u1, u2, u3, u4], setV A C] w fun e w' => e = .returned (.bool (B (SwOk sw d))) ∧ Below w.heap.size w w' := by
  obtain ⟨av, cv, rfl, hcv⟩ := hsw
  obtain ⟨⟨a0, c0, rfl, hc0⟩, ⟨a1, c1, rfl, hc1⟩, ⟨a2, c2, rfl, hc2⟩, ⟨a3, c3, rfl, hc3⟩, ⟨a4, c4, rfl, hc4⟩⟩ := hw
  obtain ⟨s0, s1, s2, s3, s4⟩ := hs
  have HV := hide hcv
  have H1 := hide hc1
  have H2 := hide hc2
  have HR := hide hrange
  clear hcv hc0 hc1 hc2 hc3 hc4 hrange
  by_cases l1 : d.lies.length ≤ 30
  case neg =>
    go_enter Tryd.func86, Tryd.ntmps86
    go_wp2
    go_ret
    exact ⟨ret_bool (B_false fun h => l1 h.1.2).symm, (((Below.refl _ _).alloc (Nat.le_refl _) _).alloc (by simp) _).alloc (by simp; omega) _⟩
  by_cases l2 : d.flanks.length ≤ 30
  case neg =>
    go_enter Tryd.func86, Tryd.ntmps86
    go_wp2
    go_ret
    exact ⟨ret_bool (B_false fun h => l2 h.2.1.2).symm, (((Below.refl _ _).alloc (Nat.le_refl _) _).alloc (by simp) _).alloc (by simp; omega) _⟩
  have T0 := Bw.start w 33 59 138 149 n (.slice av sw.length cv) v2 v3 hd (.slice a0 d.sections.length c0) (.slice a1 d.lies.length c1) (.slice a2 d.flanks.length c2) (.slice a3 d.over.length c3) (.slice a4 d.near.length c4) A C _ rfl
  rw [B_congr (j := Classical.propDecidable _) (swOk_iff sw d)]
  go_enter Tryd.func86, Tryd.ntmps86
  go_wp2
  go_loopw [25] (fun i wr => ∃ (k : Nat) (s : Nat → Bool), k ≤ d.lies.length ∧ i = .int .i64 k ∧ (∀ j, j < k → LieAt sw d j) ∧ SeenIs s (d.lies.take k) ∧ Bw w 33 59 138 149 (five n (.slice av sw.length cv) v2 v3 hd) (five (.slice a0 d.sections.length c0) (.slice a1 d.lies.length c1) (.slice a2 d.flanks.length c2) (.slice a3 d.over.length c3) (.slice a4 d.near.length c4)) A C s wr) (fun i _ => d.lies.length - (intOf i).toNat)
  case atStart => exact ⟨0, _, Nat.zero_le _, rfl, fun j hj => by omega, fun i => by simp, T0⟩
  case round =>
    obtain ⟨k, s, hk, rfl, hok, hseen, T1⟩ := hrel
    rename World => wo
    have HO := hide hok
    have HSE := hide hseen
    clear hok hseen T0
    by_cases hlt : k < d.lies.length
    · obtain h0 | ⟨b, off, rfl, hb0, hc⟩ := H1.out
      · omega
      obtain ⟨x, hx⟩ := get_some d.lies (hide rfl) hlt
      obtain ⟨g0, g1⟩ := hc k hlt x hx
      rw [← T1.below.cell (p := ⟨b, _, none⟩) hb0] at g0 g1
      have Hx := hide hx
      clear hx hc
      obtain ⟨⟨p0, p1, p2, p3, p4⟩, ⟨q0, q1, q2, q3, q4⟩, ⟨o0, o1⟩⟩ := T1.cells
      have z1 := T1.one.lt
      have z2 := T1.way.lt
      have z3 := T1.set.lt
      have z4 := T1.seen.lt
      have TW := T1.call (below_new _ (.cells #[.int .i64 x.1, .int .i64 x.2] 95))
      have hq1 : ∀ W, Calls Tryd.prog 74 #[.agg #[n, .slice av sw.length cv, v2, v3, hd], .agg #[.int .i64 x.1, .int .i64 x.2]] W fun e w' => e = .returned (.bool (B (InR x.1 0 ((sw.length : Int) - 1) ∧ InR x.2 1 2))) ∧ Below W.heap.size W w' := fun W => lieOk_any n av sw.length cv v2 v3 hd x.1 x.2 W (by omega)
      have HQ1 := hide hq1
      clear hq1
      have l0 : (wo.alloc (.cells #[.int .i64 x.1, .int .i64 x.2] 95)).cell? ⟨wo.heap.size, 0, none⟩ = some (.int .i64 x.1) := by simp
      have lx1 : (wo.alloc (.cells #[.int .i64 x.1, .int .i64 x.2] 95)).cell? ⟨wo.heap.size, 1, none⟩ = some (.int .i64 x.2) := by simp
      have hne := Ext.any (wo.alloc (.cells #[.int .i64 x.1, .int .i64 x.2] 95))
      have e0 := Ext.cell l0
      have e1 := Ext.cell lx1
      obtain ⟨⟨p0, p1, p2, p3, p4⟩, ⟨-, -, -, -, -⟩, ⟨o0, o1⟩⟩ := TW.cells
      have E0 := Ext.cell p0
      have E1 := Ext.cell p1
      have E2 := Ext.cell p2
      have E3 := Ext.cell p3
      have E4 := Ext.cell p4
      have E5 := Ext.cell o0
      have E6 := Ext.cell o1
      clear p0 p1 p2 p3 p4 o0 o1 l0 lx1
      by_cases hin : InR x.1 0 ((sw.length : Int) - 1) ∧ InR x.2 1 2
      case neg =>
        rw [B_false hin] at HQ1
        have Hin := hide hin
        clear hin
        go_wp2
        refine wp_region_ext (by kernel_rfl) (by kernel_rfl) ?_
        repeat (go_big_quiet_step ((go_at_call 74; exact ext_of (HQ1.out _))))
        refine wpQuiet_nil ?_
        rintro _ ⟨nq, rfl⟩
        go_wp2
        go_ret
        exact ⟨ret_bool (B_false fun h => Hin.out (h.2.2.1 k hlt x Hx.out).1).symm, (TW.call nq.below).below⟩
      rw [B_true hin] at HQ1
      have Hin := hide hin
      obtain ⟨⟨hx0, hx1⟩, -⟩ := hin
      have hx2 : x.1 < (sw.length : Int) := by omega
      have hx3 : x.1 < 40 := by omega
      have hx4 : x.1.toNat < 40 := by omega
      obtain ⟨sv, hsv⟩ : ∃ sv, sw[x.1.toNat]? = some sv := ⟨sw[x.1.toNat]'(by omega), List.getElem?_eq_getElem _⟩
      obtain h0 | ⟨bv, offv, rfl, hbv, hcv⟩ := HV.out
      · omega
      have gv := hcv x.1.toNat (by omega) sv hsv
      rw [← TW.below.cell (p := ⟨bv, _, none⟩) hbv] at gv
      have E8 := Ext.cell gv
      have E7 := Ext.cell (TW.seen.cell hx4)
      have hsr := HR.out sv (List.mem_of_getElem? hsv)
      have hq2 : ∀ W, Calls Tryd.prog 88 #[setV A C, .int .i64 sv] W fun e w' => e = .returned (.bool (B (sv ∈ d.sections))) ∧ Below W.heap.size W w' := fun W => has_any A C d.sections sv W hset hsr.1 hsr.2
      have HQ2 := hide hq2
      have Hsv := hide hsv
      clear hq2 hsv hcv gv hx1 hsr
      by_cases hse : s x.1.toNat = true
      · rw [hse] at E7
        have HSS := hide hse
        clear hse
        go_wp2
        refine wp_region_ext (by kernel_rfl) (by kernel_rfl) ?_
        repeat (go_big_quiet_step ((first | (go_at_call 74; exact ext_of (HQ1.out _)) | (go_at_call 88; exact ext_of (HQ2.out _)))))
        refine wpQuiet_nil ?_
        rintro _ ⟨nq, rfl⟩
        go_wp2
        go_ret
        refine ⟨ret_bool (B_false fun h => ?_).symm, (TW.call nq.below).below⟩
        obtain ⟨y, hy, hy2⟩ := (HSE.out x.1.toNat).1 HSS.out
        obtain ⟨q, hq, hq2⟩ := mem_take2 hy
        exact (h.2.2.1 k hlt x Hx.out).2.1 q y hq hq2 (by omega)
      have hse' : s x.1.toNat = false := by simpa using hse
      rw [hse'] at E7
      have HSS := hide hse
      clear hse hse'
      by_cases hon : sv ∈ d.sections
      · rw [B_true hon] at HQ2
        have Hon := hide hon
        clear hon
        go_wp2
        refine wp_region_ext (by kernel_rfl) (by kernel_rfl) ?_
        repeat (go_big_quiet_step ((first | (go_at_call 74; exact ext_of (HQ1.out _)) | (go_at_call 88; exact ext_of (HQ2.out _)))))
        refine wpQuiet_nil ?_
        rintro _ ⟨nq, rfl⟩
        have hfr := (TW.call nq.below).seen.frozen x.1.toNat
        have hcl := E7 nq
        go_wp2
        go_roundw
        case rel => exact ⟨k + 1, _, by omega, by go_num, fun j hj => by
          by_cases e : j = k
          · subst e; intro z hz; rw [Hx.out] at hz; cases hz
            refine ⟨Hin.out, fun q y hq hy e2 => HSS.out ((HSE.out x.1.toNat).2 ⟨y, take_mem2 hq hy, by omega⟩), sv, Hsv.out, Hon.out⟩
          · exact HO.out j (by omega), by rw [take_step2 Hx.out]; exact SeenIs.snoc HSE.out hx0, (TW.call nq.below).mark x.1.toNat⟩
        case measure => simp [intOf]; omega
      · rw [B_false hon] at HQ2
        have Hon := hide hon
        clear hon
        go_wp2
        refine wp_region_ext (by kernel_rfl) (by kernel_rfl) ?_
        repeat (go_big_quiet_step ((first | (go_at_call 74; exact ext_of (HQ1.out _)) | (go_at_call 88; exact ext_of (HQ2.out _)))))
        refine wpQuiet_nil ?_
        rintro _ ⟨nq, rfl⟩
        go_wp2
        go_ret
        refine ⟨ret_bool (B_false fun h => ?_).symm, (TW.call nq.below).below⟩
        obtain ⟨t, ht, ht2⟩ := (h.2.2.1 k hlt x Hx.out).2.2
        rw [Hsv.out] at ht
        cases ht
        exact Hon.out ht2
    · have N1 : Hid (∀ j, j < d.lies.length → LieAt sw d j) := fun j hj => HO.out j (by omega)
      have S1 : SeenIs s d.lies := by have := HSE.out; rw [List.take_of_length_le (by omega)] at this; exact this
      have HS1 := hide S1
      clear HO HSE S1
      obtain ⟨⟨p0, p1, p2, p3, p4⟩, ⟨q0, q1, q2, q3, q4⟩, ⟨o0, o1⟩⟩ := T1.cells
      go_wp2
      clear p0 p1 p2 p3 p4 q0 q1 q2 q3 q4 o0 o1
      go_loopw [57] (fun i wr => ∃ (k : Nat) (s : Nat → Bool), k ≤ d.flanks.length ∧ i = .int .i64 k ∧ (∀ j, j < k → FlankAt sw d j) ∧ SeenIs s (d.lies ++ d.flanks.take k) ∧ Bw w 33 59 138 149 (five n (.slice av sw.length cv) v2 v3 hd) (five (.slice a0 d.sections.length c0) (.slice a1 d.lies.length c1) (.slice a2 d.flanks.length c2) (.slice a3 d.over.length c3) (.slice a4 d.near.length c4)) A C s wr) (fun i _ => d.flanks.length - (intOf i).toNat)
      case atStart => exact ⟨0, s, Nat.zero_le _, rfl, fun j hj => by omega, by rw [List.take_zero, List.append_nil]; exact HS1.out, T1⟩
      case round =>
        obtain ⟨k2, s2, hk2, rfl, hok, hseen, T2⟩ := hrel
        rename World => wp
        have HO := hide hok
        have HSE := hide hseen
        clear hok hseen T1 HS1
        obtain ⟨⟨p0, p1, p2, p3, p4⟩, ⟨q0, q1, q2, q3, q4⟩, ⟨o0, o1⟩⟩ := T2.cells
        by_cases hlt2 : k2 < d.flanks.length
        · obtain h0 | ⟨b, off, rfl, hb0, hc⟩ := H2.out
          · omega
          obtain ⟨x, hx⟩ := get_some d.flanks (hide rfl) hlt2
          obtain ⟨g0, g1⟩ := hc k2 hlt2 x hx
          rw [← T2.below.cell (p := ⟨b, _, none⟩) hb0] at g0 g1
          have Hx := hide hx
          clear hx hc
          have z1 := T2.one.lt
          have TW := T2.call (below_new _ (.cells #[.int .i64 x.1, .int .i64 x.2] 95))
          go_wp2_with fail
          clear p0 p1 p2 p3 p4 q0 q1 q2 q3 q4 o0 o1 g0 g1
          refine (lieOk_any n av sw.length cv v2 v3 hd x.1 x.2 _ (by omega)).mono ?_
          rintro e w1 ⟨rfl, hb1⟩
          have T3 := TW.call hb1
          have l0 : w1.cell? ⟨wp.heap.size, 0, none⟩ = some (.int .i64 x.1) := (hb1.cell (p := ⟨wp.heap.size, 0, none⟩) (by simp)).trans (by simp)
          clear TW hb1
          by_cases hin : InR x.1 0 ((sw.length : Int) - 1) ∧ InR x.2 1 2
          case neg =>
            rw [B_false hin]
            have Hin := hide hin
            clear hin
            go_wp2
            go_ret
            exact ⟨ret_bool (B_false fun h => Hin.out (h.2.2.2 k2 hlt2 x Hx.out).1).symm, T3.below⟩
          rw [B_true hin]
          have Hin := hide hin
          obtain ⟨⟨hx0, hx1⟩, -⟩ := hin
          have hx3 : x.1 < 40 := by omega
          have hx4 : x.1.toNat < 40 := by omega
          have E7 := T3.seen.cell hx4
          have hfr := T3.seen.frozen x.1.toNat
          clear hx1
          by_cases hse : s2 x.1.toNat = true
          · rw [hse] at E7
            have HSS := hide hse
            clear hse
            go_wp2
            go_ret
            refine ⟨ret_bool (B_false fun h => ?_).symm, T3.below⟩
            obtain ⟨y, hy, hy2⟩ := (HSE.out x.1.toNat).1 HSS.out
            rw [List.mem_append] at hy
            rcases hy with hy | hy
            · exact (h.2.2.2 k2 hlt2 x Hx.out).2.1 y hy (by omega)
            · obtain ⟨q, hq, hq2⟩ := mem_take2 hy
              exact (h.2.2.2 k2 hlt2 x Hx.out).2.2 q y hq hq2 (by omega)
          · have hse' : s2 x.1.toNat = false := by simpa using hse
            rw [hse'] at E7
            have HSS := hide hse
            clear hse hse'
            go_wp2
            go_roundw
            case rel => exact ⟨k2 + 1, _, by omega, by go_num, fun j hj => by
              by_cases e : j = k2
              · subst e; intro z hz; rw [Hx.out] at hz; cases hz
                exact ⟨Hin.out, fun y hy e2 => HSS.out ((HSE.out x.1.toNat).2 ⟨y, List.mem_append.2 (.inl hy), by omega⟩), fun q y hq hy e2 => HSS.out ((HSE.out x.1.toNat).2 ⟨y, List.mem_append.2 (.inr (take_mem2 hq hy)), by omega⟩)⟩
              · exact HO.out j (by omega), by rw [take_step2 Hx.out, ← List.append_assoc]; exact SeenIs.snoc HSE.out hx0, T3.mark x.1.toNat⟩
            case measure => simp [intOf]; omega
        · go_wp2
          go_ret
          exact ⟨ret_bool (B_true ⟨l1, l2, N1.out, fun j hj => HO.out j (by omega)⟩).symm, T2.below⟩
end Go.Proofs.YtdhinkgjiapigaaDoor

namespace Go.Proofs.YtdhinkgjiapigaaDoor
open Go.RowKit Go.Deep
open Classical

theorem ck {W W' : World} {b o : Nat} {v : Value} (h : W.cell? ⟨b, o, none⟩ = some v) (hb : Below W.heap.size W W') : W'.cell? ⟨b, o, none⟩ = some v :=
  (hb.cell (p := ⟨b, o, none⟩) (World.block_lt_of_cell? _ _ h)).trans h

theorem listOk_range {n : Int} {l : List Int} (h : ListOk n l) (h60 : n ≤ 60) : ∀ x ∈ l, 0 ≤ x ∧ x < 64 := by
  intro x hx
  obtain ⟨i, hi⟩ := List.getElem?_of_mem hx
  have := (h.1 i (List.getElem?_eq_some_iff.1 hi).1 x hi).1
  exact ⟨this.1, by have := this.2; omega⟩

set_option maxHeartbeats 2000000 in
theorem wayOk_any (n : Int) (hd v1 v2 v3 u0 u1 u2 u3 u4 : Value) (sw : List Int) (d : WayD) (w : World) (hsw : Ints (In w) w v1 sw) (hw : WayAt (In w) w u0 u1 u2 u3 u4 d)
    (h60 : n ≤ 60) (hm : sw.length ≤ 40) (hs : d.Small 1048576) (hrange : ∀ s ∈ sw, 0 ≤ s ∧ s < 64) :
    Calls Tryd.prog 80 #[.agg #[.int .i64 n, v1, v2, v3, hd], .agg #[u0, u1, u2, u3, u4]] w fun e w' => e = .returned (.bool (B (WayOk n sw d))) ∧ Below w.heap.size w w' := by
  have T0 := Bx2.start w 33 59 (.int .i64 n) v1 v2 v3 hd u0 u1 u2 u3 u4
  have hk : ∀ W, Bx2 w 33 59 (five (.int .i64 n) v1 v2 v3 hd) (five u0 u1 u2 u3 u4) W → WayAt (In W) W u0 u1 u2 u3 u4 d ∧ Ints (In W) W v1 sw := fun W h => ⟨hw.keep (In.keep h.below).1 (In.keep h.below).2, hsw.keep (In.keep h.below).1 (In.keep h.below).2⟩
  have HK := hide hk
  obtain ⟨a0, c0, rfl, -⟩ := hw.1
  have HS := hide hs
  have HR := hide hrange
  clear hk hsw hw hs hrange
  go_enter Tryd.func80, Tryd.ntmps80
  go_wp2_with fail
  refine (setOf_any n v1 v2 v3 hd _ d.sections _ (HK.out _ T0).1.1 HS.out.1 h60).mono ?_
  rintro e w1 ⟨A, C, rfl, hset, hb1⟩
  have T1 := T0.call hb1
  clear T0 hb1
  have HA := hide hset
  clear hset
  have TT1 := T1.call (below_new _ (.cells #[.int .u32 (A : Int), .int .u32 (C : Int)] 138))
  have on0 : (w1.alloc (.cells #[.int .u32 (A : Int), .int .u32 (C : Int)] 138)).cell? ⟨w1.heap.size, 0, none⟩ = some (.int .u32 (A : Int)) := by simp
  have on1 : (w1.alloc (.cells #[.int .u32 (A : Int), .int .u32 (C : Int)] 138)).cell? ⟨w1.heap.size, 1, none⟩ = some (.int .u32 (C : Int)) := by simp
  obtain ⟨⟨b0, b1, b2, b3, b4⟩, ⟨z0, z1, z2, z3, z4⟩⟩ := TT1.cells
  go_wp2_with fail
  refine (setOf_any n v1 v2 v3 hd _ d.over _ (HK.out _ TT1).1.2.2.2.1 HS.out.2.2.2.1 h60).mono ?_
  clear b0 b1 b2 b3 b4 z0 z1 z2 z3 z4 T1
  rintro e w2 ⟨A2, C2, rfl, hset, hb1⟩
  have T2 := TT1.call hb1
  replace on0 := ck on0 hb1
  replace on1 := ck on1 hb1
  clear TT1 hb1
  have HA2 := hide hset
  clear hset
  have hbn := below_new w2 (.cells #[.int .u32 (A2 : Int), .int .u32 (C2 : Int)] 138)
  have TT2 := T2.call hbn
  replace on0 := ck on0 hbn
  replace on1 := ck on1 hbn
  have ov0 : (w2.alloc (.cells #[.int .u32 (A2 : Int), .int .u32 (C2 : Int)] 138)).cell? ⟨w2.heap.size, 0, none⟩ = some (.int .u32 (A2 : Int)) := by simp
  have ov1 : (w2.alloc (.cells #[.int .u32 (A2 : Int), .int .u32 (C2 : Int)] 138)).cell? ⟨w2.heap.size, 1, none⟩ = some (.int .u32 (C2 : Int)) := by simp
  obtain ⟨⟨b0, b1, b2, b3, b4⟩, ⟨z0, z1, z2, z3, z4⟩⟩ := TT2.cells
  clear hbn
  go_wp2_with fail
  refine (setOf_any n v1 v2 v3 hd _ d.near _ (HK.out _ TT2).1.2.2.2.2 HS.out.2.2.2.2 h60).mono ?_
  clear b0 b1 b2 b3 b4 z0 z1 z2 z3 z4 T2
  rintro e w3 ⟨A3, C3, rfl, -, hb1⟩
  have T3 := TT2.call hb1
  replace on0 := ck on0 hb1
  replace on1 := ck on1 hb1
  replace ov0 := ck ov0 hb1
  replace ov1 := ck ov1 hb1
  clear TT2 hb1
  have hbn := below_new w3 (.cells #[.int .u32 (A3 : Int), .int .u32 (C3 : Int)] 138)
  have TT3 := T3.call hbn
  replace on0 := ck on0 hbn
  replace on1 := ck on1 hbn
  replace ov0 := ck ov0 hbn
  replace ov1 := ck ov1 hbn
  obtain ⟨⟨b0, b1, b2, b3, b4⟩, ⟨z0, z1, z2, z3, z4⟩⟩ := TT3.cells
  clear hbn T3
  by_cases q0 : ListOk n d.sections
  case neg =>
    rw [B_false q0]
    have Q := hide q0
    clear q0
    go_wp2
    go_ret
    exact ⟨ret_bool (B_false fun h => Q.out h.2.1).symm, TT3.below⟩
  rw [B_true q0]
  by_cases q1 : ListOk n d.over
  case neg =>
    rw [B_false q1]
    have Q := hide q1
    clear q1
    go_wp2
    go_ret
    exact ⟨ret_bool (B_false fun h => Q.out h.2.2.1).symm, TT3.below⟩
  rw [B_true q1]
  by_cases q2 : ListOk n d.near
  case neg =>
    rw [B_false q2]
    have Q := hide q2
    clear q2
    go_wp2
    go_ret
    exact ⟨ret_bool (B_false fun h => Q.out h.2.2.2.1).symm, TT3.below⟩
  rw [B_true q2]
  have Q0 := hide q0
  have Q1 := hide q1
  have Q2 := hide q2
  clear q0 q1 q2
  by_cases hz : 0 < d.sections.length
  case neg =>
    have Hz := hide hz
    go_wp2
    go_ret
    exact ⟨ret_bool (B_false fun h => h.1 (List.length_eq_zero_iff.1 (by have := Hz.out; omega))).symm, TT3.below⟩
  go_wp2_with fail
  refine (meets_any A C A2 C2 d.sections d.over _ (HA.out Q0.out) (HA2.out Q1.out) (listOk_range Q0.out h60)).mono ?_
  clear b0 b1 b2 b3 b4 z0 z1 z2 z3 z4
  rintro e w4 ⟨rfl, hb1⟩
  have T4 := TT3.call hb1
  replace on0 := ck on0 hb1
  replace on1 := ck on1 hb1
  clear TT3 hb1 ov0 ov1
  obtain ⟨⟨b0, b1, b2, b3, b4⟩, ⟨z0, z1, z2, z3, z4⟩⟩ := T4.cells
  by_cases hmt : Meet d.sections d.over
  case pos =>
    rw [B_true hmt]
    have HM := hide hmt
    clear hmt
    go_wp2
    go_ret
    exact ⟨ret_bool (B_false fun h => h.2.2.2.2.2.2.2 HM.out.symm).symm, T4.below⟩
  rw [B_false hmt]
  have HM := hide hmt
  clear hmt
  go_wp2_with fail
  refine (switchesOk_any (.int .i64 n) hd v2 v3 v1 _ _ _ _ _ sw d A C _ (HK.out _ T4).2 (HK.out _ T4).1 hm HS.out (HA.out Q0.out) HR.out).mono ?_
  clear b0 b1 b2 b3 b4 z0 z1 z2 z3 z4 on0 on1
  rintro e w5 ⟨rfl, hb1⟩
  have T5 := T4.call hb1
  clear T4 hb1
  go_wp2
  go_ret
  refine ⟨ret_bool ?_, T5.below⟩
  refine B_congr ⟨fun h => ⟨fun e => by rw [e] at hz; exact absurd hz (by simp), Q0.out, Q1.out, Q2.out, h.1, h.2.1, h.2.2, fun h => HM.out h.symm⟩, fun h => ⟨h.2.2.2.2.1, h.2.2.2.2.2.1, h.2.2.2.2.2.2.1⟩⟩
end Go.Proofs.YtdhinkgjiapigaaDoor

namespace Go.Proofs.YtdhinkgjiapigaaDoor
open Go.RowKit Go.Deep
open Classical

theorem Tryd.infoSet : (Tryd.prog.info? 138).map (fun i => (i.zero, i.size, i.bytes)) = some (some (.agg #[.int .u32 0, .int .u32 0]), 2, 8) := by kernel_rfl

/-- A slice of sets of the ways' sections. -/
def Sets (P : Nat → Prop) (w : World) (v : Value) (l : List WayD) : Prop :=
  Sl P v l.length fun b off i => ∀ x, l[i]? = some x → ∃ A C, SetIs A C x.sections ∧ w.cell? ⟨b, off + i * 2, none⟩ = some (.int .u32 (A : Int)) ∧ w.cell? ⟨b, off + i * 2 + 1, none⟩ = some (.int .u32 (C : Int))
theorem Sets.keep {P Q : Nat → Prop} {w w' : World} {v : Value} {l : List WayD} (h : Sets P w v l) (hs : Same P w w') (hP : ∀ b, P b → Q b) : Sets Q w' v l :=
  Sl.imp h hP fun b off i hb _ he x hx => by
    obtain ⟨A, C, h1, h2, h3⟩ := he x hx
    exact ⟨A, C, h1, by rw [hs b hb]; exact h2, by rw [hs b hb]; exact h3⟩

theorem own_keep {W W' : World} {base : Nat} {e : TypeId} {size : Nat} {v : Value} {n : Nat} {xs : List Value} (h : W.ownsRow base e size v n xs) (hb : Below W.heap.size W W') : W'.ownsRow base e size v n xs := by
  obtain ⟨h1, h2 | ⟨g, cap, cur, hv, hg, hblk, hr⟩⟩ := h
  · exact ⟨h1, .inl h2⟩
  · refine ⟨h1, .inr ⟨g, cap, cur, hv, hg, ?_, hr⟩⟩
    have hlt : g < W.heap.size := by
      rcases Nat.lt_or_ge g W.heap.size with e | e
      · exact e
      · rw [Array.getElem?_eq_none e] at hblk; cases hblk
    rw [hb.block g hlt]; exact hblk
/-- What xs holds: two words for each of the first k ways. -/
def Words (l : List WayD) (k : Nat) (xs : List Value) : Prop := xs.length = k * 2 ∧ ∀ j x, j < k → l[j]? = some x → ∃ A C, SetIs A C x.sections ∧ xs[j * 2]? = some (.int .u32 ((A : Nat) : Int)) ∧ xs[j * 2 + 1]? = some (.int .u32 ((C : Nat) : Int))
theorem Words.snoc {l : List WayD} {k : Nat} {xs : List Value} (h : Words l k xs) {x : WayD} {A C : Nat} (hx : l[k]? = some x) (hs : SetIs A C x.sections) : Words l (k + 1) (xs ++ [.int .u32 (A : Int), .int .u32 (C : Int)]) := by
  refine ⟨by rw [List.length_append, h.1]; simp; omega, fun j y hj hy => ?_⟩
  by_cases e : j = k
  · subst e
    rw [hx] at hy; cases hy
    refine ⟨A, C, hs, ?_, ?_⟩
    · rw [List.getElem?_append_right (by rw [h.1]; exact Nat.le_refl _), h.1, Nat.sub_self]; rfl
    · rw [List.getElem?_append_right (by rw [h.1]; omega), h.1, show j * 2 + 1 - j * 2 = 1 by omega]; rfl
  · obtain ⟨A', C', h1, h2, h3⟩ := h.2 j y (by omega) hy
    exact ⟨A', C', h1, by rw [List.getElem?_append_left (by rw [h.1]; omega)]; exact h2, by rw [List.getElem?_append_left (by rw [h.1]; omega)]; exact h3⟩
theorem Sets.made {w W : World} {l : List WayD} {n g base : Nat} {e : TypeId} {xs : List Value} (hn : l.length = n) (h : W.ownsRow base e 2 (.slice (some ⟨g, 0, none⟩) n n) n xs) (hw : Words l n xs) (hg : w.heap.size ≤ g) : Sets (New w W) W (.slice (some ⟨g, 0, none⟩) n n) l := by
  subst hn
  obtain ⟨h1, ⟨h2, h3⟩ | ⟨g', cap, cur, hv, hb, hblk, hc1, hc2, hc3, hc4⟩⟩ := h
  · exact ⟨_, _, rfl, .inl h3⟩
  · cases hv
    have hlt : g < W.heap.size := by
      rcases Nat.lt_or_ge g W.heap.size with e | e
      · exact e
      · rw [Array.getElem?_eq_none e] at hblk; cases hblk
    refine ⟨_, _, rfl, .inr ⟨g, 0, rfl, ⟨hg, hlt⟩, fun i hi x hx => ?_⟩⟩
    obtain ⟨A, C, p1, p2, p3⟩ := hw.2 i x hi hx
    refine ⟨A, C, p1, ?_, ?_⟩
    · rw [← hc4, List.getElem?_take, if_pos (by omega)] at p2
      simp only [World.cell?, hblk, Nat.zero_add]
      simpa using p2
    · rw [← hc4, List.getElem?_take, if_pos (by omega)] at p3
      simp only [World.cell?, hblk, Nat.zero_add]
      simpa using p3

set_option maxHeartbeats 2000000 in
theorem waySets_any (n : Int) (v1 v2 v3 hd : Value) (l : List WayD) (w : World) (hv : Ways (In w) w v2 l) (hl : l.length ≤ 100) (hsm : ∀ x ∈ l, x.Small 1048576) (h60 : n ≤ 60) (hok : ∀ x ∈ l, ListOk n x.sections) :
    Calls Tryd.prog 81 #[.agg #[.int .i64 n, v1, v2, v3, hd]] w fun e w' => ∃ v, e = .returned v ∧ Sets (New w w') w' v l ∧ Below w.heap.size w w' := by
  have T0 := Bx1.start w 33 (.int .i64 n) v1 v2 v3 hd
  obtain ⟨a, cap, rfl, hc⟩ := hv
  generalize hn' : l.length = m at *
  have Hn : Hid (l.length = m) := hn'
  have HC := hide hc
  have HSM := hide hsm
  have HOK := hide hok
  clear hc hn' hsm hok
  obtain ⟨i0, hi, hz0, hz1, hz2⟩ : ∃ i, Tryd.prog.info? 138 = some i ∧ i.zero = some (.agg #[.int .u32 0, .int .u32 0]) ∧ i.size = 2 ∧ i.bytes = 8 := by
    have h := Tryd.infoSet
    cases hi : Tryd.prog.info? 138 with
    | none => rw [hi] at h; cases h
    | some i =>
      rw [hi] at h
      simp only [Option.map_some, Option.some.injEq, Prod.mk.injEq] at h
      exact ⟨i, rfl, h.1, h.2.1, h.2.2⟩
  have hmk : ∀ W : World, (Instr.makeSlice 134 (.int .i64 0) (.int .i64 (m : Int))).run Tryd.prog W = .ok (.slice (some ⟨W.heap.size, 0, none⟩) 0 m) (W.alloc (.cells (madeCells #[.int .u32 0, .int .u32 0] (m * 2)) 138)) := fun W => by
    have := run_make (P := Tryd.prog) W 134 138 i0 _ Tryd.underlying134 hi hz0 .i64 .i64 0 m (by omega) (by omega) (by rw [hz2, ← Int.natCast_mul]; omega) (by omega)
    rw [hz1] at this
    simpa [Value.cells] using this
  have hown0 : ((w.alloc (.cells #[.int .i64 n, v1, .slice a m cap, v3, hd] 33)).alloc (.cells (madeCells #[.int .u32 0, .int .u32 0] (m * 2)) 138)).ownsRow (w.heap.size + 1) 138 2 (.slice (some ⟨w.heap.size + 1, 0, none⟩) 0 m) 0 [] := by
    have := World.ownsRow_made (e := 138) (size := 2) (base := w.heap.size + 1) (w.alloc (.cells #[.int .i64 n, v1, .slice a m cap, v3, hd] 33)) (madeCells #[.int .u32 0, .int .u32 0] (m * 2)) m (by simp) (by unfold maxLen; omega) (size_madeCells _ _)
    simpa using this
  have HI := hide hi
  have HZ := hide hz1
  clear hi hz0 hz1 hz2
  have TT0 := T0.call (below_new _ (.cells (madeCells #[.int .u32 0, .int .u32 0] (m * 2)) 138))
  go_enter Tryd.func81, Tryd.ntmps81
  go_wp2
  go_loopw [3, 15] (fun s i wr => ∃ (k : Nat) (xs : List Value), k ≤ m ∧ i = .int .i64 k ∧ s = .slice (some ⟨w.heap.size + 1, 0, none⟩) k m ∧ wr.ownsRow (w.heap.size + 1) 138 2 (.slice (some ⟨w.heap.size + 1, 0, none⟩) k m) k xs ∧ Words l k xs ∧ Bx1 w 33 (five (.int .i64 n) v1 (.slice a m cap) v3 hd) wr) (fun _ i _ => m - (intOf i).toNat)
  case atStart => exact ⟨0, [], Nat.zero_le _, rfl, rfl, hown0, ⟨rfl, fun j _ hj => by omega⟩, TT0⟩
  case round =>
    obtain ⟨k, xs, hk, rfl, rfl, hown, hwd, T1⟩ := hrel
    rename World => wo
    have HW := hide hwd
    have HOW := hide hown
    clear hwd hown T0 TT0 hown0 hmk
    obtain ⟨b0, b1, b2, b3, b4⟩ := T1.cells
    by_cases hlt : k < m
    · obtain h0 | ⟨b, off, rfl, hb0, hc⟩ := HC.out
      · omega
      obtain ⟨x, hx⟩ := get_some l Hn hlt
      obtain ⟨u0, u1, u2, u3, u4, hw, g0, g1, g2, g3, g4⟩ := hc k hlt x hx
      rw [← T1.below.cell (p := ⟨b, _, none⟩) hb0] at g0 g1 g2 g3 g4
      have hsx := HSM.out x (List.mem_of_getElem? hx)
      have hox := HOK.out x (List.mem_of_getElem? hx)
      have Hx := hide hx
      have hz := T1.one.lt
      have T2 := T1.call (below_new _ (.cells #[u0, u1, u2, u3, u4] 59))
      have HO2 := hide (own_keep HOW.out (below_new _ (.cells #[u0, u1, u2, u3, u4] 59)))
      have hq := setOf_any n v1 (.slice (some ⟨b, off, none⟩) m cap) v3 hd u0 x.sections _ (hw.1.keep (In.keep T2.below).1 (In.keep T2.below).2) hsx.1 h60
      have HQ := hide hq
      obtain ⟨⟨p0, o0, rfl, -⟩, ⟨p1, o1, rfl, -⟩, ⟨p2, o2, rfl, -⟩, ⟨p3, o3, rfl, -⟩, ⟨p4, o4, rfl, -⟩⟩ := hw
      clear hx hc hsx hq HOW
      go_wp2_with fail
      refine HQ.out.mono ?_
      clear b0 b1 b2 b3 b4 g0 g1 g2 g3 g4 hz HQ
      rintro e w1 ⟨A, C, rfl, hset, hb1⟩
      have hset := hset hox
      have HST := hide hset
      have T3 := T2.call hb1
      have HO3 := hide (own_keep HO2.out hb1)
      clear hset T1 T2 HO2 hb1
      have hb2 := below_new w1 (.cells #[.int .u32 (A : Int), .int .u32 (C : Int)] 138)
      have T4 := T3.call hb2
      have HO4 := own_keep HO3.out hb2
      have hb3 := below_new (w1.alloc (.cells #[.int .u32 (A : Int), .int .u32 (C : Int)] 138)) (.cells #[.int .u32 (A : Int), .int .u32 (C : Int)] 138)
      have T5 := T4.call hb3
      have HO5 := hide (own_keep HO4 hb3)
      clear HO4 HO3 hb2 hb3 T3 T4
      go_wp2_with (at_builtin; refine wpList_append_fits _ rfl _ _ 134 rfl (w.heap.size + 1) 138 i0 2 Tryd.underlying134 HI.out HZ.out (w.heap.size + 1) k m xs rfl HO5.out ⟨w1.heap.size + 1, 0, none⟩ 1 1 [.int .u32 (A : Int), .int .u32 (C : Int)] rfl rfl ?c1 ?c2 ?c3 ?_)
      case c1 =>
        intro j u hj
        match j, hj with
        | 0, hj => simp at hj; subst hj; simp [Addr.add]
        | 1, hj => simp at hj; subst hj; simp [Addr.add]
      case c2 => intro u hu; simp at hu; rcases hu with rfl | rfl <;> rfl
      case c3 => omega
      intro w2 hown2 hgrow
      have T6 : Bx1 w 33 (five (.int .i64 n) v1 (.slice (some ⟨b, off, none⟩) m cap) v3 hd) w2 :=
        ⟨T5.below.grown hgrow T5.below.size (fun k hk => by cases hk; omega), T5.one.of_block (hgrow.block _ T5.one.lt (fun e => by have := Option.some.inj e; omega))⟩
      have HO6 := hide hown2
      clear T5 HO5 hown2 hgrow
      go_wp2
      go_roundw
      case rel => exact ⟨k + 1, _, by omega, by go_num, rfl, HO6.out, HW.out.snoc Hx.out HST.out, T6⟩
      case measure => simp [intOf]; omega
    · go_wp2
      go_ret
      have hkm : k = m := by omega
      subst hkm
      exact ⟨.slice (some ⟨w.heap.size + 1, 0, none⟩) k k, rfl, Sets.made Hn.out HOW.out HW.out (by omega), T1.below⟩
end Go.Proofs.YtdhinkgjiapigaaDoor

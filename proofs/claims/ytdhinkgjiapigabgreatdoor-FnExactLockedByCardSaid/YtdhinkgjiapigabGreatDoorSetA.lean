import Derived.Test.YtdhinkgjiapigabGreatDoorProg
import Derived.Test.YtdhinkgjiapigabGreatDoorBase
import Derived.RegionTactic
import Derived.Test.YtdhinkgjiapigabGreatDoorToA
namespace Go.Proofs.YtdhinkgjiapigabGreatDoor
open Go.RowKit
open Classical

/-- A set as a value. -/
abbrev setV (A C : Nat) : Value := .agg #[.int .u32 (A : Int), .int .u32 (C : Int)]

set_option maxHeartbeats 400000 in
theorem has_any (A C : Nat) (l : List Int) (x : Int) (w : World) (hs : SetIs A C l) (h0 : 0 ≤ x) (h1 : x < 64) :
    Calls Tryz.prog 258 #[setV A C, .int .i64 x] w fun e w' => e = .returned (.bool (B (x ∈ l))) ∧ Below w.heap.size w w' := by
  have ha := hs.a
  have hc := hs.c
  by_cases h : x < 32
  · have hx : x / 32 = 0 := by omega
    have e : B (x ∈ l) = (bits .and .u32 ((A : Int) / 2 ^ (x % 32).toNat) 1 == 1) := by
      rw [has_bit _ _ ha, show x % 32 = x by omega]
      have := hs.lo x.toNat (by omega)
      rw [Int.toNat_of_nonneg h0] at this
      rw [Bool.eq_iff_iff, B_iff, this]
    have HE := hide e
    clear e
    go_enter Tryz.func258, Tryz.ntmps258
    go_wp2
    go_ret
    exact ⟨ret_bool HE.out.symm, below_new _ _⟩
  · have hx : x / 32 = 1 := by omega
    have e : B (x ∈ l) = (bits .and .u32 ((C : Int) / 2 ^ (x % 32).toNat) 1 == 1) := by
      rw [has_bit _ _ hc, show x % 32 = x - 32 by omega]
      have := hs.hi (x - 32).toNat (by omega)
      rw [Int.toNat_of_nonneg (by omega), show x - 32 + 32 = x by omega] at this
      rw [Bool.eq_iff_iff, B_iff, this]
    have HE := hide e
    clear e
    go_enter Tryz.func258, Tryz.ntmps258
    go_wp2
    go_ret
    exact ⟨ret_bool HE.out.symm, below_new _ _⟩

theorem agg_eq {a b c d : Int} (h : a = b) (k : c = d) : (.agg #[.int .u32 a, .int .u32 c] : Value) = .agg #[.int .u32 b, .int .u32 d] := by rw [h, k]

set_option maxHeartbeats 400000 in
theorem with_any (A C : Nat) (l : List Int) (x : Int) (w : World) (hs : SetIs A C l) (h0 : 0 ≤ x) (h1 : x < 64) :
    Calls Tryz.prog 259 #[setV A C, .int .i64 x] w fun e w' => ∃ A' C', e = .returned (setV A' C') ∧ SetIs A' C' (l ++ [x]) ∧ Below w.heap.size w w' := by
  have ha := hs.a
  have hc := hs.c
  by_cases h : x < 32
  · have hx : x / 32 = 0 := by omega
    have e := with_bit A (x % 32).toNat ha (by omega)
    rw [show x % 32 = x by omega] at e
    have hm : x % 32 = x := by omega
    have HE := hide e
    have HM := hide hm
    clear e hm
    go_enter Tryz.func259, Tryz.ntmps259
    go_wp2
    go_region
    go_wp2
    refine bodyPost_ret (v := .agg #[.int .u32 (bits .or .u32 (A : Int) (2 ^ (x % 32).toNat % 4294967296)), .int .u32 (C : Int)]) (by simp [results, Tryz.results259, go_sem]) rfl ⟨A ||| 2 ^ x.toNat, C, ?_, hs.low h0 h, ?_⟩
    · rw [HM.out, HE.out]
    · exact (((Below.refl _ _).alloc (Nat.le_refl _) _).alloc (by simp) _).drew
  · have hx : x / 32 = 1 := by omega
    have e := with_bit C (x % 32).toNat hc (by omega)
    rw [show x % 32 = x - 32 by omega] at e
    have hm : x % 32 = x - 32 := by omega
    have HE := hide e
    have HM := hide hm
    clear e hm
    go_enter Tryz.func259, Tryz.ntmps259
    go_wp2
    go_region
    go_wp2
    refine bodyPost_ret (v := .agg #[.int .u32 (A : Int), .int .u32 (bits .or .u32 (C : Int) (2 ^ (x % 32).toNat % 4294967296))]) (by simp [results, Tryz.results259, go_sem]) rfl ⟨A, C ||| 2 ^ (x - 32).toNat, ?_, hs.high (by omega) h1, ?_⟩
    · rw [HM.out, HE.out]
    · exact (((Below.refl _ _).alloc (Nat.le_refl _) _).alloc (by simp) _).drew
end Go.Proofs.YtdhinkgjiapigabGreatDoor

namespace Go.Proofs.YtdhinkgjiapigabGreatDoor
open Go.RowKit Go.Deep
open Classical

set_option maxHeartbeats 400000 in
theorem isSection_any (n x : Int) (v1 v2 v3 hd : Value) (w : World) :
    Calls Tryz.prog 110 #[.agg #[.int .i64 n, v1, v2, v3, hd], .int .i64 x] w fun e w' => e = .returned (.bool (B (InR x 0 (n - 1)))) ∧ Below w.heap.size w w' := by
  by_cases h1 : 0 ≤ x
  · by_cases h2 : x < n
    · rw [B_true (show InR x 0 (n - 1) from ⟨h1, by omega⟩)]
      go_enter Tryz.func110, Tryz.ntmps110
      go_wp2
      go_ret
      exact ⟨by simp, below_new _ _⟩
    · rw [B_false (show ¬ InR x 0 (n - 1) from fun h => h2 (by have := h.2; omega))]
      go_enter Tryz.func110, Tryz.ntmps110
      go_wp2
      go_ret
      exact ⟨by simp, below_new _ _⟩
  · rw [B_false (show ¬ InR x 0 (n - 1) from fun h => h1 h.1)]
    go_enter Tryz.func110, Tryz.ntmps110
    go_wp2
    go_ret
    exact ⟨by simp, below_new _ _⟩

theorem below_new2 (w : World) (o o' : Obj) : Below w.heap.size w ((w.alloc o).alloc o') := (((Below.refl _ _).alloc (Nat.le_refl _) _).alloc (by simp) _)

set_option maxHeartbeats 400000 in
theorem isSwitch_any (s : Value) (a1 : Option Addr) (m c1 : Nat) (v2 v3 hd : Value) (x : Int) (w : World) (_hm : m ≤ 1048576) :
    Calls Tryz.prog 114 #[.agg #[s, .slice a1 m c1, v2, v3, hd], .int .i64 x] w fun e w' => e = .returned (.bool (B (InR x 0 ((m : Int) - 1)))) ∧ Below w.heap.size w w' := by
  by_cases h1 : 0 ≤ x
  · by_cases h2 : x < (m : Int)
    · rw [B_true (show InR x 0 ((m : Int) - 1) from ⟨h1, by omega⟩)]
      go_enter Tryz.func114, Tryz.ntmps114
      go_wp2
      go_ret
      exact ⟨by simp, below_new _ _⟩
    · rw [B_false (show ¬ InR x 0 ((m : Int) - 1) from fun h => h2 (by have := h.2; omega))]
      go_enter Tryz.func114, Tryz.ntmps114
      go_wp2
      go_ret
      exact ⟨by simp, below_new _ _⟩
  · rw [B_false (show ¬ InR x 0 ((m : Int) - 1) from fun h => h1 h.1)]
    go_enter Tryz.func114, Tryz.ntmps114
    go_wp2
    go_ret
    exact ⟨by simp, below_new _ _⟩

set_option maxHeartbeats 400000 in
theorem isWay_any (s : Value) (a1 : Option Addr) (m c1 : Nat) (v2 v3 hd : Value) (x : Int) (w : World) (_hm : m ≤ 1048576) :
    Calls Tryz.prog 107 #[.agg #[s, v2, .slice a1 m c1, v3, hd], .int .i64 x] w fun e w' => e = .returned (.bool (B (InR x 0 ((m : Int) - 1)))) ∧ Below w.heap.size w w' := by
  by_cases h1 : 0 ≤ x
  · by_cases h2 : x < (m : Int)
    · rw [B_true (show InR x 0 ((m : Int) - 1) from ⟨h1, by omega⟩)]
      go_enter Tryz.func107, Tryz.ntmps107
      go_wp2
      go_ret
      exact ⟨by simp, below_new _ _⟩
    · rw [B_false (show ¬ InR x 0 ((m : Int) - 1) from fun h => h2 (by have := h.2; omega))]
      go_enter Tryz.func107, Tryz.ntmps107
      go_wp2
      go_ret
      exact ⟨by simp, below_new _ _⟩
  · rw [B_false (show ¬ InR x 0 ((m : Int) - 1) from fun h => h1 h.1)]
    go_enter Tryz.func107, Tryz.ntmps107
    go_wp2
    go_ret
    exact ⟨by simp, below_new _ _⟩

set_option maxHeartbeats 1000000 in
theorem lieOk_any (s : Value) (a1 : Option Addr) (m c1 : Nat) (v2 v3 hd : Value) (x y : Int) (w : World) (hm : m ≤ 1048576) :
    Calls Tryz.prog 144 #[.agg #[s, .slice a1 m c1, v2, v3, hd], .agg #[.int .i64 x, .int .i64 y]] w fun e w' => e = .returned (.bool (B (InR x 0 ((m : Int) - 1) ∧ InR y 1 2))) ∧ Below w.heap.size w w' := by
  have hn := below_new2 w (.cells #[s, .slice a1 m c1, v2, v3, hd] 37) (.cells #[.int .i64 x, .int .i64 y] 175)
  have R := rowIs_new (w.alloc (.cells #[s, .slice a1 m c1, v2, v3, hd] 37)) 175 #[.int .i64 x, .int .i64 y]
  rw [show (w.alloc (.cells #[s, .slice a1 m c1, v2, v3, hd] 37)).heap.size = w.heap.size + 1 by simp] at R
  go_enter Tryz.func144, Tryz.ntmps144
  go_wp2_with fail
  refine (isSwitch_any s a1 m c1 v2 v3 hd x _ hm).mono ?_
  rintro e w1 ⟨rfl, hb⟩
  have R1 := rowIs_keep R hb
  have B1 : Below w.heap.size w w1 := hn.trans (hb.mono hn.size)
  have c1 : w1.cell? ⟨w.heap.size + 1, 1, none⟩ = some (.int .i64 y) := by simpa using R1.cell (i := 1) (by simp)
  clear hn R hb R1
  by_cases q : InR x 0 ((m : Int) - 1)
  case neg =>
    rw [B_false q]
    have Q := hide q
    clear q
    go_wp2
    go_ret
    exact ⟨ret_bool (B_false fun h => Q.out h.1).symm, B1⟩
  rw [B_true q]
  have Q := hide q
  clear q
  by_cases h3 : y = 1
  · subst h3
    go_wp2
    go_ret
    exact ⟨ret_bool (B_true ⟨Q.out, by omega, by omega⟩).symm, B1⟩
  have h3' : (y == 1) = false := by simpa using h3
  by_cases h4 : y = 2
  · subst h4
    clear h3 h3'
    go_wp2
    go_ret
    exact ⟨ret_bool (B_true ⟨Q.out, by omega, by omega⟩).symm, B1⟩
  have h4' : (y == 2) = false := by simpa using h4
  have H3 := hide h3
  have H4 := hide h4
  clear h3 h4
  go_wp2
  go_ret
  exact ⟨ret_bool (B_false fun h => by have a := h.2.1; have b := h.2.2; have := H3.out; have := H4.out; omega).symm, B1⟩

set_option maxHeartbeats 1000000 in
theorem meets_any (A C A' C' : Nat) (l r : List Int) (w : World) (h : SetIs A C l) (k : SetIs A' C' r) (hl : ∀ x ∈ l, 0 ≤ x ∧ x < 64) :
    Calls Tryz.prog 233 #[setV A C, setV A' C'] w fun e w' => e = .returned (.bool (B (Meet l r))) ∧ Below w.heap.size w w' := by
  have i0 : ∀ w, (Instr.index 268 (setV A C) (.int .i64 0)).run Tryz.prog w = .ok (.int .u32 (A : Int)) w := fun _ => by kernel_rfl
  have i1 : ∀ w, (Instr.index 268 (setV A C) (.int .i64 1)).run Tryz.prog w = .ok (.int .u32 (C : Int)) w := fun _ => by kernel_rfl
  have hb : B (Meet l r) = B (A &&& A' ≠ 0 ∨ C &&& C' ≠ 0) := B_congr (meets_iff h k hl).symm
  rw [hb]
  have e0 := and_u32 A A' h.a k.a
  have e1 := and_u32 C C' h.c k.c
  clear hb hl h k
  have HB : ∀ o o', Below w.heap.size w ((w.alloc o).alloc o') := below_new2 w
  by_cases z0 : A &&& A' = 0
  · by_cases z1 : C &&& C' = 0
    · rw [B_false (show ¬ (A &&& A' ≠ 0 ∨ C &&& C' ≠ 0) from fun h => h.elim (fun h => h z0) (fun h => h z1))]
      have t0 : (bits .and .u32 (A : Int) (A' : Int) != 0) = false := by rw [e0, z0]; rfl
      have t1 : (bits .and .u32 (C : Int) (C' : Int) != 0) = false := by rw [e1, z1]; rfl
      clear e0 e1 z0 z1
      go_enter Tryz.func233, Tryz.ntmps233
      go_wp2
      refine wp_loop_rounds 3 ?_
      rw [rounds_succ]
      go_wp2
      rw [rounds_succ]
      go_wp2
      rw [rounds_succ]
      go_wp2
      go_ret
      exact ⟨rfl, HB _ _⟩
    · rw [B_true (show (A &&& A' ≠ 0 ∨ C &&& C' ≠ 0) from .inr z1)]
      have t0 : (bits .and .u32 (A : Int) (A' : Int) != 0) = false := by rw [e0, z0]; rfl
      have t1 : (bits .and .u32 (C : Int) (C' : Int) != 0) = true := by rw [e1]; simp; omega
      clear e0 e1 z0 z1
      go_enter Tryz.func233, Tryz.ntmps233
      go_wp2
      refine wp_loop_rounds 2 ?_
      rw [rounds_succ]
      go_wp2
      rw [rounds_succ]
      go_wp2
      go_ret
      exact ⟨rfl, HB _ _⟩
  · rw [B_true (show (A &&& A' ≠ 0 ∨ C &&& C' ≠ 0) from .inl z0)]
    have t0 : (bits .and .u32 (A : Int) (A' : Int) != 0) = true := by rw [e0]; simp; omega
    clear e0 e1 z0
    go_enter Tryz.func233, Tryz.ntmps233
    go_wp2
    refine wp_loop_rounds 1 ?_
    rw [rounds_succ]
    go_wp2
    go_ret
    exact ⟨rfl, HB _ _⟩
end Go.Proofs.YtdhinkgjiapigabGreatDoor

namespace Go.Proofs.YtdhinkgjiapigabGreatDoor
open Go.RowKit Go.Deep
open Classical

def two (a b : Value) : Nat → Value := fun i => (#[a, b] : Array Value)[i]!

/-- setOf's blocks: the plan's box, the result's, the set's. -/
structure Bs (w : World) (t tr : TypeId) (f : Nat → Value) (A C : Nat) (W : World) : Prop where
  below : Below w.heap.size w W
  one : W.rowIs w.heap.size t 5 f
  res : ∃ g, W.rowIs (w.heap.size + 1) tr 2 g
  set : W.rowIs (w.heap.size + 1 + 1) tr 2 (two (.int .u32 (A : Int)) (.int .u32 (C : Int)))
theorem Bs.call {w : World} {t tr : TypeId} {f : Nat → Value} {A C : Nat} {W W' : World} (h : Bs w t tr f A C W) (hb : Below W.heap.size W W') : Bs w t tr f A C W' :=
  ⟨h.below.trans (hb.mono h.below.size), rowIs_keep h.one hb, h.res.imp fun _ k => rowIs_keep k hb, rowIs_keep h.set hb⟩
theorem Bs.start (w : World) (t tr : TypeId) (b0 b1 b2 b3 b4 z0 z1 : Value) (A C : Nat) : Bs w t tr (five b0 b1 b2 b3 b4) A C (((w.alloc (.cells #[b0, b1, b2, b3, b4] t)).alloc (.cells #[z0, z1] tr)).alloc (.cells #[.int .u32 (A : Int), .int .u32 (C : Int)] tr)) := by
  refine ⟨((((Below.refl _ _).alloc (Nat.le_refl _) _).alloc (by simp) _).alloc (by simp; omega) _), ((rowIs_new _ _ _).alloc _).alloc _, ?_, ?_⟩
  · have := (rowIs_new (w.alloc (.cells #[b0, b1, b2, b3, b4] t)) tr #[z0, z1]).alloc (.cells #[.int .u32 (A : Int), .int .u32 (C : Int)] tr)
    rw [show (w.alloc (.cells #[b0, b1, b2, b3, b4] t)).heap.size = w.heap.size + 1 by simp] at this
    exact ⟨_, this⟩
  · have := rowIs_new ((w.alloc (.cells #[b0, b1, b2, b3, b4] t)).alloc (.cells #[z0, z1] tr)) tr #[.int .u32 (A : Int), .int .u32 (C : Int)]
    rw [show ((w.alloc (.cells #[b0, b1, b2, b3, b4] t)).alloc (.cells #[z0, z1] tr)).heap.size = w.heap.size + 1 + 1 by simp] at this
    exact this
theorem Bs.cells {w : World} {t tr : TypeId} {b0 b1 b2 b3 b4 : Value} {A C : Nat} {W : World} (h : Bs w t tr (five b0 b1 b2 b3 b4) A C W) :
    W.cell? ⟨w.heap.size, 0, none⟩ = some b0 ∧ W.cell? ⟨w.heap.size, 1, none⟩ = some b1 ∧ W.cell? ⟨w.heap.size, 2, none⟩ = some b2 ∧ W.cell? ⟨w.heap.size, 3, none⟩ = some b3 ∧ W.cell? ⟨w.heap.size, 4, none⟩ = some b4 :=
  Bx1.cells ⟨h.below, h.one⟩
theorem Bs.slot {w : World} {t tr : TypeId} {f : Nat → Value} {A C : Nat} {W : World} (h : Bs w t tr f A C W) :
    ∃ x y, W.cell? ⟨w.heap.size + 1, 0, none⟩ = some x ∧ W.cell? ⟨w.heap.size + 1, 1, none⟩ = some y ∧ W.frozen? ⟨w.heap.size + 1, 0, none⟩ = false ∧ W.frozen? ⟨w.heap.size + 1, 1, none⟩ = false := by
  obtain ⟨g, hg⟩ := h.res
  exact ⟨_, _, hg.cell (i := 0) (by omega), hg.cell (i := 1) (by omega), hg.frozen 0, hg.frozen 1⟩
theorem Bs.words {w : World} {t tr : TypeId} {f : Nat → Value} {A C : Nat} {W : World} (h : Bs w t tr f A C W) :
    W.cell? ⟨w.heap.size + 1 + 1, 0, none⟩ = some (.int .u32 (A : Int)) ∧ W.cell? ⟨w.heap.size + 1 + 1, 1, none⟩ = some (.int .u32 (C : Int)) ∧ W.frozen? ⟨w.heap.size + 1 + 1, 0, none⟩ = false ∧ W.frozen? ⟨w.heap.size + 1 + 1, 1, none⟩ = false :=
  ⟨by simpa [two] using h.set.cell (i := 0) (by omega), by simpa [two] using h.set.cell (i := 1) (by omega), h.set.frozen 0, h.set.frozen 1⟩
theorem Bs.ret {w : World} {t tr : TypeId} {f : Nat → Value} {A C : Nat} {W : World} (h : Bs w t tr f A C W) (x y : Value) : Below w.heap.size w ((W.setCell ⟨w.heap.size + 1, 0, none⟩ x).setCell ⟨w.heap.size + 1, 1, none⟩ y) :=
  (h.below.setCell (by show w.heap.size ≤ w.heap.size + 1; omega) _).setCell (by show w.heap.size ≤ w.heap.size + 1; omega) _
theorem Bs.store {w : World} {t tr : TypeId} {f : Nat → Value} {A C : Nat} {W : World} (h : Bs w t tr f A C W) (A' C' : Nat) :
    Bs w t tr f A' C' ((W.setCell ⟨w.heap.size + 1 + 1, 0, none⟩ (.int .u32 (A' : Int))).setCell ⟨w.heap.size + 1 + 1, 1, none⟩ (.int .u32 (C' : Int))) := by
  have p1 : ∀ o : Nat, w.heap.size ≠ (⟨w.heap.size + 1 + 1, o, none⟩ : Addr).block := fun o => by show w.heap.size ≠ w.heap.size + 1 + 1; omega
  have p2 : ∀ o : Nat, w.heap.size + 1 ≠ (⟨w.heap.size + 1 + 1, o, none⟩ : Addr).block := fun o => by show w.heap.size + 1 ≠ w.heap.size + 1 + 1; omega
  refine ⟨(h.below.setCell (by show w.heap.size ≤ w.heap.size + 1 + 1; omega) _).setCell (by show w.heap.size ≤ w.heap.size + 1 + 1; omega) _, (h.one.setOther (p1 _) _).setOther (p1 _) _, h.res.imp fun _ k => (k.setOther (p2 _) _).setOther (p2 _) _, ((h.set.set 0 _).set 1 _).congr fun i hi => ?_⟩
  rcases i with _ | _ | i
  · simp [two]
  · simp [two]
  · omega

theorem take_step {l : List Int} {k : Nat} {x : Int} (h : l[k]? = some x) : l.take (k + 1) = l.take k ++ [x] := by
  rw [List.take_add_one, h]; rfl
theorem mem_take {l : List Int} {k : Nat} {x : Int} (h : x ∈ l.take k) : ∃ q, q < k ∧ l[q]? = some x := by
  obtain ⟨i, hi⟩ := List.getElem?_of_mem h
  have hl := (List.getElem?_eq_some_iff.1 hi).1
  rw [List.length_take] at hl
  refine ⟨i, by omega, ?_⟩
  rw [List.getElem?_take, if_pos (by omega)] at hi
  exact hi
theorem take_mem {l : List Int} {k q : Nat} {x : Int} (hq : q < k) (h : l[q]? = some x) : x ∈ l.take k :=
  List.mem_of_getElem? (i := q) (by rw [List.getElem?_take, if_pos hq]; exact h)

set_option maxHeartbeats 2000000 in
theorem setOf_any (n : Int) (v1 v2 v3 hd v : Value) (l : List Int) (w : World) (hv : Ints (In w) w v l) (hl : l.length ≤ 1048576) (h60 : n ≤ 60) :
    Calls Tryz.prog 232 #[.agg #[.int .i64 n, v1, v2, v3, hd], v] w fun e w' => ∃ A C, e = .returned (.tuple #[setV A C, .bool (B (ListOk n l))]) ∧ (ListOk n l → SetIs A C l) ∧ Below w.heap.size w w' := by
  obtain ⟨a, cap, rfl, hc⟩ := hv
  generalize hn' : l.length = m at *
  have Hn : Hid (l.length = m) := hn'
  have HC := hide hc
  clear hc hn'
  by_cases h30 : m ≤ 30
  case neg =>
    have hno : ¬ ListOk n l := fun h => h30 (by have := h.2; have := Hn.out; omega)
    rw [B_false hno]
    have HN := hide hno
    clear hno
    go_enter Tryz.func232, Tryz.ntmps232
    go_wp2
    exact bodyPost_ret (v := .tuple #[setV 0 0, .bool false]) (by simp [results, Tryz.results232, go_sem]) rfl ⟨0, 0, rfl, fun h => absurd h HN.out, below_new2 _ _ _⟩
  have T0 := Bs.start w 37 268 (.int .i64 n) v1 v2 v3 hd (.int .u32 0) (.int .u32 0) 0 0
  go_enter Tryz.func232, Tryz.ntmps232
  go_wp2
  go_loopw [15] (fun i wr => ∃ (k A C : Nat), k ≤ m ∧ i = .int .i64 k ∧ (∀ j, j < k → OkAt n l j) ∧ SetIs A C (l.take k) ∧ Bs w 37 268 (five (.int .i64 n) v1 v2 v3 hd) A C wr) (fun i _ => m - (intOf i).toNat)
  case atStart => exact ⟨0, 0, 0, Nat.zero_le _, rfl, fun j hj => by omega, SetIs.nil, T0⟩
  case round =>
    obtain ⟨k, A, C, hk, rfl, hok, hset, T1⟩ := hrel
    have HO := hide hok
    clear hok T0
    obtain ⟨b0, b1, b2, b3, b4⟩ := T1.cells
    obtain ⟨r0, r1, y0, y1, f0, f1⟩ := T1.slot
    obtain ⟨s0, s1, t0, t1⟩ := T1.words
    by_cases hlt : k < m
    · obtain h0 | ⟨b, off, rfl, hb0, hc⟩ := HC.out
      · omega
      obtain ⟨x, hx⟩ := get_some l Hn hlt
      have g0 := hc k hlt x hx
      rw [← T1.below.cell (p := ⟨b, _, none⟩) hb0] at g0
      have Hx := hide hx
      clear hx hc
      go_wp2_with fail
      refine (isSection_any n x v1 v2 v3 hd _).mono ?_
      clear b0 b1 b2 b3 b4 y0 y1 f0 f1 s0 s1 t0 t1 g0
      rintro e w1 ⟨rfl, hb1⟩
      have T2 := T1.call hb1
      clear T1 hb1
      obtain ⟨r0, r1, y0, y1, f0, f1⟩ := T2.slot
      obtain ⟨s0, s1, t0, t1⟩ := T2.words
      by_cases hin : InR x 0 (n - 1)
      case neg =>
        have hno : ¬ ListOk n l := fun h => hin ((h.1 k (by rw [Hn.out]; exact hlt)) _ Hx.out).1
        rw [B_false hin]
        have HN := hide hno
        clear hno hin
        go_wp2
        exact bodyPost_ret (v := .tuple #[setV 0 0, .bool false]) (by simp [results, Tryz.results232, go_sem, y0, y1]) rfl ⟨0, 0, by rw [B_false HN.out], fun h => absurd h HN.out, T2.ret _ _⟩
      rw [B_true hin]
      have Hin := hide hin
      clear hin
      go_wp2_with fail
      refine (has_any A C _ x _ hset Hin.out.1 (by have := Hin.out.2; omega)).mono ?_
      clear y0 y1 f0 f1 s0 s1 t0 t1
      rintro e w2 ⟨rfl, hb2⟩
      have T3 := T2.call hb2
      clear T2 hb2
      obtain ⟨b0, b1, b2, b3, b4⟩ := T3.cells
      obtain ⟨r0, r1, y0, y1, f0, f1⟩ := T3.slot
      obtain ⟨s0, s1, t0, t1⟩ := T3.words
      by_cases hmem : x ∈ l.take k
      · rw [B_true hmem]
        have hno : ¬ ListOk n l := fun h => by
          obtain ⟨q, hq, hq2⟩ := mem_take hmem
          exact ((h.1 k (by rw [Hn.out]; exact hlt)) _ Hx.out).2 q hq hq2
        have HN := hide hno
        clear hno hmem
        go_wp2
        exact bodyPost_ret (v := .tuple #[setV 0 0, .bool false]) (by simp [results, Tryz.results232, go_sem, y0, y1]) rfl ⟨0, 0, by rw [B_false HN.out], fun h => absurd h HN.out, T3.ret _ _⟩
      · rw [B_false hmem]
        have HM := hide hmem
        clear hmem
        go_wp2_with fail
        refine (with_any A C _ x _ hset Hin.out.1 (by have := Hin.out.2; omega)).mono ?_
        clear b0 b1 b2 b3 b4 y0 y1 f0 f1 s0 s1 t0 t1
        rintro e w3 ⟨A', C', rfl, hset', hb3⟩
        have T4 := T3.call hb3
        clear T3 hb3
        obtain ⟨s0, s1, t0, t1⟩ := T4.words
        go_wp2
        go_roundw
        case rel => exact ⟨k + 1, A', C', by omega, by go_num, fun j hj => by
          by_cases e : j = k
          · subst e; intro z hz; rw [Hx.out] at hz; cases hz; exact ⟨Hin.out, fun q hq hq2 => HM.out (take_mem hq hq2)⟩
          · exact HO.out j (by omega), by rw [take_step Hx.out]; exact hset', T4.store A' C'⟩
        case measure => simp [intOf]; omega
    · have hyes : ListOk n l := ⟨fun j hj => HO.out j (by have := Hn.out; omega), by have := Hn.out; omega⟩
      have HY := hide hyes
      have hset2 : SetIs A C l := by
        rw [List.take_of_length_le (by have := Hn.out; omega)] at hset
        exact hset
      have HS := hide hset2
      clear hyes hset hset2
      go_wp2
      exact bodyPost_ret (v := .tuple #[setV A C, .bool true]) (by simp [results, Tryz.results232, go_sem, y0, y1]) rfl ⟨A, C, by rw [B_true HY.out], fun _ => HS.out, T1.ret _ _⟩
end Go.Proofs.YtdhinkgjiapigabGreatDoor

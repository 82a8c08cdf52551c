import Derived.Test.YtdhinkgjiapigabGreatDoorFrI4
import Derived.DeepKeys
namespace Go.Proofs.YtdhinkgjiapigabGreatDoor
open Go.RowKit Go.Deep
open Classical

theorem list30 {l : List Bool} (h : l.length = 30) : ∃ x0 x1 x2 x3 x4 x5 x6 x7 x8 x9 x10 x11 x12 x13 x14 x15 x16 x17 x18 x19 x20 x21 x22 x23 x24 x25 x26 x27 x28 x29, l = [x0, x1, x2, x3, x4, x5, x6, x7, x8, x9, x10, x11, x12, x13, x14, x15, x16, x17, x18, x19, x20, x21, x22, x23, x24, x25, x26, x27, x28, x29] := by
  match l, h with
  | [x0, x1, x2, x3, x4, x5, x6, x7, x8, x9, x10, x11, x12, x13, x14, x15, x16, x17, x18, x19, x20, x21, x22, x23, x24, x25, x26, x27, x28, x29], _ => exact ⟨_, _, _, _, _, _, _, _, _, _, _, _, _, _, _, _, _, _, _, _, _, _, _, _, _, _, _, _, _, _, rfl⟩
theorem Tryz.beenLits {l : List Bool} (h : l.length = 30) : Tryz.prog.keyLits 2 215 (l.map Value.bool) = some (l.map Lit.bool) := by
  obtain ⟨x0, x1, x2, x3, x4, x5, x6, x7, x8, x9, x10, x11, x12, x13, x14, x15, x16, x17, x18, x19, x20, x21, x22, x23, x24, x25, x26, x27, x28, x29, rfl⟩ := list30 h
  kernel_rfl
theorem map_lit_inj {l r : List Bool} : l.map Lit.bool = r.map Lit.bool ↔ l = r := by
  constructor
  · intro h
    induction l generalizing r with
    | nil => cases r with
      | nil => rfl
      | cons a r => cases h
    | cons a l ih => cases r with
      | nil => cases h
      | cons b r =>
        simp only [List.map_cons, List.cons.injEq, Lit.bool.injEq] at h
        rw [h.1, ih h.2]
  · rintro rfl
    rfl
theorem Tryz.cells30 : Tryz.prog.cellsOf 215 = 30 := by kernel_rfl
theorem Tryz.beenFormed {l : List Bool} (h : l.length = 30) : Value.formed Tryz.prog 215 (.agg (l.map Value.bool).toArray) = true := by
  simp [Value.formed, Tryz.underlying215, Tryz.cells30, h]
/-- '==' on two arrays of 30 bools. -/
theorem been_eq (d : Nat) (l r : List Bool) (hl : l.length = 30) (hr : r.length = 30) (w : World) : (Op.equalIn (d + 2) 215 (.agg (l.map Value.bool).toArray) (.agg (r.map Value.bool).toArray)).run Tryz.prog w = .ok (B (l = r)) w := by
  obtain ⟨q, hq, hi⟩ := run_equalIn_deep (P := Tryz.prog) d 2 215 (by kernel_rfl) w 2 2 (.agg (l.map Value.bool).toArray) (.agg (r.map Value.bool).toArray) (l.map Lit.bool) (r.map Lit.bool) (Tryz.beenFormed hl) (Tryz.beenFormed hr) (by simpa [Value.cells] using Tryz.beenLits hl) (by simpa [Value.cells] using Tryz.beenLits hr)
  rw [map_lit_inj] at hi
  have he : q = B (l = r) := by
    cases q with
    | true => exact (B_true (hi.1 rfl)).symm
    | false => exact (B_false fun e => by have := hi.2 e; cases this).symm
  rw [hq, he]
theorem Tryz.cells32 : Tryz.prog.cellsOf 217 = 32 := by kernel_rfl
theorem Tryz.size30 : (Tryz.prog.info? 215).map (·.size) = some 30 := by kernel_rfl
theorem part_int {xs : Array Value} {v : Value} (h : xs[0]? = some v) (w : World) : (part 3 xs 0).run Tryz.prog w = .ok v w := run_part_plain w (by kernel_rfl) h
theorem part_bool {xs : Array Value} {v : Value} (h : xs[31]? = some v) (w : World) : (part 4 xs 31).run Tryz.prog w = .ok v w := run_part_plain w (by kernel_rfl) h
theorem part_been (xs : Array Value) (w : World) : (part 215 xs 1).run Tryz.prog w = .ok (.agg (xs.extract 1 31)) w := by
  have hagg : (isAgg 215).run Tryz.prog w = .ok true w := by kernel_rfl
  have hsz : (sizeOf 215).run Tryz.prog w = .ok 30 w := by kernel_rfl
  unfold part
  simp [hagg]
theorem usedC_0 (g : Int) (l : List Bool) (b : Bool) : (usedC g l b)[0]? = some (.int .i64 g) := by rw [← Array.getElem?_toList, usedC_list]; rfl
theorem usedC_31 {g : Int} {l : List Bool} {b : Bool} (h : l.length = 30) : (usedC g l b)[31]? = some (.bool b) := by
  rw [← Array.getElem?_toList, usedC_list, List.getElem?_cons_succ, List.getElem?_append_right (by simp [h])]
  simp [h]
theorem usedC_mid {g : Int} {l : List Bool} {b : Bool} (h : l.length = 30) : (usedC g l b).extract 1 31 = (l.map Value.bool).toArray := by
  apply Array.toList_inj.1
  rw [Array.toList_extract, usedC_list]
  simp [List.extract, h]
theorem Tryz.usedFields : ∃ f0 f1 f2 : Field, (Tryz.prog.fieldsOf 217).toList = [f0, f1, f2] ∧ (f0.name ≠ "_" ∧ f0.type = 3 ∧ f0.offset = 0) ∧ (f1.name ≠ "_" ∧ f1.type = 215 ∧ f1.offset = 1) ∧ (f2.name ≠ "_" ∧ f2.type = 4 ∧ f2.offset = 31) := by
  refine ⟨_, _, _, by simp only [Program.fieldsOf, Tryz.underlying217]; rfl, ⟨by decide, rfl, rfl⟩, ⟨by decide, rfl, rfl⟩, ⟨by decide, rfl, rfl⟩⟩
theorem Tryz.usedStruct : Tryz.prog.underlying 217 = some (.struct (Tryz.prog.fieldsOf 217)) := by kernel_rfl
theorem Tryz.usedStood : Tryz.prog.stoodInHeld 217 = false := by kernel_rfl
theorem three_fields {P : Program} {w : World} {d : Nat} {xs ys : Array Value} {f0 f1 f2 : Field} {a0 b0 a1 b1 a2 b2 : Value} {r0 r1 r2 : Bool} (h0 : f0.name ≠ "_") (h1 : f1.name ≠ "_") (h2 : f2.name ≠ "_")
    (p0 : (part f0.type xs f0.offset).run P w = .ok a0 w) (q0 : (part f0.type ys f0.offset).run P w = .ok b0 w) (e0 : (Op.equalIn d f0.type a0 b0).run P w = .ok r0 w)
    (p1 : (part f1.type xs f1.offset).run P w = .ok a1 w) (q1 : (part f1.type ys f1.offset).run P w = .ok b1 w) (e1 : (Op.equalIn d f1.type a1 b1).run P w = .ok r1 w)
    (p2 : (part f2.type xs f2.offset).run P w = .ok a2 w) (q2 : (part f2.type ys f2.offset).run P w = .ok b2 w) (e2 : (Op.equalIn d f2.type a2 b2).run P w = .ok r2 w) :
    (Op.eqFields d xs ys [f0, f1, f2]).run P w = .ok (r0 && r1 && r2) w := by
  cases r0 <;> cases r1 <;> cases r2 <;> simp [Op.eqFields, h0, h1, h2, p0, q0, e0, p1, q1, e1, p2, q2, e2]
/-- '==' on two used ways. -/
theorem used_eq (d : Nat) (g g' : Int) (l l' : List Bool) (b b' : Bool) (hl : l.length = 30) (hl' : l'.length = 30) (w : World) :
    (Op.equalIn (d + 3) 217 (.agg (usedC g l b)) (.agg (usedC g' l' b'))).run Tryz.prog w = .ok (B (g = g' ∧ l = l' ∧ b = b')) w := by
  obtain ⟨f0, f1, f2, hf, ⟨a1, a2, a3⟩, ⟨b1, b2, b3⟩, ⟨c1, c2, c3⟩⟩ := Tryz.usedFields
  have h := three_fields (P := Tryz.prog) (w := w) (d := d + 2) (xs := usedC g l b) (ys := usedC g' l' b') a1 b1 c1
    (by rw [a2, a3]; exact part_int (usedC_0 g l b) w) (by rw [a2, a3]; exact part_int (usedC_0 g' l' b') w) (by rw [a2]; exact run_equalIn_int (P := Tryz.prog) w (d + 1) 3 .i64 .i64 g g' Tryz.underlying3)
    (by rw [b2, b3]; exact part_been (usedC g l b) w) (by rw [b2, b3]; exact part_been (usedC g' l' b') w) (by rw [b2, usedC_mid hl, usedC_mid hl']; exact been_eq d l l' hl hl' w)
    (by rw [c2, c3]; exact part_bool (usedC_31 (g := g) (b := b) hl) w) (by rw [c2, c3]; exact part_bool (usedC_31 (g := g') (b := b') hl') w) (by rw [c2]; exact run_equalIn_bool' (P := Tryz.prog) w (d + 1) 4 b b' Tryz.underlying4)
  rw [run_equalIn_struct w (d + 2) 217 _ _ Tryz.usedStruct Tryz.usedStood, hf, h]
  have hB : ((g == g') && B (l = l') && (b == b')) = B (g = g' ∧ l = l' ∧ b = b') := by
    unfold B
    by_cases e1 : g = g' <;> by_cases e2 : l = l' <;> by_cases e3 : b = b' <;> simp [e1, e2, e3]
  rw [hB]
/-- '!=' between interface values. -/
theorem neq_types {tx ty : TypeId} (vx vy : Value) (hne : tx ≠ ty) (w : World) : (binOp .neq 165 (.iface tx vx) (.iface ty vy)).run Tryz.prog w = .ok (.bool true) w := by
  have h : ∀ d : Nat, (Op.equalIn (d + 1) 165 (.iface tx vx) (.iface ty vy)).run Tryz.prog w = .ok false w := fun d => by simp [Op.equalIn, run_underlying Tryz.underlying165, hne]
  simp only [binOp]
  simp [Op.equal, Op.maxDepth, h 9999]
theorem iface_same {t : TypeId} {x y : Value} {i : TypeInfo} {d : Nat} {w : World} (hi : Tryz.prog.info? t = some i) (hc : i.comparable = true) : (Op.equalIn (d + 1) 165 (.iface t x) (.iface t y)).run Tryz.prog w = (Op.equalIn d t x y).run Tryz.prog w := by
  simp [Op.equalIn, run_underlying Tryz.underlying165, typeInfo, hi, hc]
theorem neq_same {t : TypeId} {x y : Value} {r : Bool} (hc : (Tryz.prog.info? t).map (·.comparable) = some true) (w : World) (hr : (Op.equalIn 9999 t x y).run Tryz.prog w = .ok r w) : (binOp .neq 165 (.iface t x) (.iface t y)).run Tryz.prog w = .ok (.bool (!r)) w := by
  obtain ⟨i, hi, hci⟩ := Option.map_eq_some_iff.1 hc
  have h : (Op.equalIn (9999 + 1) 165 (.iface t x) (.iface t y)).run Tryz.prog w = .ok r w := by
    rw [iface_same hi hci]
    exact hr
  simp only [binOp]
  simp [Op.equal, Op.maxDepth, h]
theorem one_field {d : Nat} {t ft : TypeId} {x y : Value} {r : Bool} {w : World} (hs : ∃ f : Field, (Tryz.prog.fieldsOf t).toList = [f] ∧ f.name ≠ "_" ∧ f.type = ft ∧ f.offset = 0) (hu : Tryz.prog.underlying t = some (.struct (Tryz.prog.fieldsOf t))) (hp : Tryz.prog.stoodInHeld t = false) (hk : Tryz.prog.plainKey ft = true)
    (he : (Op.equalIn d ft x y).run Tryz.prog w = .ok r w) : (Op.equalIn (d + 1) t (.agg #[x]) (.agg #[y])).run Tryz.prog w = .ok r w := by
  obtain ⟨f, hf, h1, h2, h3⟩ := hs
  rw [run_equalIn_struct w d t _ _ hu hp, hf]
  have p1 := run_part_plain (P := Tryz.prog) w hk (xs := #[x]) (off := 0) (v := x) rfl
  have p2 := run_part_plain (P := Tryz.prog) w hk (xs := #[y]) (off := 0) (v := y) rfl
  cases r <;> simp [Op.eqFields, h1, h2, h3, p1, p2, he]
theorem no_field {d : Nat} {t : TypeId} {w : World} (hs : (Tryz.prog.fieldsOf t).toList = []) (hu : Tryz.prog.underlying t = some (.struct (Tryz.prog.fieldsOf t))) (hp : Tryz.prog.stoodInHeld t = false) : (Op.equalIn (d + 1) t (.agg #[]) (.agg #[])).run Tryz.prog w = .ok true w := by
  rw [run_equalIn_struct w d t _ _ hu hp, hs]
  simp [Op.eqFields]
def st30 : StD → Prop
  | .inr (.inr (.inr (.inr (_, l, _)))) => l.length = 30
  | _ => True
/-- '!=' between two states. -/
theorem st_neq (a c : StD) (ha : st30 a) (hc : st30 c) (w : World) : (binOp .neq 165 (stV a) (stV c)).run Tryz.prog w = .ok (.bool (!(B (a = c)))) w := by
  cases a using StD.by with
  | idle =>
    cases c using StD.by with
    | idle => rw [B_true rfl]; exact neq_same (by kernel_rfl) w (no_field (by simp [Program.fieldsOf, Tryz.underlying183]) (by kernel_rfl) (by kernel_rfl))
    | set b2 => rw [B_false (show ¬ (StD.idle = StD.set b2) from fun z => by cases z)]; exact neq_types _ _ (by decide) w
    | clear => rw [B_false (show ¬ (StD.idle = StD.clear) from fun z => by cases z)]; exact neq_types _ _ (by decide) w
    | taking t2 => rw [B_false (show ¬ (StD.idle = StD.taking t2) from fun z => by cases z)]; exact neq_types _ _ (by decide) w
    | used g2 l2 b2 => rw [B_false (show ¬ (StD.idle = StD.used g2 l2 b2) from fun z => by cases z)]; exact neq_types _ _ (by decide) w
  | set b =>
    cases c using StD.by with
    | idle => rw [B_false (show ¬ (StD.set b = StD.idle) from fun z => by cases z)]; exact neq_types _ _ (by decide) w
    | set b2 =>
      have h := neq_same (t := 212) (x := .agg #[.bool b]) (y := .agg #[.bool b2]) (by kernel_rfl) w (one_field (d := 9998) (ft := 4) ⟨_, by simp only [Program.fieldsOf, Tryz.underlying212]; rfl, by decide, rfl, rfl⟩ (by kernel_rfl) (by kernel_rfl) (by kernel_rfl) (run_equalIn_bool' (P := Tryz.prog) w 9997 4 b b2 Tryz.underlying4))
      refine h.trans ?_
      by_cases e : b = b2
      · rw [B_true (show StD.set b = StD.set b2 by rw [e]), show (b == b2) = true by simpa using e]
      · rw [B_false (show ¬ (StD.set b = StD.set b2) from fun z => by cases z; exact e rfl), show (b == b2) = false by simpa using e]
    | clear => rw [B_false (show ¬ (StD.set b = StD.clear) from fun z => by cases z)]; exact neq_types _ _ (by decide) w
    | taking t2 => rw [B_false (show ¬ (StD.set b = StD.taking t2) from fun z => by cases z)]; exact neq_types _ _ (by decide) w
    | used g2 l2 b2 => rw [B_false (show ¬ (StD.set b = StD.used g2 l2 b2) from fun z => by cases z)]; exact neq_types _ _ (by decide) w
  | clear =>
    cases c using StD.by with
    | idle => rw [B_false (show ¬ (StD.clear = StD.idle) from fun z => by cases z)]; exact neq_types _ _ (by decide) w
    | set b2 => rw [B_false (show ¬ (StD.clear = StD.set b2) from fun z => by cases z)]; exact neq_types _ _ (by decide) w
    | clear => rw [B_true rfl]; exact neq_same (by kernel_rfl) w (no_field (by simp [Program.fieldsOf, Tryz.underlying214]) (by kernel_rfl) (by kernel_rfl))
    | taking t2 => rw [B_false (show ¬ (StD.clear = StD.taking t2) from fun z => by cases z)]; exact neq_types _ _ (by decide) w
    | used g2 l2 b2 => rw [B_false (show ¬ (StD.clear = StD.used g2 l2 b2) from fun z => by cases z)]; exact neq_types _ _ (by decide) w
  | taking t =>
    cases c using StD.by with
    | idle => rw [B_false (show ¬ (StD.taking t = StD.idle) from fun z => by cases z)]; exact neq_types _ _ (by decide) w
    | set b2 => rw [B_false (show ¬ (StD.taking t = StD.set b2) from fun z => by cases z)]; exact neq_types _ _ (by decide) w
    | clear => rw [B_false (show ¬ (StD.taking t = StD.clear) from fun z => by cases z)]; exact neq_types _ _ (by decide) w
    | taking t2 =>
      have h := neq_same (t := 258) (x := .agg #[.int .i64 t]) (y := .agg #[.int .i64 t2]) (by kernel_rfl) w (one_field (d := 9998) (ft := 3) ⟨_, by simp only [Program.fieldsOf, Tryz.underlying258]; rfl, by decide, rfl, rfl⟩ (by kernel_rfl) (by kernel_rfl) (by kernel_rfl) (run_equalIn_int (P := Tryz.prog) w 9997 3 .i64 .i64 t t2 Tryz.underlying3))
      refine h.trans ?_
      by_cases e : t = t2
      · rw [B_true (show StD.taking t = StD.taking t2 by rw [e]), show (t == t2) = true by simpa using e]
      · rw [B_false (show ¬ (StD.taking t = StD.taking t2) from fun z => by cases z; exact e rfl), show (t == t2) = false by simpa using e]
    | used g2 l2 b2 => rw [B_false (show ¬ (StD.taking t = StD.used g2 l2 b2) from fun z => by cases z)]; exact neq_types _ _ (by decide) w
  | used g l b =>
    cases c using StD.by with
    | idle => rw [B_false (show ¬ (StD.used g l b = StD.idle) from fun z => by cases z)]; exact neq_types _ _ (by decide) w
    | set b2 => rw [B_false (show ¬ (StD.used g l b = StD.set b2) from fun z => by cases z)]; exact neq_types _ _ (by decide) w
    | clear => rw [B_false (show ¬ (StD.used g l b = StD.clear) from fun z => by cases z)]; exact neq_types _ _ (by decide) w
    | taking t2 => rw [B_false (show ¬ (StD.used g l b = StD.taking t2) from fun z => by cases z)]; exact neq_types _ _ (by decide) w
    | used g2 l2 b2 =>
      have h := neq_same (t := 217) (by kernel_rfl) w (used_eq 9996 g g2 l l2 b b2 ha hc w)
      refine h.trans ?_
      rw [B_congr (p := g = g2 ∧ l = l2 ∧ b = b2) (q := StD.used g l b = StD.used g2 l2 b2) ⟨fun z => by rw [z.1, z.2.1, z.2.2], fun z => by cases z; exact ⟨rfl, rfl, rfl⟩⟩]
end Go.Proofs.YtdhinkgjiapigabGreatDoor

import Derived.Test.YtdhinkgjiapigabGreatDoorChkA
import Derived.Test.YtdhinkgjiapigabGreatDoorAs
namespace Go.Proofs.YtdhinkgjiapigabGreatDoor
open Go.RowKit Go.Deep

/-- errors.errorType's cell. -/
abbrev errT : Value := .iface 290 (.agg #[.pointer (some ⟨5, 142, none⟩)])

theorem rowIs_new2 (u : World) (t n : Nat) (a b : Value) (h : u.heap.size = n) : (u.alloc (.cells #[a, b] t)).rowIs n t 2 (two a b) := by
  subst h
  exact rowIs_new u t #[a, b]

/-- What errors.As leaves behind a hit: four new blocks, the target set. -/
theorem as_left {w w1 w2 : World} {t t' : Nat} {g : Nat → Value} {o1 o2 o3 o4 : Obj} {c a : Value} {f : Nat → Value} (B1 : Below w.heap.size w w1) (R : w1.rowIs (w.heap.size + 1) t 2 g) (F : w1.rowIs (w.heap.size + 1 + 1) t' 2 f)
    (h : w2 = (((((w1.alloc o1).alloc o2).alloc o3).alloc o4).setCell ⟨w.heap.size + 1 + 1, 0, none⟩ c).setCell ⟨w.heap.size + 1 + 1, 1, none⟩ a) :
    Below w.heap.size w w2 ∧ w2.rowIs (w.heap.size + 1) t 2 g ∧ w2.cell? ⟨w.heap.size + 1 + 1, 0, none⟩ = some c ∧ w2.cell? ⟨w.heap.size + 1 + 1, 1, none⟩ = some a := by
  have h4 : Below w1.heap.size w1 ((((w1.alloc o1).alloc o2).alloc o3).alloc o4) := ((((Below.refl _ _).alloc (Nat.le_refl _) _).alloc (by simp) _).alloc (by simp; omega) _).alloc (by simp; omega) _
  have B4 := B1.trans (h4.mono B1.size)
  have R4 := rowIs_keep R h4
  have F4 := rowIs_keep F h4
  subst h
  have F5 := (F4.set 0 c).set 1 a
  refine ⟨(B4.setCell (by show w.heap.size ≤ w.heap.size + 1 + 1; omega) _).setCell (by show w.heap.size ≤ w.heap.size + 1 + 1; omega) _, (R4.setOther (by show w.heap.size + 1 ≠ w.heap.size + 1 + 1; omega) _).setOther (by show w.heap.size + 1 ≠ w.heap.size + 1 + 1; omega) _, ?_, ?_⟩
  · simpa using F5.cell (i := 0) (by omega)
  · simpa using F5.cell (i := 1) (by omega)

set_option maxHeartbeats 2000000 in
theorem implPlanOk_any (v1 v2 v3 : Value) (d : PlanD) (w : World) (hp : PlanAt (In w) w v1 v2 v3 d) (hs : d.Small 1048576) (hg : w.cell? ⟨1, 0, none⟩ = some errT) :
    Calls Tryz.prog 136 #[.agg #[.int .i64 d.sections, v1, v2, v3, .int .i64 d.hold]] w fun e w' => ∃ c a, e = .returned (.agg #[.int .i64 c, .int .i64 a]) ∧ FaultBy (Bad5' d) d c a ∧ Below w.heap.size w w' := by
  have T1 := Bx1.start w 37 (.int .i64 d.sections) v1 v2 v3 (.int .i64 d.hold)
  have hb1 := below_new (w.alloc (.cells #[.int .i64 d.sections, v1, v2, v3, .int .i64 d.hold] 37)) (.cells #[.int .i64 0, .int .i64 0] 157)
  have hb2 := below_new ((w.alloc (.cells #[.int .i64 d.sections, v1, v2, v3, .int .i64 d.hold] 37)).alloc (.cells #[.int .i64 0, .int .i64 0] 157)) (.cells #[.int .i64 0, .int .i64 0] 205)
  have R1 := rowIs_keep (rowIs_new2 (w.alloc (.cells #[.int .i64 d.sections, v1, v2, v3, .int .i64 d.hold] 37)) 157 (w.heap.size + 1) (.int .i64 0) (.int .i64 0) (by simp)) hb2
  have F1 := rowIs_new2 ((w.alloc (.cells #[.int .i64 d.sections, v1, v2, v3, .int .i64 d.hold] 37)).alloc (.cells #[.int .i64 0, .int .i64 0] 157)) 205 (w.heap.size + 1 + 1) (.int .i64 0) (.int .i64 0) (by simp)
  have T3 := (T1.call hb1).call hb2
  have hpw := hp.keep (In.keep T3.below).1 (In.keep T3.below).2
  have hg3 := ck hg T3.below
  clear T1 hb1 hb2 hp
  go_enter Tryz.func136, Tryz.ntmps136
  go_wp2_with fail
  refine (checkPlan_any v1 v2 v3 d _ hpw hs).mono ?_
  rintro e w1 ⟨v, rfl, hv, hb⟩
  have B1 : Below w.heap.size w w1 := T3.below.trans (hb.mono T3.below.size)
  have R2 := rowIs_keep R1 hb
  have F2 := rowIs_keep F1 hb
  have hg4 := ck hg3 hb
  clear T3 hpw hb R1 F1 hg3
  have r0 := R2.cell (i := 0) (by omega)
  have r1 := R2.cell (i := 1) (by omega)
  have rf0 := R2.frozen 0
  have rf1 := R2.frozen 1
  have f0 : w1.cell? ⟨w.heap.size + 1 + 1, 0, none⟩ = some (.int .i64 0) := by simpa [two] using F2.cell (i := 0) (by omega)
  have f1 : w1.cell? ⟨w.heap.size + 1 + 1, 1, none⟩ = some (.int .i64 0) := by simpa [two] using F2.cell (i := 1) (by omega)
  have ff0 := F2.frozen 0
  have ff1 := F2.frozen 1
  rcases hv with ⟨c, a, rfl, hf⟩ | ⟨rfl, hf⟩
  · have HF := hide hf
    clear hf
    go_wp2_with fail
    refine (as_hit (w.heap.size + 1 + 1) c a 0 0 w1 hg4 f0 f1 ff0 ff1).mono ?_
    rintro e w2 ⟨rfl, hw2⟩
    obtain ⟨B2, R3, g0, g1⟩ := as_left B1 R2 F2 hw2
    clear hw2 r0 r1 rf0 rf1 f0 f1 ff0 ff1 B1 R2 F2
    have r0 := R3.cell (i := 0) (by omega)
    have r1 := R3.cell (i := 1) (by omega)
    have rf0 := R3.frozen 0
    have rf1 := R3.frozen 1
    go_wp2
    exact bodyPost_ret (v := .agg #[.int .i64 c, .int .i64 a]) (by simp [results, Tryz.results136, go_sem, r0, r1]) rfl ⟨c, a, rfl, HF.out, (B2.setCell (by show w.heap.size ≤ w.heap.size + 1; omega) _).setCell (by show w.heap.size ≤ w.heap.size + 1; omega) _⟩
  · have HF := hide hf
    clear hf
    go_wp2_with fail
    refine (as_nil _ w1).mono ?_
    rintro e w2 ⟨rfl, rfl⟩
    go_wp2
    exact bodyPost_ret (v := .agg #[.int .i64 0, .int .i64 0]) (by simp [results, Tryz.results136, go_sem, r0, r1]) rfl ⟨0, 0, rfl, HF.out, (B1.setCell (by show w.heap.size ≤ w.heap.size + 1; omega) _).setCell (by show w.heap.size ≤ w.heap.size + 1; omega) _⟩
end Go.Proofs.YtdhinkgjiapigabGreatDoor

import Derived.Test.YtdhinkgjiapigabGreatDoorFrIB
import Derived.Test.YtdhinkgjiapigabGreatDoorEvA
namespace Go.Proofs.YtdhinkgjiapigabGreatDoor
open Go.RowKit Go.Deep
open Classical

/-- What the program's FrameOk asks is what the frame's reading asks. -/
theorem bars_sym {p : PlanD} (h : Right p) {i k : Nat} (hi : i < p.ways.length) (hk : k < p.ways.length) (hb : p.bar i k = some true) : p.bar k i = some true := by
  obtain ⟨r, b, -, -, -, hbar⟩ := h.row hk hi
  cases b with
  | true => exact hbar
  | false =>
    exfalso
    refine h.parts.2.2.2.2.2 i ⟨hi, k, hk, ?_⟩
    exact .inl (by rw [hb, hbar]; intro z; cases z)
theorem frame_iff {p : PlanD} {d : FrameD} (hR : Right p) (hl : d.ways.length = p.ways.length) : ((∀ i, i < p.ways.length → WayS1 p d i) ∧ ¬ BarredA p d) ↔ ((∀ i, i < d.ways.length → WayR p d i) ∧ d.ways = (settleD p.ways d).ways) := by
  constructor
  · rintro ⟨h1, h2⟩
    refine ⟨fun i hi x h hx hh => ⟨(h1 i (by omega) x h hx hh).1, fun k g hne hg hb hs => ?_⟩, ?_⟩
    · apply Decidable.byContradiction
      intro hgs
      have hk : k < p.ways.length := by have := (List.getElem?_eq_some_iff.1 hg).1; omega
      rcases Nat.lt_or_ge k i with e | e
      · exact h2 ⟨i, k, by omega, e, h, g, hb, hh, hg, hs, hgs⟩
      · exact h2 ⟨k, i, hk, by omega, g, h, bars_sym hR (by omega) hk hb, hg, hh, hgs, hs⟩
    · unfold settleD
      apply List.ext_getElem?
      intro j
      show d.ways[j]? = (List.zipWith (settle1 d.occ d.points) p.ways d.ways)[j]?
      rw [List.getElem?_zipWith]
      by_cases hj : j < p.ways.length
      · obtain ⟨x, hx⟩ := lt_get' p.ways hj
        obtain ⟨h, hh⟩ := lt_get' d.ways (i := j) (by omega)
        rw [hx, hh]
        exact congrArg some (h1 j hj x h hx hh).2.symm
      · rw [List.getElem?_eq_none (by omega : p.ways.length ≤ j), List.getElem?_eq_none (by omega : d.ways.length ≤ j)]
  · rintro ⟨h1, h2⟩
    refine ⟨fun i hi x h hx hh => ⟨(h1 i (by omega) x h hx hh).1, ?_⟩, ?_⟩
    · have := congrArg (fun l => l[i]?) h2
      simp only [settleD] at this
      rw [List.getElem?_zipWith, hx, hh] at this
      exact (Option.some.inj this).symm
    · rintro ⟨i, k, hi, hk, h, g, hb, hh, hg, hs, hgs⟩
      obtain ⟨x, hx⟩ := lt_get' p.ways hi
      exact hgs ((h1 i (by omega) x h hx hh).2 k g (by omega) hg hb hs)

set_option maxRecDepth 100000 in
set_option maxHeartbeats 4000000 in
theorem implFrameOk_any (p1 p2 p3 f1 f2 f3 : Value) (p : PlanD) (d : FrameD) (w : World) (hp : PlanAt (In w) w p1 p2 p3 p) (hf : FrameAt (In w) w f1 f2 f3 d) (hs : p.Small 1048576) (hd : d.Small 1048576) (hg : w.cell? ⟨1, 0, none⟩ = some errT) :
    Calls Tryz.prog 18 #[.agg #[.int .i64 p.sections, p1, p2, p3, .int .i64 p.hold], .agg #[.bool d.ok, f1, f2, f3]] w fun e w' => e = .returned (.bool (B (FrameR p d))) ∧ Below w.heap.size w w' := by
  obtain ⟨okb, hok⟩ : ∃ c, d.ok = c := ⟨_, rfl⟩
  rw [hok]
  have HOK := hide hok
  have T0 := boxes2 w 37 42 #[.int .i64 p.sections, p1, p2, p3, .int .i64 p.hold] #[.bool okb, f1, f2, f3]
  have hkp : ∀ W, Below w.heap.size w W → PlanAt (In W) W p1 p2 p3 p := fun W h => hp.keep (In.keep h).1 (In.keep h).2
  have hkf : ∀ W, Below w.heap.size w W → FrameAt (In W) W f1 f2 f3 d := fun W h => hf.keep (In.keep h).1 (In.keep h).2
  have KP := hide hkp
  have KF := hide hkf
  obtain ⟨a1, c1, rfl⟩ := hp.1.size
  obtain ⟨o1, m1, rfl⟩ := hf.1.size
  have hg0 := ck hg T0.below
  have hsw := hs.1
  have HD := hide hd
  have hd1 := hd.1
  have hd2 := hd.2.1
  clear hok hkp hkf hp hf hg hd
  go_enter Tryz.func18, Tryz.ntmps18
  go_wp2_with fail
  refine (planRight_any _ _ _ p _ (KP.out _ T0.below) hs hg0).mono ?_
  rintro e w1 ⟨rfl, hb⟩
  have T1 := T0.call hb
  clear hb T0 hg0 hs
  by_cases q : Right p
  case neg =>
    rw [B_false q]
    have Q := hide q
    clear q
    go_wp2
    go_ret
    exact ⟨ret_bool (B_false fun h => Q.out h.1).symm, T1.below⟩
  rw [B_true q]
  have Q := hide q
  clear q
  have b0 := T1.cell (j := 0) (i := 0) rfl rfl
  have b1 := T1.cell (j := 0) (i := 1) rfl rfl
  have b2 := T1.cell (j := 0) (i := 2) rfl rfl
  have b3 := T1.cell (j := 0) (i := 3) rfl rfl
  have b4 := T1.cell (j := 0) (i := 4) rfl rfl
  have e0 := T1.cell (j := 1) (i := 0) rfl rfl
  have e1 := T1.cell (j := 1) (i := 1) rfl rfl
  have e2 := T1.cell (j := 1) (i := 2) rfl rfl
  have e3 := T1.cell (j := 1) (i := 3) rfl rfl
  rw [Nat.add_zero] at b0 b1 b2 b3 b4
  cases okb with
  | false =>
    go_wp2
    go_ret
    exact ⟨ret_bool (B_false fun h => by have := h.2.1; rw [HOK.out] at this; cases this).symm, T1.below⟩
  | true =>
  by_cases ho : (d.occ.length : Int) = p.sections
  case neg =>
    have k0 : ((d.occ.length : Int) == p.sections) = false := by simpa using ho
    have HO := hide ho
    clear ho
    go_wp2
    go_ret
    exact ⟨ret_bool (B_false fun h => HO.out h.2.2.1).symm, T1.below⟩
  have k0 : ((d.occ.length : Int) == p.sections) = true := by simpa using ho
  have HO := hide ho
  clear ho
  go_wp2_with fail
  refine (pointsOk_any _ _ _ _ _ _ _ _ a1 p.switches.length c1 d.points _ (KF.out _ T1.below).2.1 hsw hd2).mono ?_
  clear b0 b1 b2 b3 b4 e0 e1 e2 e3
  rintro e w2 ⟨rfl, hb⟩
  have T2 := T1.call hb
  clear hb T1
  have b0 := T2.cell (j := 0) (i := 0) rfl rfl
  have b1 := T2.cell (j := 0) (i := 1) rfl rfl
  have b2 := T2.cell (j := 0) (i := 2) rfl rfl
  have b3 := T2.cell (j := 0) (i := 3) rfl rfl
  have b4 := T2.cell (j := 0) (i := 4) rfl rfl
  have e0 := T2.cell (j := 1) (i := 0) rfl rfl
  have e1 := T2.cell (j := 1) (i := 1) rfl rfl
  have e2 := T2.cell (j := 1) (i := 2) rfl rfl
  have e3 := T2.cell (j := 1) (i := 3) rfl rfl
  rw [Nat.add_zero] at b0 b1 b2 b3 b4
  by_cases hpt : PointsR p.switches.length d.points
  case neg =>
    rw [B_false hpt]
    have HPT := hide hpt
    clear hpt
    go_wp2
    go_ret
    exact ⟨ret_bool (B_false fun h => HPT.out ⟨h.2.2.2.1, h.2.2.2.2.2.1⟩).symm, T2.below⟩
  rw [B_true hpt]
  have HPT := hide hpt
  clear hpt
  go_wp2_with fail
  refine (waysOk_any _ _ _ _ _ _ _ p d _ (KP.out _ T2.below) (KF.out _ T2.below) Q.out HO.out HPT.out.1 HD.out).mono ?_
  clear b0 b1 b2 b3 b4 e0 e1 e2 e3
  rintro e w3 ⟨rfl, hb⟩
  have T3 := T2.call hb
  clear hb T2
  have b0 := T3.cell (j := 0) (i := 0) rfl rfl
  have b1 := T3.cell (j := 0) (i := 1) rfl rfl
  have b2 := T3.cell (j := 0) (i := 2) rfl rfl
  have b3 := T3.cell (j := 0) (i := 3) rfl rfl
  have b4 := T3.cell (j := 0) (i := 4) rfl rfl
  have e0 := T3.cell (j := 1) (i := 0) rfl rfl
  have e1 := T3.cell (j := 1) (i := 1) rfl rfl
  have e2 := T3.cell (j := 1) (i := 2) rfl rfl
  have e3 := T3.cell (j := 1) (i := 3) rfl rfl
  rw [Nat.add_zero] at b0 b1 b2 b3 b4
  by_cases hw : d.ways.length = p.ways.length ∧ ∀ i, i < p.ways.length → WayS1 p d i
  case neg =>
    rw [B_false hw]
    have HW := hide hw
    clear hw
    go_wp2
    go_ret
    exact ⟨ret_bool (B_false fun h => HW.out ⟨h.2.2.2.2.1, ((frame_iff Q.out h.2.2.2.2.1).2 ⟨h.2.2.2.2.2.2.1, h.2.2.2.2.2.2.2⟩).1⟩).symm, T3.below⟩
  rw [B_true hw]
  have HW := hide hw
  clear hw
  go_wp2_with fail
  refine (barredHeld_any _ _ _ _ _ _ _ _ p d _ (KP.out _ T3.below) (KF.out _ T3.below) Q.out HW.out.1).mono ?_
  clear b0 b1 b2 b3 b4 e0 e1 e2 e3
  rintro e w4 ⟨rfl, hb⟩
  have T4 := T3.call hb
  clear hb T3
  have hfin : (!(B (BarredA p d))) = B (FrameR p d) := by
    by_cases hba : BarredA p d
    · rw [B_true hba, B_false fun h => ((frame_iff Q.out HW.out.1).2 ⟨h.2.2.2.2.2.2.1, h.2.2.2.2.2.2.2⟩).2 hba]
      rfl
    · have := (frame_iff Q.out HW.out.1).1 ⟨HW.out.2, hba⟩
      rw [B_false hba, B_true (show FrameR p d from ⟨Q.out, HOK.out, HO.out, HPT.out.1, HW.out.1, HPT.out.2, this.1, this.2⟩)]
      rfl
  have HFIN := hide hfin
  clear hfin
  go_wp2
  go_ret
  exact ⟨ret_bool HFIN.out, T4.below⟩
end Go.Proofs.YtdhinkgjiapigabGreatDoor

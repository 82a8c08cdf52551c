import Derived.Test.YtdhinkgjiapigabGreatDoorFrA
import Derived.Test.YtdhinkgjiapigabGreatDoorSpec7
namespace Go.Proofs.YtdhinkgjiapigabGreatDoor
open Go.RowKit Go.Deep
open Classical

def PointsR (m : Nat) (points : List (Int × Int)) : Prop := points.length = m ∧ ∀ (k : Nat) x, points[k]? = some x → PointR x

set_option maxRecDepth 100000 in
set_option maxHeartbeats 2000000 in
theorem pointsOk_any (n hd p2 p3 ok f1 f2 f3 : Value) (a1 : Option Addr) (m c1 : Nat) (points : List (Int × Int)) (w : World) (hf2 : Lies (In w) w f2 points) (_hm : m ≤ 1048576) (hl : points.length ≤ 1048576) :
    Calls Tryz.prog 77 #[.agg #[n, .slice a1 m c1, p2, p3, hd], .agg #[ok, f1, f2, f3]] w fun e w' => e = .returned (.bool (B (PointsR m points))) ∧ Below w.heap.size w w' := by
  obtain ⟨a2, c2, rfl, q2⟩ := hf2
  have HQ := hide q2
  have T0 := boxes2 w 37 42 #[n, .slice a1 m c1, p2, p3, hd] #[ok, f1, .slice a2 points.length c2, f3]
  clear q2
  go_enter Tryz.func77, Tryz.ntmps77
  by_cases q0 : points.length = m
  case neg =>
    have k0 : ((points.length : Int) != (m : Int)) = true := by simp; omega
    have Q0 := hide q0
    clear q0
    go_wp2
    go_ret
    exact ⟨ret_bool (B_false fun z => Q0.out z.1).symm, T0.below⟩
  have k0 : ((points.length : Int) != (m : Int)) = false := by simp; omega
  have Q0 := hide q0
  clear q0
  go_wp2
  go_loopw [17] (fun z wr => ∃ (q : Nat), q ≤ points.length ∧ z = .int .i64 q ∧ (∀ (k : Nat) x, k < q → points[k]? = some x → PointR x) ∧ Boxes w [(37, #[n, .slice a1 m c1, p2, p3, hd]), (42, #[ok, f1, .slice a2 points.length c2, f3])] wr) (fun z _ => points.length - (intOf z).toNat)
  case atStart => exact ⟨0, Nat.zero_le _, rfl, fun k x hk => by omega, T0⟩
  case round =>
    obtain ⟨q, hq, rfl, hall, T3⟩ := hrel
    have HA := hide hall
    clear hall T0
    by_cases hql : q < points.length
    · obtain h0 | ⟨bl, ol, rfl, hbl, hc⟩ := HQ.out
      · omega
      obtain ⟨y, hy⟩ := lt_get' points hql
      obtain ⟨g0, g1⟩ := hc q hql y hy
      rw [← T3.below.cell (p := ⟨bl, _, none⟩) hbl] at g0 g1
      have Hy := hide hy
      have T4 := T3.call (below_new _ (.cells #[.int .i64 y.1, .int .i64 y.2] 90))
      have hno : ¬ PointR y → B (PointsR m points) = false := fun z => B_false fun k => z (k.2 q y Hy.out)
      have HNO := hide hno
      obtain ⟨y1, y2⟩ := y
      clear hy hc hno
      dsimp only at g0 g1 T4
      by_cases c1 : y1 < 1
      · go_wp2
        go_ret
        exact ⟨ret_bool (HNO.out fun z => by have := z.1.1; dsimp only at this; omega).symm, T4.below⟩
      by_cases c2 : 2 < y1
      · go_wp2
        go_ret
        exact ⟨ret_bool (HNO.out fun z => by have := z.1.2; dsimp only at this; omega).symm, T4.below⟩
      by_cases c3 : y2 < 0
      · go_wp2
        go_ret
        exact ⟨ret_bool (HNO.out fun z => by have := z.2.1; dsimp only at this; omega).symm, T4.below⟩
      by_cases c4 : 2 < y2
      · go_wp2
        go_ret
        exact ⟨ret_bool (HNO.out fun z => by have := z.2.2; dsimp only at this; omega).symm, T4.below⟩
      go_wp2
      go_roundw
      case rel => exact ⟨q + 1, by omega, by go_num, fun k x hk hx => by
        by_cases e : k = q
        · subst e; rw [Hy.out] at hx; cases hx; exact ⟨⟨by show 1 ≤ y1; omega, by show y1 ≤ 2; omega⟩, ⟨by show 0 ≤ y2; omega, by show y2 ≤ 2; omega⟩⟩
        · exact HA.out k x (by omega) hx, T4⟩
      case measure => simp [intOf]; omega
    · go_wp2
      go_ret
      exact ⟨ret_bool (B_true ⟨Q0.out, fun k x hx => HA.out k x (by have := (List.getElem?_eq_some_iff.1 hx).1; omega) hx⟩).symm, T3.below⟩

/-- Way i is held, and excludes way k, which is held. -/
def BarredD (p : PlanD) (d : FrameD) (i k : Nat) : Prop := ∃ h g, p.bar i k = some true ∧ d.ways[i]? = some h ∧ d.ways[k]? = some g ∧ h.state ≠ 0 ∧ g.state ≠ 0
def BarredA (p : PlanD) (d : FrameD) : Prop := ∃ i k, i < p.ways.length ∧ k < i ∧ BarredD p d i k

set_option maxRecDepth 100000 in
set_option maxHeartbeats 4000000 in
theorem barredHeld_any (hd ok p1 p2 p3 f1 f2 f3 : Value) (p : PlanD) (d : FrameD) (w : World) (hp : PlanAt (In w) w p1 p2 p3 p) (hf : FrameAt (In w) w f1 f2 f3 d) (hR : Right p) (hl : d.ways.length = p.ways.length) :
    Calls Tryz.prog 79 #[.agg #[.int .i64 p.sections, p1, p2, p3, hd], .agg #[ok, f1, f2, f3]] w fun e w' => e = .returned (.bool (B (BarredA p d))) ∧ Below w.heap.size w w' := by
  have hn : p.ways.length ≤ 100 := hR.parts.1.2.2.1
  obtain ⟨a2, c2, rfl⟩ := hp.2.1.size
  obtain ⟨a3, c3, rfl, hc3⟩ := hp.2.2
  have hbl : p.bars.length = p.ways.length := hR.parts.2.2.2.1
  rw [hbl] at hc3 ⊢
  have T0 := boxes2 w 37 42 #[.int .i64 p.sections, p1, .slice a2 p.ways.length c2, .slice a3 p.ways.length c3, hd] #[ok, f1, f2, f3]
  have hkf : ∀ W, Below w.heap.size w W → Helds (In W) W f3 d.ways := fun W h => hf.2.2.keep (In.keep h).1 (In.keep h).2
  have KF := hide hkf
  have HC3 := hide hc3
  have HR := hide hR
  have HL := hide hl
  have hcall : ∀ (W : World) (i : Nat) h, Below w.heap.size w W → d.ways[i]? = some h → Calls Tryz.prog 139 #[.agg #[ok, f1, f2, f3], .int .i64 i] W fun e w' => e = .returned (.bool (h.state != 0)) ∧ Below W.heap.size W w' := fun W i h hW hi => isHeld_any ok f1 f2 f3 d.ways i h W (KF.out _ hW) hi (by have := HL.out; omega)
  have HCALL := hide hcall
  clear hkf hp hf hc3 hR hbl hl hcall
  go_enter Tryz.func79, Tryz.ntmps79
  go_wp2
  go_loopw [10] (fun z wr => ∃ (i : Nat), i ≤ p.ways.length ∧ z = .int .i64 i ∧ (∀ j k, j < i → k < j → ¬ BarredD p d j k) ∧ Boxes w [(37, #[.int .i64 p.sections, p1, .slice a2 p.ways.length c2, .slice a3 p.ways.length c3, hd]), (42, #[ok, f1, f2, f3])] wr) (fun z _ => p.ways.length - (intOf z).toNat)
  case atStart => exact ⟨0, Nat.zero_le _, rfl, fun j k hj => by omega, T0⟩
  case round =>
    obtain ⟨i, hi, rfl, hno, T1⟩ := hrel
    rename World => wo
    have HNO := hide hno
    clear hno T0
    by_cases hlt : i < p.ways.length
    · obtain ⟨h, hh⟩ := get_some d.ways HL hlt
      have HH := hide hh
      clear hh
      go_wp2
      go_loopw [14] (fun z wr => ∃ (k : Nat), k ≤ i ∧ z = .int .i64 k ∧ (∀ j, j < k → ¬ BarredD p d i j) ∧ Boxes w [(37, #[.int .i64 p.sections, p1, .slice a2 p.ways.length c2, .slice a3 p.ways.length c3, hd]), (42, #[ok, f1, f2, f3])] wr) (fun z _ => i - (intOf z).toNat)
      case atStart => exact ⟨0, Nat.zero_le _, rfl, fun j hj => by omega, T1⟩
      case round =>
        obtain ⟨k, hk, rfl, hnk, T2⟩ := hrel
        have HNK := hide hnk
        clear hnk T1
        by_cases hkl : k < i
        · obtain ⟨g, hg⟩ := get_some d.ways HL (k := k) (by omega)
          have HG := hide hg
          obtain ⟨r, bb, hr, hrl, hrb, hbar⟩ := HR.out.row hlt (k := k) (by omega)
          obtain h0 | ⟨b3, o3, rfl, hb3, hrow⟩ := HC3.out
          · omega
          obtain ⟨v0, hv0, e0⟩ := hrow i hlt r hr
          obtain ⟨av, cv, rfl, h0 | ⟨bv, ov, rfl, hbv, hcell⟩⟩ := hv0
          · omega
          have e1 := hcell k (by omega) bb hrb
          rw [← T2.below.cell (p := ⟨b3, _, none⟩) hb3] at e0
          rw [← T2.below.cell (p := ⟨bv, _, none⟩) hbv] at e1
          have hkr : (k : Int) < (r.length : Int) := by omega
          have HB := hide hbar
          have hnx : (bb = true → h.state ≠ 0 → g.state = 0) → ∀ j, j < k + 1 → ¬ BarredD p d i j := fun hz j hj => by
            by_cases e : j = k
            · subst e
              rintro ⟨h', g', k1, k2, k3, k4, k5⟩
              rw [HH.out] at k2
              rw [HG.out] at k3
              cases k2
              cases k3
              rw [HB.out] at k1
              exact k5 (hz (Option.some.inj k1) k4)
            · exact HNK.out j (by omega)
          have HNX := hide hnx
          have q0 := T2.cell (j := 1) (i := 0) rfl rfl
          have q1 := T2.cell (j := 1) (i := 1) rfl rfl
          have q2 := T2.cell (j := 1) (i := 2) rfl rfl
          have q3 := T2.cell (j := 1) (i := 3) rfl rfl
          have b3' := T2.cell (j := 0) (i := 3) rfl rfl
          rw [Nat.add_zero] at b3'
          clear hg hr hrb hbar hrow hcell hnx
          cases bb
          · go_wp2
            go_roundw
            case rel => exact ⟨k + 1, by omega, by go_num, HNX.out (fun z => by cases z), T2⟩
            case measure => simp [intOf]; omega
          · go_wp2_with fail
            refine (HCALL.out _ i h T2.below HH.out).mono ?_
            rintro e w3 ⟨rfl, hb⟩
            have T3 := T2.call hb
            clear hb q0 q1 q2 q3 b3' e0 e1
            have q0 := T3.cell (j := 1) (i := 0) rfl rfl
            have q1 := T3.cell (j := 1) (i := 1) rfl rfl
            have q2 := T3.cell (j := 1) (i := 2) rfl rfl
            have q3 := T3.cell (j := 1) (i := 3) rfl rfl
            by_cases s1 : h.state = 0
            · have k1 : (h.state != 0) = false := by simp [s1]
              have S1 := hide s1
              clear s1
              go_wp2
              go_roundw
              case rel => exact ⟨k + 1, by omega, by go_num, HNX.out (fun _ z => absurd S1.out z), T3⟩
              case measure => simp [intOf]; omega
            have k1 : (h.state != 0) = true := by simp [s1]
            have S1 := hide s1
            clear s1
            go_wp2_with fail
            refine (HCALL.out _ k g T3.below HG.out).mono ?_
            rintro e w4 ⟨rfl, hb⟩
            have T4 := T3.call hb
            clear hb q0 q1 q2 q3
            by_cases s2 : g.state = 0
            · have k2 : (g.state != 0) = false := by simp [s2]
              have S2 := hide s2
              clear s2
              go_wp2
              go_roundw
              case rel => exact ⟨k + 1, by omega, by go_num, HNX.out (fun _ _ => S2.out), T4⟩
              case measure => simp [intOf]; omega
            have k2 : (g.state != 0) = true := by simp [s2]
            have S2 := hide s2
            clear s2
            go_wp2
            go_ret
            exact ⟨ret_bool (B_true ⟨i, k, hlt, hkl, h, g, HB.out, HH.out, HG.out, S1.out, S2.out⟩).symm, T4.below⟩
        · go_wp2
          go_roundw
          case rel => exact ⟨i + 1, by omega, by go_num, fun j q hj hq => by
            by_cases e : j = i
            · subst e; exact HNK.out q (by omega)
            · exact HNO.out j q (by omega) hq, T2⟩
          case measure => simp [intOf]; omega
    · go_wp2
      go_ret
      exact ⟨ret_bool (B_false fun ⟨j, q, h1, h2, h3⟩ => HNO.out j q (by omega) h2 h3).symm, T1.below⟩
end Go.Proofs.YtdhinkgjiapigabGreatDoor

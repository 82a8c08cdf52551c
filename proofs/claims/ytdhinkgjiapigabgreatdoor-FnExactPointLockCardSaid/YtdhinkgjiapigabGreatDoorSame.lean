import Derived.Test.YtdhinkgjiapigabGreatDoorSpec6
import Derived.Test.YtdhinkgjiapigabGreatDoorSettle
namespace Go.Proofs.YtdhinkgjiapigabGreatDoor
open Go.RowKit Go.Deep
open Classical

set_option maxRecDepth 100000 in
set_option maxHeartbeats 4000000 in
theorem l2same_any (ok ok' f1 f2 f3 g1 g2 g3 : Value) (la lb : List HeldD) (w : World) (hf : Helds (In w) w f3 la) (hg : Helds (In w) w g3 lb)
    (hl : la.length = lb.length) (h100 : la.length ≤ 1048576) (hb : ∀ (i : Nat) x y, la[i]? = some x → lb[i]? = some y → x.been.length = y.been.length ∧ x.been.length ≤ 1048576) :
    Calls Tryz.prog 69 #[.agg #[ok, f1, f2, f3], .agg #[ok', g1, g2, g3]] w fun e w' => e = .returned (.bool (B (la = lb))) ∧ Below w.heap.size w w' := by
  obtain ⟨af, cf, rfl, hcf⟩ := hf
  obtain ⟨ag, cg, rfl, hcg⟩ := hg
  have HF := hide hcf
  have HG := hide hcg
  have HB := hide hb
  have T0 := boxes2 w 42 42 #[ok, f1, f2, .slice af la.length cf] #[ok', g1, g2, .slice ag lb.length cg]
  have HL := hide hl
  clear hcf hcg hb hl
  go_enter Tryz.func69, Tryz.ntmps69
  go_wp2
  go_loopw [12] (fun z wr => ∃ (k : Nat), k ≤ la.length ∧ z = .int .i64 k ∧ (∀ j : Nat, j < k → la[j]? = lb[j]?) ∧ Boxes w [(42, #[ok, f1, f2, .slice af la.length cf]), (42, #[ok', g1, g2, .slice ag lb.length cg])] wr) (fun z _ => la.length - (intOf z).toNat)
  case atStart => exact ⟨0, by omega, rfl, fun j hj => by omega, T0⟩
  case round =>
    obtain ⟨k, hk, rfl, hall, T1⟩ := hrel
    have HA := hide hall
    clear hall T0
    by_cases hlt : k < la.length
    · obtain h0 | ⟨bf, of, rfl, hbf, hcf⟩ := HF.out
      · omega
      obtain h0 | ⟨bg, og, rfl, hbg, hcg⟩ := HG.out
      · have := HL.out; omega
      obtain ⟨x, hx⟩ := get_some la (hide rfl) hlt
      obtain ⟨y, hy⟩ := get_some lb (hide HL.out.symm) hlt
      obtain ⟨v2, hbe, p0, p1, p2, p3, p4⟩ := hcf k hlt x hx
      obtain ⟨u2, hbe', q0, q1, q2, q3, q4⟩ := hcg k (by have := HL.out; omega) y hy
      obtain ⟨a6, c6, rfl, hb6⟩ := hbe
      obtain ⟨a7, c7, rfl, hb7⟩ := hbe'
      rw [← T1.below.cell (p := ⟨bf, _, none⟩) hbf] at p0 p1 p2 p3 p4
      rw [← T1.below.cell (p := ⟨bg, _, none⟩) hbg] at q0 q1 q2 q3 q4
      obtain ⟨hbl, hbm⟩ := HB.out k x y hx hy
      obtain ⟨xs, hxs⟩ : ∃ c, x.shown = c := ⟨_, rfl⟩
      obtain ⟨ys, hys⟩ : ∃ c, y.shown = c := ⟨_, rfl⟩
      rw [hxs] at p3
      rw [hys] at q3
      have HXS := hide hxs
      have HYS := hide hys
      clear hxs hys
      have X0 := boxes2 wr 93 93 #[.int .i64 x.state, .int .i64 x.gone, .slice a6 x.been.length c6, .bool xs, .int .i64 x.timer] #[.int .i64 y.state, .int .i64 y.gone, .slice a7 y.been.length c7, .bool ys, .int .i64 y.timer]
      have T2 := T1.call X0.below
      have r0 : wr.cell? ⟨w.heap.size, 3, none⟩ = some (.slice (some ⟨bf, of, none⟩) la.length cf) := T1.cell (j := 0) (i := 3) rfl rfl
      have r1 : wr.cell? ⟨w.heap.size + 1, 3, none⟩ = some (.slice (some ⟨bg, og, none⟩) lb.length cg) := T1.cell (j := 1) (i := 3) rfl rfl
      have hk1 : (k : Int) < (la.length : Int) := by omega
      have hk2 : (k : Int) < (lb.length : Int) := by have := HL.out; omega
      have HBL := hide hbl
      clear hbl
      have H6 := hide hb6
      have H7 := hide hb7
      have Hx := hide hx
      have Hy := hide hy
      have r1' := ckb r1 (below_new wr (.cells #[.int .i64 x.state, .int .i64 x.gone, .slice a6 x.been.length c6, .bool xs, .int .i64 x.timer] 93))
      have q0' := ckb q0 (below_new wr (.cells #[.int .i64 x.state, .int .i64 x.gone, .slice a6 x.been.length c6, .bool xs, .int .i64 x.timer] 93))
      have q1' := ckb q1 (below_new wr (.cells #[.int .i64 x.state, .int .i64 x.gone, .slice a6 x.been.length c6, .bool xs, .int .i64 x.timer] 93))
      have q2' := ckb q2 (below_new wr (.cells #[.int .i64 x.state, .int .i64 x.gone, .slice a6 x.been.length c6, .bool xs, .int .i64 x.timer] 93))
      have q3' := ckb q3 (below_new wr (.cells #[.int .i64 x.state, .int .i64 x.gone, .slice a6 x.been.length c6, .bool xs, .int .i64 x.timer] 93))
      have q4' := ckb q4 (below_new wr (.cells #[.int .i64 x.state, .int .i64 x.gone, .slice a6 x.been.length c6, .bool xs, .int .i64 x.timer] 93))
      clear hb6 hb7 hx hy hcf hcg T1
      have no : ¬ x = y → ∀ {W : World}, Below w.heap.size w W → (Ending.returned (.bool false) = .returned (.bool (B (la = lb))) ∧ Below w.heap.size w W) := fun hne W hW => ⟨ret_bool (B_false fun e => hne (by
        have h1 := Hx.out
        rw [e, Hy.out] at h1
        exact (Option.some.inj h1).symm)).symm, hW⟩
      have NO := hide @no
      clear no
      by_cases z0 : x.state = y.state
      case neg =>
        have z0' : (x.state != y.state) = true := by simp [z0]
        have Z0 := hide z0
        clear z0
        go_wp2
        go_ret
        exact NO.out (fun e => Z0.out (by rw [e])) T2.below
      have z0' : (x.state != y.state) = false := by simp [z0]
      have Z0 := hide z0
      clear z0
      by_cases z1 : x.gone = y.gone
      case neg =>
        have z1' : (x.gone != y.gone) = true := by simp [z1]
        have Z1 := hide z1
        clear z1
        go_wp2
        go_ret
        exact NO.out (fun e => Z1.out (by rw [e])) T2.below
      have z1' : (x.gone != y.gone) = false := by simp [z1]
      have Z1 := hide z1
      clear z1
      by_cases z2 : xs = ys
      case neg =>
        have Z2 := hide z2
        clear z2
        have hn : ¬ x = y := fun e => Z2.out (by rw [← HXS.out, ← HYS.out, e])
        have HNE := hide hn
        clear hn
        cases xs <;> cases ys
        · exact absurd rfl Z2.out
        · go_wp2
          go_ret
          exact NO.out HNE.out T2.below
        · go_wp2
          go_ret
          exact NO.out HNE.out T2.below
        · exact absurd rfl Z2.out
      subst z2
      have Z2 : Hid (x.shown = y.shown) := HXS.out.trans HYS.out.symm
      by_cases z3 : x.timer = y.timer
      case neg =>
        have z3' : (x.timer != y.timer) = true := by simp [z3]
        have Z3 := hide z3
        clear z3
        go_wp2
        go_ret
        exact NO.out (fun e => Z3.out (by rw [e])) T2.below
      have z3' : (x.timer != y.timer) = false := by simp [z3]
      have Z3 := hide z3
      clear z3
      have X1 := X0
      go_wp2
      rename World => wo
      clear p0 p1 p2 p3 p4 q0 q1 q2 q3 q4 q0' q1' q2' q3' q4' r0 r1 r1'
      go_loopw [54] (fun z wr => ∃ (q : Nat), q ≤ x.been.length ∧ z = .int .i64 q ∧ (∀ j : Nat, j < q → x.been[j]? = y.been[j]?) ∧ Boxes wo [(93, #[.int .i64 x.state, .int .i64 x.gone, .slice a6 x.been.length c6, .bool xs, .int .i64 x.timer]), (93, #[.int .i64 y.state, .int .i64 y.gone, .slice a7 y.been.length c7, .bool xs, .int .i64 y.timer])] wr ∧ Boxes w [(42, #[ok, f1, f2, .slice (some ⟨bf, of, none⟩) la.length cf]), (42, #[ok', g1, g2, .slice (some ⟨bg, og, none⟩) lb.length cg])] wr) (fun z _ => x.been.length - (intOf z).toNat)
      case atStart => exact ⟨0, by omega, rfl, fun j hj => by omega, X1, T2⟩
      case round =>
        obtain ⟨q, hq, rfl, heq, X2, T3⟩ := hrel
        have HE := hide heq
        clear heq X0 X1 T2
        by_cases hlt2 : q < x.been.length
        · obtain h0 | ⟨b6, o6, rfl, hb6, hc6⟩ := H6.out
          · omega
          obtain h0 | ⟨b7, o7, rfl, hb7, hc7⟩ := H7.out
          · have := HBL.out; omega
          obtain ⟨s, hs⟩ := get_some x.been (hide rfl) hlt2
          obtain ⟨t, ht⟩ := get_some y.been (hide HBL.out.symm) hlt2
          have gs := hc6 q hlt2 s hs
          have gt := hc7 q (by have := HBL.out; omega) t ht
          rw [← T3.below.cell (p := ⟨b6, _, none⟩) hb6] at gs
          rw [← T3.below.cell (p := ⟨b7, _, none⟩) hb7] at gt
          have m2 : wr.cell? ⟨wo.heap.size, 2, none⟩ = some (.slice (some ⟨b6, o6, none⟩) x.been.length c6) := X2.cell (j := 0) (i := 2) rfl rfl
          have n2 : wr.cell? ⟨wo.heap.size + 1, 2, none⟩ = some (.slice (some ⟨b7, o7, none⟩) y.been.length c7) := X2.cell (j := 1) (i := 2) rfl rfl
          have hq1 : (q : Int) < (x.been.length : Int) := by omega
          have hq2 : (q : Int) < (y.been.length : Int) := by have := HBL.out; omega
          have Hs := hide hs
          have Ht := hide ht
          clear hs ht hc6 hc7
          by_cases est : s = t
          · subst est
            go_wp2
            go_quiet (fail)
            go_wp2
            go_roundw
            case rel => exact ⟨q + 1, by omega, by go_num, fun j hj => by
              by_cases e : j = q
              · subst e; rw [Hs.out, Ht.out]
              · exact HE.out j (by omega), X2.call (below_dr4 _ _), T3.call (below_dr4 _ _)⟩
            case measure => simp [intOf]; omega
          · have hn : ¬ x = y := fun e => est (by
              have h1 := Hs.out
              rw [e, Ht.out] at h1
              exact (Option.some.inj h1).symm)
            have HNE := hide hn
            have EST := hide est
            clear hn est
            cases s <;> cases t
            · exact absurd rfl EST.out
            · go_wp2
              go_quiet (fail)
              go_wp2
              go_ret
              exact NO.out HNE.out (T3.call (below_dr4 _ _)).below
            · go_wp2
              go_quiet (fail)
              go_wp2
              go_ret
              exact NO.out HNE.out (T3.call (below_dr4 _ _)).below
            · exact absurd rfl EST.out
        · have hxy : la[k]? = lb[k]? := by
            have hbe : x.been = y.been := by
              apply List.ext_getElem?
              intro j
              by_cases hj : j < q
              · exact HE.out j hj
              · rw [List.getElem?_eq_none (by omega), List.getElem?_eq_none (by have := HBL.out; omega)]
            rw [Hx.out, Hy.out]
            have e0 := Z0.out
            have e1 := Z1.out
            have e2 := Z2.out
            have e3 := Z3.out
            cases x; cases y
            simp only at e0 e1 e2 e3 hbe
            rw [e0, e1, e2, e3, hbe]
          have HXY := hide hxy
          clear hxy
          go_wp2
          go_roundw
          case rel => exact ⟨k + 1, by omega, by go_num, fun j hj => by
            by_cases e : j = k
            · subst e; exact HXY.out
            · exact HA.out j (by omega), T3⟩
          case measure => simp [intOf]; omega
    · go_wp2
      go_ret
      refine ⟨ret_bool (B_true ?_).symm, T1.below⟩
      apply List.ext_getElem?
      intro j
      by_cases hj : j < k
      · exact HA.out j hj
      · rw [List.getElem?_eq_none (by omega), List.getElem?_eq_none (by have := HL.out; omega)]
end Go.Proofs.YtdhinkgjiapigabGreatDoor

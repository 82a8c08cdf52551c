import Derived.Test.YtdhinkgjiapigabGreatDoorSpec5
import Derived.Test.YtdhinkgjiapigabGreatDoorRight
namespace Go.Proofs.YtdhinkgjiapigabGreatDoor
open Go.RowKit Go.Deep
open Classical

/-- The numbers of a way that stands so are ones that can be. -/
def HeldOk (hold : Int) (n : Nat) (h : HeldD) : Prop :=
  InR h.state 0 4 ∧ h.been.length = n ∧ InR h.gone 0 ((n : Int) - 1) ∧ (h.state ≠ 4 → (∀ (k : Nat) b, h.been[k]? = some b → b = false) ∧ h.gone = 0) ∧ (∀ k : Nat, (k : Int) < h.gone → h.been[k]? = some true) ∧
  (h.state = 3 → h.shown = true ∧ InR h.timer 1 hold) ∧ (h.state ≠ 3 → h.timer = 0 ∧ (h.state = 0 → h.shown = false) ∧ (h.state = 2 → h.shown = true))

set_option maxRecDepth 100000 in
set_option maxHeartbeats 2000000 in
theorem l2held_any (n ok : Value) (hold : Int) (p1 p2 p3 f1 f2 f3 : Value) (ways : List WayD) (helds : List HeldD) (i : Nat) (x : WayD) (h : HeldD) (w : World) (hp : Ways (In w) w p2 ways) (hf : Helds (In w) w f3 helds)
    (hi : ways[i]? = some x) (hj : helds[i]? = some h) (_hw : ways.length ≤ 100) (hs : x.Small 30) (hwl : helds.length = ways.length) (hbl0 : h.been.length ≤ 1048576) :
    Calls Tryz.prog 66 #[.agg #[n, p1, p2, p3, .int .i64 hold], .agg #[ok, f1, f2, f3], .int .i64 i] w fun e w' => e = .returned (.bool (B (HeldOk hold x.sections.length h))) ∧ Below w.heap.size w w' := by
  obtain ⟨ap, cp, rfl, hcp⟩ := hp
  obtain ⟨af, cf, rfl, hcf⟩ := hf
  have hil : i < ways.length := (List.getElem?_eq_some_iff.1 hi).1
  have hjl : i < helds.length := (List.getElem?_eq_some_iff.1 hj).1
  obtain h0 | ⟨b, off, rfl, hb0, hcw⟩ := hcp
  · omega
  obtain h0 | ⟨bf, of, rfl, hbf, hch⟩ := hcf
  · omega
  obtain ⟨v0, v1, v2, v3, v4, ⟨⟨a0, k0, rfl, -⟩, -⟩, g0, -, -, -, -⟩ := hcw i hil x hi
  obtain ⟨u2, ⟨a2, k2, rfl, hbe⟩, j0, j1, j2, j3, j4⟩ := hch i hjl h hj
  have HBE := hide hbe
  have T0 := boxes3 w 37 42 93 #[n, p1, .slice (some ⟨b, off, none⟩) ways.length cp, p3, .int .i64 hold] #[ok, f1, f2, .slice (some ⟨bf, of, none⟩) helds.length cf] #[.int .i64 h.state, .int .i64 h.gone, .slice a2 h.been.length k2, .bool h.shown, .int .i64 h.timer]
  have hil' : (i : Int) < (ways.length : Int) := by omega
  have hjl' : (i : Int) < (helds.length : Int) := by omega
  have hsl : x.sections.length ≤ 30 := hs.1
  have hbl : b < w.heap.size := hb0
  have hbl2 : bf < w.heap.size := hbf
  have G0 := ckb g0 T0.below
  clear hbe hcw hch hi hj hs hwl g0
  go_enter Tryz.func66, Tryz.ntmps66
  go_wp2_with fail
  refine (l1in_any h.state 0 4 _).mono ?_
  rintro e w' ⟨rfl, rfl⟩
  by_cases q0 : InR h.state 0 4
  case neg =>
    rw [B_false q0]
    have Q := hide q0
    clear q0
    go_wp2
    go_ret
    exact ⟨ret_bool (B_false fun h => Q.out h.1).symm, T0.below⟩
  rw [B_true q0]
  have Q0 := hide q0
  clear q0
  by_cases q1 : h.been.length = x.sections.length
  case neg =>
    have q1' : ((h.been.length : Int) != (x.sections.length : Int)) = true := by simp; omega
    have Q := hide q1
    clear q1
    go_wp2
    go_ret
    exact ⟨ret_bool (B_false fun h => Q.out h.2.1).symm, T0.below⟩
  have q1' : ((h.been.length : Int) != (x.sections.length : Int)) = false := by simp; omega
  have Q1 := hide q1
  clear q1
  go_wp2_with fail
  refine (l1in_any h.gone 0 ((x.sections.length : Int) - 1) _).mono ?_
  rintro e w' ⟨rfl, rfl⟩
  by_cases q2 : InR h.gone 0 ((x.sections.length : Int) - 1)
  case neg =>
    rw [B_false q2]
    have Q := hide q2
    clear q2
    go_wp2
    go_ret
    exact ⟨ret_bool (B_false fun h => Q.out h.2.2.1).symm, T0.below⟩
  rw [B_true q2]
  have Q2 := hide q2
  obtain ⟨hg0, hg1⟩ := q2
  clear G0 j0 j1 j2 j3 j4
  by_cases q4 : h.state = 4
  · have q4' : (h.state != 4) = false := by simp [q4]
    have q4'' : (h.state == 3) = false := by simp [q4]
    have q40 : (h.state != 0) = true := by simp [q4]
    have q42 : (h.state != 2) = true := by simp [q4]
    have Q4 := hide q4
    clear q4
    go_wp2
    go_loop [11] (fun z => ∃ (k : Nat), (k : Int) ≤ h.gone ∧ z = .int .i64 k ∧ ∀ j : Nat, j < k → h.been[j]? = some true) (fun z => h.gone.toNat - (intOf z).toNat)
    case atStart => exact ⟨0, by omega, rfl, fun j hj => by omega⟩
    case round =>
      obtain ⟨k, hk, rfl, hall⟩ := hrel
      have HA := hide hall
      clear hall
      by_cases hlt : (k : Int) < h.gone
      · have hkb : k < h.been.length := by have := Q1.out; omega
        obtain h0 | ⟨bb, ob, rfl, hbb, hcb⟩ := HBE.out
        · omega
        obtain ⟨y, hy⟩ := get_some h.been (hide rfl) hkb
        have gy := ckb (hcb k hkb y hy) T0.below
        have hkb' : (k : Int) < (h.been.length : Int) := by omega
        have Hy := hide hy
        clear hy hcb
        cases y
        · go_wp2
          go_ret
          refine ⟨ret_bool (B_false fun hh => ?_).symm, T0.below⟩
          have := hh.2.2.2.2.1 k hlt
          rw [Hy.out] at this
          cases this
        · go_wp2
          go_round
          case rel => exact ⟨k + 1, by omega, by go_num, fun j hj => by
            by_cases e : j = k
            · subst e; exact Hy.out
            · exact HA.out j (by omega)⟩
          case measure => simp [intOf]; omega
      · have N5 : Hid (∀ k : Nat, (k : Int) < h.gone → h.been[k]? = some true) := fun j hj => HA.out j (by omega)
        by_cases q5 : h.timer = 0
        · have q5' : (h.timer == 0) = true := by simp [q5]
          have Q5 := hide q5
          clear q5
          go_wp2
          go_ret
          refine ⟨ret_bool ?_, T0.below⟩
          rw [B_true ⟨Q0.out, Q1.out, Q2.out, fun e => absurd Q4.out e, N5.out, fun e => absurd (Q4.out.symm.trans e) (by omega), fun _ => ⟨Q5.out, fun e => absurd (Q4.out.symm.trans e) (by omega), fun e => absurd (Q4.out.symm.trans e) (by omega)⟩⟩]
        · have q5' : (h.timer == 0) = false := by simp [q5]
          have Q5 := hide q5
          clear q5
          go_wp2
          go_ret
          refine ⟨ret_bool ?_, T0.below⟩
          rw [B_false fun hh => Q5.out (hh.2.2.2.2.2.2 (by rw [Q4.out]; omega)).1]
  · have q4' : (h.state != 4) = true := by simp [q4]
    have Q4 := hide q4
    clear q4
    go_wp2
    go_loop [49] (fun z => ∃ (k : Nat), k ≤ h.been.length ∧ z = .int .i64 k ∧ ∀ (j : Nat) b, j < k → h.been[j]? = some b → b = false) (fun z => h.been.length - (intOf z).toNat)
    case atStart => exact ⟨0, by omega, rfl, fun j b hj => by omega⟩
    case round =>
      obtain ⟨k, hk, rfl, hall⟩ := hrel
      have HA := hide hall
      clear hall
      by_cases hlt : k < h.been.length
      · obtain h0 | ⟨bb, ob, rfl, hbb, hcb⟩ := HBE.out
        · omega
        obtain ⟨y, hy⟩ := get_some h.been (hide rfl) hlt
        have gy := ckb (hcb k hlt y hy) T0.below
        have Hy := hide hy
        clear hy hcb
        cases y
        · go_wp2
          go_round
          case rel => exact ⟨k + 1, by omega, by go_num, fun j b hj hb => by
            by_cases e : j = k
            · subst e; rw [Hy.out] at hb; cases hb; rfl
            · exact HA.out j b (by omega) hb⟩
          case measure => simp [intOf]; omega
        · go_wp2
          go_ret
          refine ⟨ret_bool (B_false fun hh => ?_).symm, T0.below⟩
          exact Bool.noConfusion ((hh.2.2.2.1 Q4.out).1 k true Hy.out)
      · have N4 : Hid (∀ (k : Nat) b, h.been[k]? = some b → b = false) := fun j b hb => HA.out j b (by have := (List.getElem?_eq_some_iff.1 hb).1; omega) hb
        clear HA
        by_cases q5 : h.gone = 0
        case neg =>
          have q5' : (h.gone != 0) = true := by simp [q5]
          have Q5 := hide q5
          clear q5
          go_wp2
          go_ret
          exact ⟨ret_bool (B_false fun hh => Q5.out (hh.2.2.2.1 Q4.out).2).symm, T0.below⟩
        have q5' : (h.gone != 0) = false := by simp [q5]
        have Q5 := hide q5
        have hgz : h.gone ≤ 0 := by omega
        clear q5
        go_wp2
        refine wp_loop_rounds 1 ?_
        rw [rounds_succ]
        have N5 : Hid (∀ k : Nat, (k : Int) < h.gone → h.been[k]? = some true) := fun j hj => by omega
        by_cases q6 : h.state = 3
        · have q6' : (h.state == 3) = true := by simp [q6]
          have Q6 := hide q6
          clear q6
          have TB := T0.below
          have TBH := hide TB
          clear TB
          by_cases hsh : h.shown = true
          · have HSH := hide hsh
            go_wp2_with fail
            refine (l1in_any h.timer 1 hold _).mono ?_
            rintro e w' ⟨rfl, rfl⟩
            go_wp2
            go_ret
            refine ⟨ret_bool ?_, by have t := TBH.out; rw [HSH.out] at t; exact t⟩
            by_cases q7 : InR h.timer 1 hold
            · rw [B_true q7, B_true ⟨Q0.out, Q1.out, Q2.out, fun _ => ⟨N4.out, Q5.out⟩, N5.out, fun _ => ⟨HSH.out, q7⟩, fun e => absurd Q6.out e⟩]
            · rw [B_false q7, B_false fun hh => q7 (hh.2.2.2.2.2.1 Q6.out).2]
          · have hsh' : h.shown = false := by simpa using hsh
            have HSH := hide hsh'
            clear hsh
            go_wp2
            go_ret
            refine ⟨ret_bool (B_false fun hh => ?_).symm, by have t := TBH.out; rw [HSH.out] at t; exact t⟩
            have := (hh.2.2.2.2.2.1 Q6.out).1
            rw [HSH.out] at this
            cases this
        · have q6' : (h.state == 3) = false := by simp [q6]
          have Q6 := hide q6
          clear q6
          have TB := T0.below
          have TBH := hide TB
          clear TB
          by_cases q7 : h.timer = 0
          case neg =>
            have q7' : (h.timer == 0) = false := by simp [q7]
            have Q7 := hide q7
            clear q7
            go_wp2
            go_ret
            exact ⟨ret_bool (B_false fun hh => Q7.out (hh.2.2.2.2.2.2 Q6.out).1).symm, TBH.out⟩
          have q7' : (h.timer == 0) = true := by simp [q7]
          have Q7 := hide q7
          clear q7
          have fin : (h.state = 0 → h.shown = false) → (h.state = 2 → h.shown = true) → B (HeldOk hold x.sections.length h) = true :=
            fun a b => B_true ⟨Q0.out, Q1.out, Q2.out, fun _ => ⟨N4.out, Q5.out⟩, N5.out, fun e => absurd e Q6.out, fun _ => ⟨Q7.out, a, b⟩⟩
          have F := hide fin
          clear fin
          by_cases q8 : h.state = 0
          · have q8' : (h.state != 0) = false := by simp [q8]
            have q9' : (h.state != 2) = true := by simp [q8]
            have Q8 := hide q8
            clear q8
            by_cases hsh : h.shown = true
            · have HSH := hide hsh
              go_wp2
              go_ret
              refine ⟨ret_bool (B_false fun hh => ?_).symm, by have t := TBH.out; rw [HSH.out] at t; exact t⟩
              have := (hh.2.2.2.2.2.2 Q6.out).2.1 Q8.out
              rw [HSH.out] at this
              cases this
            · have hsh' : h.shown = false := by simpa using hsh
              have HSH := hide hsh'
              clear hsh
              go_wp2
              go_ret
              exact ⟨ret_bool (F.out (fun _ => HSH.out) (fun e => absurd (Q8.out.symm.trans e) (by omega))).symm, by have t := TBH.out; rw [HSH.out] at t; exact t⟩
          · have q8' : (h.state != 0) = true := by simp [q8]
            have Q8 := hide q8
            clear q8
            by_cases q9 : h.state = 2
            · have q9' : (h.state != 2) = false := by simp [q9]
              have Q9 := hide q9
              clear q9
              by_cases hsh : h.shown = true
              · have HSH := hide hsh
                go_wp2
                go_ret
                exact ⟨ret_bool (F.out (fun e => absurd e Q8.out) (fun _ => HSH.out)).symm, by have t := TBH.out; rw [HSH.out] at t; exact t⟩
              · have hsh' : h.shown = false := by simpa using hsh
                have HSH := hide hsh'
                clear hsh
                go_wp2
                go_ret
                refine ⟨ret_bool (B_false fun hh => ?_).symm, by have t := TBH.out; rw [HSH.out] at t; exact t⟩
                have := (hh.2.2.2.2.2.2 Q6.out).2.2 Q9.out
                rw [HSH.out] at this
                cases this
            · have q9' : (h.state != 2) = true := by simp [q9]
              have Q9 := hide q9
              clear q9
              go_wp2
              go_ret
              exact ⟨ret_bool (F.out (fun e => absurd e Q8.out) (fun e => absurd e Q9.out)).symm, TBH.out⟩
end Go.Proofs.YtdhinkgjiapigabGreatDoor

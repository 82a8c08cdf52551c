import Derived.Test.YtdhinkgjiapigaaDoorSpA
import Derived.Test.YtdhinkgjiapigaaDoorToA
import Derived.Deep.RegionWith
namespace Go.Proofs.YtdhinkgjiapigaaDoor
open Go.RowKit Go.Deep
open Classical

set_option maxHeartbeats 2000000 in
theorem l1way_any (n : Int) (hd v1 v2 v3 u0 u1 u2 u3 u4 : Value) (sw : List Int) (d : WayD) (w : World) (hsw : Ints (In w) w v1 sw) (hw : WayAt (In w) w u0 u1 u2 u3 u4 d)
    (h1 : 1 ≤ n) (h60 : n ≤ 60) (hm : sw.length ≤ 40) (hs : d.Small 1048576) :
    Calls Tryd.prog 25 #[.agg #[.int .i64 n, v1, v2, v3, hd], .agg #[u0, u1, u2, u3, u4]] w fun e w' => e = .returned (.bool (B (WayOk n sw d))) ∧ Below w.heap.size w w' := by
  have T0 := Bx2.start w 33 59 (.int .i64 n) v1 v2 v3 hd u0 u1 u2 u3 u4
  have hk : ∀ W, Bx2 w 33 59 (five (.int .i64 n) v1 v2 v3 hd) (five u0 u1 u2 u3 u4) W → WayAt (In W) W u0 u1 u2 u3 u4 d ∧ Ints (In W) W v1 sw := fun W h => ⟨hw.keep (In.keep h.below).1 (In.keep h.below).2, hsw.keep (In.keep h.below).1 (In.keep h.below).2⟩
  have HK := hide hk
  clear hk
  obtain ⟨av, cv, rfl, hcv⟩ := hsw
  obtain ⟨⟨a0, c0, rfl, hc0⟩, ⟨a1, c1, rfl, hc1⟩, ⟨a2, c2, rfl, hc2⟩, ⟨a3, c3, rfl, hc3⟩, ⟨a4, c4, rfl, hc4⟩⟩ := hw
  obtain ⟨s0, s1, s2, s3, s4⟩ := hs
  have HV := hide hcv
  have H1 := hide hc1
  have H2 := hide hc2
  clear hcv hc0 hc1 hc2 hc3 hc4
  go_enter Tryd.func25, Tryd.ntmps25
  by_cases hz : d.sections.length = 0
  · have hz' : ((d.sections.length : Int) == 0) = true := by simpa using hz
    have Hz := hide hz
    clear hz
    go_wp2
    go_ret
    exact ⟨ret_bool (B_false fun h => h.1 (List.length_eq_zero_iff.1 Hz.out)).symm, T0.below⟩
  have hz' : ((d.sections.length : Int) == 0) = false := by simpa using hz
  have Hz := hide hz
  clear hz
  go_wp2_with fail
  refine (l1list_any _ d.sections n _ (HK.out _ T0).1.1 s0 h1 h60).mono ?_
  rintro e w' ⟨rfl, rfl⟩
  by_cases q0 : ListOk n d.sections
  case neg =>
    rw [B_false q0]
    go_wp2
    go_ret
    exact ⟨ret_bool (B_false fun h => q0 h.2.1).symm, T0.below⟩
  rw [B_true q0]
  have Q0 := hide q0
  clear q0
  go_wp2_with fail
  refine (l1list_any _ d.over n _ (HK.out _ T0).1.2.2.2.1 s3 h1 h60).mono ?_
  rintro e w' ⟨rfl, rfl⟩
  by_cases q0 : ListOk n d.over
  case neg =>
    rw [B_false q0]
    go_wp2
    go_ret
    exact ⟨ret_bool (B_false fun h => q0 h.2.2.1).symm, T0.below⟩
  rw [B_true q0]
  have Q1 := hide q0
  clear q0
  go_wp2_with fail
  refine (l1list_any _ d.near n _ (HK.out _ T0).1.2.2.2.2 s4 h1 h60).mono ?_
  rintro e w' ⟨rfl, rfl⟩
  by_cases q0 : ListOk n d.near
  case neg =>
    rw [B_false q0]
    go_wp2
    go_ret
    exact ⟨ret_bool (B_false fun h => q0 h.2.2.2.1).symm, T0.below⟩
  rw [B_true q0]
  have Q2 := hide q0
  clear q0
  go_wp2_with fail
  refine (l1lies_any _ _ _ _ _ _ av sw.length cv d.lies _ rfl (HK.out _ T0).1.2.1 s1 (by omega)).mono ?_
  rintro e w1 ⟨rfl, hb⟩
  have T1 := T0.call hb
  clear T0 hb
  obtain ⟨⟨b0, b1, b2, b3, b4⟩, ⟨z0, z1, z2, z3, z4⟩⟩ := T1.cells
  by_cases q0 : LiesOk sw.length d.lies
  case neg =>
    rw [B_false q0]
    go_wp2
    go_ret
    exact ⟨ret_bool (B_false fun h => q0 h.2.2.2.2.1).symm, T1.below⟩
  rw [B_true q0]
  have Q3 := hide q0
  clear q0
  go_wp2_with fail
  refine (l1lies_any _ _ _ _ _ _ av sw.length cv d.flanks _ rfl (HK.out _ T1).1.2.2.1 s2 (by omega)).mono ?_
  clear b0 b1 b2 b3 b4 z0 z1 z2 z3 z4
  rintro e w2 ⟨rfl, hb⟩
  have T2 := T1.call hb
  clear T1 hb
  obtain ⟨⟨b0, b1, b2, b3, b4⟩, ⟨z0, z1, z2, z3, z4⟩⟩ := T2.cells
  by_cases q0 : LiesOk sw.length d.flanks
  case neg =>
    rw [B_false q0]
    go_wp2
    go_ret
    exact ⟨ret_bool (B_false fun h => q0 h.2.2.2.2.2.1).symm, T2.below⟩
  rw [B_true q0]
  have Q4 := hide q0
  clear q0
  go_wp2
  clear b0 b1 b2 b3 b4 z0 z1 z2 z3 z4
  go_loopw [54] (fun i wr => ∃ (k : Nat), k ≤ d.lies.length ∧ i = .int .i64 k ∧ (∀ j x, j < k → d.lies[j]? = some x → OnOk sw d x) ∧ Bx2 w 33 59 (five (.int .i64 n) (.slice av sw.length cv) v2 v3 hd) (five (.slice a0 d.sections.length c0) (.slice a1 d.lies.length c1) (.slice a2 d.flanks.length c2) (.slice a3 d.over.length c3) (.slice a4 d.near.length c4)) wr) (fun i _ => d.lies.length - (intOf i).toNat)
  case atStart => exact ⟨0, Nat.zero_le _, rfl, fun j _ hj => by omega, T2⟩
  case round =>
    obtain ⟨k, hk, rfl, hok, T3⟩ := hrel
    rename World => wo
    have HO := hide hok
    clear hok
    obtain ⟨⟨b0, b1, b2, b3, b4⟩, ⟨z0, z1, z2, z3, z4⟩⟩ := T3.cells
    by_cases hlt : k < d.lies.length
    · obtain h0 | ⟨b, off, rfl, hb0, hc⟩ := H1.out
      · omega
      obtain ⟨x, hx⟩ := get_some d.lies (hide rfl) hlt
      obtain ⟨g0, g1⟩ := hc k hlt x hx
      rw [← T3.below.cell (p := ⟨b, _, none⟩) hb0] at g0 g1
      have Hx := hide hx
      clear hx hc
      have hsz := T3.two.lt
      have hsz0 : w.heap.size < wo.heap.size := by omega
      go_wp2
      clear b0 b1 b2 b3 b4 z0 z1 z2 z3 z4
      go_loopw [61] (fun i wr => ∃ (q : Nat), q ≤ d.flanks.length ∧ i = .int .i64 q ∧ (∀ j y, j < q → d.flanks[j]? = some y → x.1 ≠ y.1) ∧ Bx2 w 33 59 (five (.int .i64 n) (.slice av sw.length cv) v2 v3 hd) (five (.slice a0 d.sections.length c0) (.slice (some ⟨b, off, none⟩) d.lies.length c1) (.slice a2 d.flanks.length c2) (.slice a3 d.over.length c3) (.slice a4 d.near.length c4)) wr ∧ wr.cell? ⟨wo.heap.size, 0, none⟩ = some (.int .i64 x.1)) (fun i _ => d.flanks.length - (intOf i).toNat)
      case atStart => exact ⟨0, Nat.zero_le _, rfl, fun j _ hj => by omega, T3.call (below_new _ _), by simp⟩
      case round =>
        obtain ⟨q, hq, rfl, hne, T4, hxb⟩ := hrel
        have HN := hide hne
        clear hne g0 g1
        obtain ⟨⟨b0, b1, b2, b3, b4⟩, ⟨z0, z1, z2, z3, z4⟩⟩ := T4.cells
        by_cases hqk : q < d.flanks.length
        · obtain h0 | ⟨bf, off2, rfl, hbf, hc⟩ := H2.out
          · omega
          obtain ⟨y, hy⟩ := get_some d.flanks (hide rfl) hqk
          obtain ⟨g0, g1⟩ := hc q hqk y hy
          rw [← T4.below.cell (p := ⟨bf, _, none⟩) hbf] at g0 g1
          have Hy := hide hy
          have T5 := T4.call (below_new _ (.cells #[.int .i64 y.1, .int .i64 y.2] 95))
          have hxb2 := alloc_old (o := .cells #[.int .i64 y.1, .int .i64 y.2] 95) hxb
          clear hy hc
          by_cases he : x.1 = y.1
          · rw [he] at hxb hxb2
            go_wp2
            go_ret
            refine ⟨ret_bool (B_false fun h => ?_).symm, T5.below⟩
            exact (h.2.2.2.2.2.2.1 x (List.mem_of_getElem? Hx.out)).1 y (List.mem_of_getElem? Hy.out) he
          · have he' : (x.1 == y.1) = false := by simpa using he
            have He := hide he
            clear he
            go_wp2
            go_roundw
            case rel => exact ⟨q + 1, by omega, by go_num, fun j z hj hz => by
              by_cases e : j = q
              · subst e; rw [Hy.out] at hz; cases hz; exact He.out
              · exact HN.out j z (by omega) hz, T5, hxb2⟩
            case measure => simp [intOf]; omega
        · have hlie := (Q3.out.1 k hlt x Hx.out).1.1
          obtain ⟨hx0, hx1⟩ := hlie
          obtain ⟨sv, hsv⟩ : ∃ sv, sw[x.1.toNat]? = some sv := ⟨sw[x.1.toNat]'(by omega), List.getElem?_eq_getElem _⟩
          obtain h0 | ⟨bv, offv, rfl, hbv, hcv⟩ := HV.out
          · omega
          have gv := hcv x.1.toNat (by omega) sv hsv
          rw [← T4.below.cell (p := ⟨bv, _, none⟩) hbv] at gv
          have hx2 : x.1 < (sw.length : Int) := by omega
          have Hsv := hide hsv
          clear hcv hsv
          have hs4 := T4.two.lt
          have hs5 : w.heap.size < wr.heap.size := by omega
          have hs6 : wo.heap.size < wr.heap.size := World.block_lt_of_cell? _ _ hxb
          have hs7 : bv < wr.heap.size := World.block_lt_of_cell? _ _ gv
          have T6 : Bx2 w 33 59 _ _ ((wr.alloc (.cells #[.int .i64 sv] 3)).drew) := (T4.call (below_new _ (.cells #[.int .i64 sv] 3))).call (below_drew _)
          have hq : Calls Tryd.prog 26 #[.slice (some ⟨wr.heap.size, 0, none⟩) 1 1, .slice a0 d.sections.length c0] (wr.alloc (.cells #[.int .i64 sv] 3)).drew fun e w' => e = .returned (.bool (B (Meet [sv] d.sections))) ∧ w' = (wr.alloc (.cells #[.int .i64 sv] 3)).drew := by
            refine l1meet_any _ _ [sv] d.sections _ ⟨_, _, rfl, .inr ⟨wr.heap.size, 0, rfl, ?_, ?_⟩⟩ (HK.out _ T6).1.1 (by simp) s0
            · show wr.heap.size < _; simp
            · intro i hi z hz
              obtain rfl : i = 0 := by simp at hi; omega
              cases hz
              simp
          have HQ := hide hq
          clear hq
          have T6' := hide T6
          clear T6
          by_cases hon : Meet [sv] d.sections
          · rw [B_true hon] at HQ
            have Hon := hide hon
            clear hon
            go_wp2
            go_region_with (go_at_call 26; refine HQ.out.mono ?_; rintro e w1 ⟨rfl, rfl⟩)
            all_goals
              go_wp2
              go_roundw
              case rel => exact ⟨k + 1, by omega, by go_num, fun j z hj hz => by
                by_cases e : j = k
                · subst e; rw [Hx.out] at hz; cases hz
                  obtain ⟨t, ht, ht2⟩ := Hon.out
                  refine ⟨fun y hy => ?_, sv, Hsv.out, by simp at ht; exact ht ▸ ht2⟩
                  obtain ⟨i, hi⟩ := List.getElem?_of_mem hy
                  exact HN.out i y (by have := (List.getElem?_eq_some_iff.1 hi).1; omega) hi
                · exact HO.out j z (by omega) hz, T6'.out⟩
              case measure => simp [intOf]; omega
          · rw [B_false hon] at HQ
            have Hon := hide hon
            clear hon
            go_wp2
            go_region_with (go_at_call 26; refine HQ.out.mono ?_; rintro e w1 ⟨rfl, rfl⟩)
            all_goals
              go_wp2
              go_ret
              refine ⟨ret_bool (B_false fun h => ?_).symm, T6'.out.below⟩
              obtain ⟨t, ht, ht2⟩ := (h.2.2.2.2.2.2.1 x (List.mem_of_getElem? Hx.out)).2
              rw [Hsv.out] at ht
              exact Hon.out ⟨sv, by simp, by cases ht; exact ht2⟩
    · go_wp2_with fail
      refine (l1meet_any _ _ d.over d.sections _ (HK.out _ T3).1.2.2.2.1 (HK.out _ T3).1.1 s3 s0).mono ?_
      rintro e w' ⟨rfl, rfl⟩
      go_wp2
      go_ret
      refine ⟨ret_bool ?_, T3.below⟩
      by_cases hmt : Meet d.over d.sections
      · rw [B_true hmt, B_false fun h => h.2.2.2.2.2.2.2 hmt]; rfl
      · have hall : ∀ x ∈ d.lies, OnOk sw d x := fun x hx => by
          obtain ⟨i, hi⟩ := List.getElem?_of_mem hx
          exact HO.out i x (by have := (List.getElem?_eq_some_iff.1 hi).1; omega) hi
        rw [B_false hmt, B_true ⟨fun h => Hz.out (by rw [h]; rfl), Q0.out, Q1.out, Q2.out, Q3.out, Q4.out, hall, hmt⟩]; rfl
end Go.Proofs.YtdhinkgjiapigaaDoor

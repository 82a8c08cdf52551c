import Derived.Test.YtdhinkgjiapigabGreatDoorSettle
namespace Go.Proofs.YtdhinkgjiapigabGreatDoor
open Go.RowKit Go.Deep

/-- What makes a frame's numbers fit a plan's ways. -/
def Fits (ways : List WayD) (d : FrameD) : Prop :=
  d.ways.length = ways.length ∧ ways.length ≤ 100 ∧ d.occ.length ≤ 1048576 ∧ d.points.length ≤ 1048576 ∧
  ∀ (i : Nat) x h, ways[i]? = some x → d.ways[i]? = some h → h.been.length = x.sections.length ∧ 0 < x.sections.length ∧ x.Small 30 ∧ 0 ≤ h.gone ∧ h.gone ≤ x.sections.length ∧
    (∀ y, (y ∈ x.lies ∨ y ∈ x.flanks) → 0 ≤ y.1 ∧ y.1 < d.points.length) ∧ ∀ s, (s ∈ x.sections ∨ s ∈ x.over) → 0 ≤ s ∧ s < d.occ.length

set_option maxRecDepth 100000 in
set_option maxHeartbeats 4000000 in
theorem l2settle_any (P Q : Nat → Prop) (n hd ok p1 p2 p3 v1 v2 v3 : Value) (d : FrameD) (ways : List WayD) (bo bp bw bf : Nat) (bb : Nat → Nat) (w : World)
    (hp : Ways Q w p2 ways) (hQ : ∀ c, Q c → c < w.heap.size ∧ ¬ P c) (hc0 : w.cell? ⟨bf, 0, none⟩ = some ok) (hc1 : w.cell? ⟨bf, 1, none⟩ = some v1) (hc2 : w.cell? ⟨bf, 2, none⟩ = some v2) (hc3 : w.cell? ⟨bf, 3, none⟩ = some v3) (hbf : ¬ P bf)
    (hf : OFrame P w v1 v2 v3 d bo bp bw bb) (hfit : Fits ways d) (hPl : ∀ c, P c → c < w.heap.size) :
    Calls Tryz.prog 68 #[.agg #[n, p1, p2, p3, hd], .pointer (some ⟨bf, 0, none⟩)] w fun e w' => e = .returned (.tuple #[]) ∧ ∃ bb', OFrame (fun c => P c ∨ New w w' c) w' v1 v2 v3 (settleD ways d) bo bp bw bb' ∧ But (fun c => ¬ P c) w w' := by
  obtain ⟨hlen, h100, hol, hpl, hfit⟩ := hfit
  have HFIT := hide hfit
  obtain ⟨a2, k2, rfl, -⟩ := id hp
  have HP := hide hp
  have HQ := hide hQ
  obtain ⟨g1, N1, q1, rfl, -⟩ := id hf.occ
  obtain ⟨a4, q2, rfl, -⟩ := id hf.points
  obtain ⟨a3, q3, rfl, -⟩ := id hf.ways
  have B00 := below_new w (.cells #[n, p1, .slice a2 ways.length k2, p3, hd] 37)
  have T0 := boxes1 w 37 #[n, p1, .slice a2 ways.length k2, p3, hd]
  have hblt := World.block_lt_of_cell? _ _ hc0
  have d0 := ckb hc0 B00
  have d1 := ckb hc1 B00
  have d2 := ckb hc2 B00
  have d3 := ckb hc3 B00
  have start : SetR P (w.alloc (.cells #[n, p1, .slice a2 ways.length k2, p3, hd] 37)) (.slice (some ⟨bo, 0, none⟩) d.occ.length q1) (.slice a4 d.points.length q2) (.slice a3 d.ways.length q3) d ways bo bp bw 0 (w.alloc (.cells #[n, p1, .slice a2 ways.length k2, p3, hd] 37)) :=
    ⟨d.ways, bb, rfl, fun j _ _ hj => by omega, fun _ _ => rfl, hf.but (K := fun _ => True) (But.of_calls B00) (fun _ _ => trivial) fun _ z => .inl z, But.refl _ _⟩
  have HST := hide start
  have HF := hide hf
  clear hfit hp hQ start hf
  go_enter Tryz.func68, Tryz.ntmps68
  go_wp2
  obtain ⟨W0, hW0⟩ : ∃ W0, W0 = w.alloc (.cells #[n, p1, .slice a2 ways.length k2, p3, hd] 37) := ⟨_, rfl⟩
  have e0 : W0.cell? ⟨w.heap.size, 0, none⟩ = some n := by rw [hW0]; exact T0.cell (j := 0) (i := 0) rfl rfl
  have e1 : W0.cell? ⟨w.heap.size, 1, none⟩ = some p1 := by rw [hW0]; exact T0.cell (j := 0) (i := 1) rfl rfl
  have e2 : W0.cell? ⟨w.heap.size, 2, none⟩ = some (.slice a2 ways.length k2) := by rw [hW0]; exact T0.cell (j := 0) (i := 2) rfl rfl
  have e3 : W0.cell? ⟨w.heap.size, 3, none⟩ = some p3 := by rw [hW0]; exact T0.cell (j := 0) (i := 3) rfl rfl
  have e4 : W0.cell? ⟨w.heap.size, 4, none⟩ = some hd := by rw [hW0]; exact T0.cell (j := 0) (i := 4) rfl rfl
  have hz : W0.heap.size = w.heap.size + 1 := by rw [hW0]; simp
  have HBOX := hide (And.intro d0 (And.intro d1 (And.intro d2 (And.intro d3 (And.intro e0 (And.intro e1 (And.intro e2 (And.intro e3 e4))))))))
  have HB0 := hide B00
  have HZ := hide hz
  have HNP : Hid (¬ P w.heap.size) := fun z => absurd (hPl _ z) (Nat.lt_irrefl _)
  rw [← hW0] at HST HB0 HBOX ⊢
  clear d0 d1 d2 d3 e0 e1 e2 e3 e4 B00 T0 hc0 hc1 hc2 hc3 hW0 hz hPl
  go_loopw [12] (fun z wr => ∃ (i : Nat), i ≤ ways.length ∧ z = .int .i64 i ∧ SetR P W0 (.slice (some ⟨bo, 0, none⟩) d.occ.length q1) (.slice a4 d.points.length q2) (.slice a3 d.ways.length q3) d ways bo bp bw i wr) (fun z _ => ways.length - (intOf z).toNat)
  case atStart => exact ⟨0, by omega, rfl, HST.out⟩
  case round =>
    obtain ⟨i, hi, rfl, hset⟩ := hrel
    by_cases hlt : i < ways.length
    · obtain ⟨x, hx⟩ := get_some ways (hide rfl) hlt
      obtain ⟨h, hh⟩ := get_some d.ways (hide hlen) hlt
      obtain ⟨cur, bb2, hl2, hs1, hs2, hf2, hb2⟩ := hset
      have hlt3 : (i : Int) < (d.ways.length : Int) := by omega
      have hlt4 : (i : Int) < (ways.length : Int) := by omega
      obtain ⟨m0, m1, m2, m3, m4, m5, m6, m7, m8⟩ := HBOX.out
      replace m0 := hb2.cell m0 hbf
      replace m1 := hb2.cell m1 hbf
      replace m2 := hb2.cell m2 hbf
      replace m3 := hb2.cell m3 hbf
      replace m4 := hb2.cell m4 HNP.out
      replace m5 := hb2.cell m5 HNP.out
      replace m6 := hb2.cell m6 HNP.out
      replace m7 := hb2.cell m7 HNP.out
      replace m8 := hb2.cell m8 HNP.out
      obtain ⟨hbe, hpos, hsm, hg0, hg1, hly, hsc⟩ := HFIT.out i x h hx hh
      have hcur : cur[i]? = some h := (hs2 i (Nat.le_refl _)).trans hh
      obtain ⟨f, N, ha3, hr, hN, hHO⟩ : ∃ f N, a3 = some ⟨bw, 0, none⟩ ∧ wr.rowIs bw 93 N f ∧ cur.length * 5 ≤ N ∧ ∀ (j : Nat) y, cur[j]? = some y → HeldO wr f j y (bb2 j) := by
        obtain ⟨a, cap, hv, h0 | ⟨ha, f, N, hr, hN, hHO⟩⟩ := hf2.ways
        · have h0' : cur.length = 0 := h0
          omega
        · injection hv with ea _ _
          exact ⟨f, N, ea.trans ha, hr, hN, hHO⟩
      subst ha3
      have ho := hHO i h hcur
      have hiN : i * 5 + 5 ≤ N := by omega
      have hbwP : ∀ c, c < W0.heap.size → ¬ P c → c ≠ bw ∧ c ≠ bb2 i := fun c hc hk => by
        refine ⟨fun q => ?_, fun q => ?_⟩
        · rcases hf2.pw (by show cur.length ≠ 0; omega) with z | z
          · exact hk (q ▸ z)
          · omega
        · rcases hf2.pb i (by show i < cur.length; omega) with z | z
          · exact hk (q ▸ z)
          · omega
      have hboP : bo ≠ bw ∧ bo ≠ bb2 i := by
        obtain ⟨g, M, c, -, hg, -⟩ := hf2.occ
        exact ⟨rowIs_ne hg hr (by decide), fun q => hf2.off i (by show i < cur.length; omega) q.symm⟩
      have hbfw := hbwP bf (by have := HZ.out; omega) hbf
      have hbxw := hbwP w.heap.size (by have := HZ.out; omega) HNP.out
      have hsQ : Same Q w wr := fun c hc o => by
        have h1 := HQ.out c hc
        exact (World.cell?_of_block (w := W0) (hb2.block c (by have := HZ.out; omega) h1.2)).trans (HB0.out.cell (p := ⟨c, o, none⟩) h1.1)
      obtain ⟨v0, v1, v2, v3, v4, bq, oq, hway, ha2, r0, r1, r2, r3, r4⟩ : ∃ v0 v1 v2 v3 v4 bq oq, WayAt Q wr v0 v1 v2 v3 v4 x ∧ a2 = some ⟨bq, oq, none⟩ ∧ wr.cell? ⟨bq, oq + i * 5, none⟩ = some v0 ∧ wr.cell? ⟨bq, oq + i * 5 + 1, none⟩ = some v1 ∧ wr.cell? ⟨bq, oq + i * 5 + 2, none⟩ = some v2 ∧ wr.cell? ⟨bq, oq + i * 5 + 3, none⟩ = some v3 ∧ wr.cell? ⟨bq, oq + i * 5 + 4, none⟩ = some v4 := by
        obtain ⟨a, cap, hv, h0 | ⟨bq, oq, ha, hQb, hcw⟩⟩ := HP.out.keep hsQ fun _ z => z
        · omega
        · cases hv
          obtain ⟨v0, v1, v2, v3, v4, hw, hc⟩ := hcw i hlt x hx
          exact ⟨v0, v1, v2, v3, v4, bq, oq, hw, ha, hc⟩
      subst ha2
      obtain ⟨hx0, hx1, hx2, hx3, hx4⟩ := id hway
      obtain ⟨s, hs⟩ := get_some x.sections (hide rfl) hpos
      obtain ⟨hsi0, hsi1⟩ := hsc s (.inl (List.mem_of_getElem? hs))
      obtain ⟨o, hoc⟩ : ∃ o, d.occ[s.toNat]? = some o := ⟨d.occ[s.toNat]'(by omega), List.getElem?_eq_getElem _⟩
      have hoA : occAt d.occ (x.sections.getD 0 0) = o := by rw [List.getD_eq_getElem?_getD, hs]; exact occAt_get hoc
      have hOB := hf2.occ
      obtain ⟨a0, c0, rfl, hb0⟩ := id hx0
      obtain ⟨aa1, cc1, rfl, -⟩ := id hx1
      obtain ⟨aa2, cc2, rfl, -⟩ := id hx2
      obtain ⟨aa3, cc3, rfl, -⟩ := id hx3
      obtain ⟨aa4, cc4, rfl, -⟩ := id hx4
      obtain hb0 | ⟨bs, os, rfl, hQs, hcs⟩ := hb0
      · omega
      have s0 := hcs 0 hpos s hs
      have o0 : wr.cell? ⟨bo, s.toNat, none⟩ = some (.bool o) := by
        obtain ⟨g, M, c, hv, hg, hM, hgx⟩ := hOB
        rw [hg.cell (by have : d.occ.length ≤ M := hM; omega), hgx _ _ hoc]
      obtain ⟨capb, t0, t1, t2, t3, t4, -, -⟩ := ho.cells hr hiN
      have BW := below_new wr (.cells #[.slice (some ⟨bs, os, none⟩) x.sections.length c0, .slice aa1 x.lies.length cc1, .slice aa2 x.flanks.length cc2, .slice aa3 x.over.length cc3, .slice aa4 x.near.length cc4] 122)
      have TW := boxes1 wr 122 #[.slice (some ⟨bs, os, none⟩) x.sections.length c0, .slice aa1 x.lies.length cc1, .slice aa2 x.flanks.length cc2, .slice aa3 x.over.length cc3, .slice aa4 x.near.length cc4]
      have hrW := hr.alloc (.cells #[.slice (some ⟨bs, os, none⟩) x.sections.length c0, .slice aa1 x.lies.length cc1, .slice aa2 x.flanks.length cc2, .slice aa3 x.over.length cc3, .slice aa4 x.near.length cc4] 122)
      have hoW := ho.but (K := fun _ => True) (But.of_calls BW) trivial
      have fin : ∀ W', HeldStep wr W' bw N i f (bb2 i) (settle1 d.occ d.points x h) → SetR P W0 (.slice (some ⟨bo, 0, none⟩) d.occ.length q1) (.slice a4 d.points.length q2) (.slice (some ⟨bw, 0, none⟩) d.ways.length q3) d ways bo bp bw (i + 1) W' :=
        fun W' hs => SetR.next hl2 hs1 hs2 hf2 hb2 (by omega) hx hh hr hs
      have y0 := ckb t0 BW
      have y1 := ckb t1 BW
      have y2 := ckb t2 BW
      have y3 := ckb t3 BW
      have y4 := ckb t4 BW
      have fz0 := hrW.frozen (i * 5)
      have fz3 := hrW.frozen (i * 5 + 3)
      have fz4 := hrW.frozen (i * 5 + 4)
      have n0 := ckb m0 BW
      have n1 := ckb m1 BW
      have n2 := ckb m2 BW
      have n3 := ckb m3 BW
      have n4 := ckb m4 BW
      have n5 := ckb m5 BW
      have n6 := ckb m6 BW
      have n7 := ckb m7 BW
      have n8 := ckb m8 BW
      have hposI : (0 : Int) < (x.sections.length : Int) := by omega
      rw [Nat.add_zero] at s0
      have so := ckb s0 BW
      have oo := ckb o0 BW
      have pass : ∀ (W : World) (f' : Nat → Value) (h' : HeldD), But (fun c => c ≠ bw) wr W → W.rowIs bw 93 N f' → HeldO W f' i h' (bb2 i) → h'.been = h.been → h'.gone = h.gone →
          Calls Tryz.prog 132 #[.agg #[.slice (some ⟨bs, os, none⟩) x.sections.length c0, .slice aa1 x.lies.length cc1, .slice aa2 x.flanks.length cc2, .slice aa3 x.over.length cc3, .slice aa4 x.near.length cc4], .pointer (some ⟨bf, 0, none⟩), .pointer (some ⟨bw, i * 5, none⟩)] W fun e w' => e = .returned (.tuple #[]) ∧ HeldStep W w' bw N i f' (bb2 i) (passD d.occ x.sections h') := fun W f' h' hB hr' ho' eb eg => by
        have hsame : ∀ {R : Nat → Prop}, (∀ c, R c → c < wr.heap.size ∧ c ≠ bw) → Same R wr W := fun hR => hB.same fun c hc => hR c hc
        refine l2pass_any (fun c => c < wr.heap.size ∧ c ≠ bw ∧ c ≠ bb2 i) _ (.slice (some ⟨bo, 0, none⟩) d.occ.length q1) _ _ _ _ d.occ x.sections h' bf bw N i (bb2 i) f' W ?_ ?_ (fun c hc => ⟨Nat.lt_of_lt_of_le hc.1 hB.size, hc.2⟩) (hB.cell m1 hbfw.1) hbfw hr' hiN ho' (by rw [eb]; exact hbe) hsm.1 (fun s hs => hsc s (.inl hs)) hol (by rw [eg]; exact hg0) (by rw [eg]; exact hg1)
        · exact (hx0.keep (same_refl _ _) (Q := fun c => c < wr.heap.size ∧ c ≠ bw ∧ c ≠ bb2 i) fun c hc => ⟨by have := (HQ.out c hc).1; have := HB0.out.size; have := hb2.size; omega, hbwP c (by have := (HQ.out c hc).1; have := HZ.out; omega) (HQ.out c hc).2⟩).keep (hsame fun c hc => ⟨hc.1, hc.2.1⟩) fun _ z => z
        · exact (OBools.read (P := fun c => c < wr.heap.size ∧ c ≠ bw ∧ c ≠ bb2 i) hOB ⟨hOB.lt, hboP⟩).keep (hsame fun c hc => ⟨hc.1, hc.2.1⟩) fun _ z => z
      have PASS := hide pass
      clear pass
      have FIN := hide fin
      have HX := hide hx
      have HOA := hide hoA
      clear hs1 hs2 hx hh hcs hoA fin hcur hHO
      by_cases z0 : h.state = 0
      · have z0' : (h.state == 0) = true := by simp [z0]
        have Z0 := hide z0
        clear z0
        go_wp2
        go_roundw
        case rel => exact ⟨i + 1, by omega, by go_num, FIN.out _ (by rw [settle1_idle Z0.out]; exact HeldStep.none hr ho BW)⟩
        case measure => simp [intOf]; omega
      have z0' : (h.state == 0) = false := by simp [z0]
      have Z0 := hide z0
      clear z0
      have hbww : bw ≠ wr.heap.size := Nat.ne_of_lt hr.lt
      have bwf := hbfw.1.symm
      have bwx := hbxw.1.symm
      have bwo := hboP.1.symm
      by_cases z4 : h.state = 4
      · have z4' : (h.state != 4) = false := by simp [z4]
        have z4'' : (h.state == 4) = true := by simp [z4]
        have z1' : (h.state == 1) = false := by simp [z4]
        have z2' : (h.state == 2) = false := by simp [z4]
        have Z4 := hide z4
        clear z4
        go_wp2
        go_quiet (fail)
        have BQ := BW.trans ((below_dr4 (wr.alloc (.cells #[.slice (some ⟨bs, os, none⟩) x.sections.length c0, .slice aa1 x.lies.length cc1, .slice aa2 x.flanks.length cc2, .slice aa3 x.over.length cc3, .slice aa4 x.near.length cc4] 122)) nq).mono BW.size)
        go_wp2_with fail
        refine (PASS.out _ f h (But.of_calls BQ) (rowIs_keep hr BQ) (ho.but (K := fun _ => True) (But.of_calls BQ) trivial) rfl rfl).mono ?_
        rintro e w3 ⟨rfl, hs3⟩
        have hn := FIN.out w3 (by rw [settle1_used Z4.out]; exact HeldStep.after (But.of_calls BQ) (fun _ _ _ => rfl) (.inl rfl) hs3)
        have HN := hide hn
        clear hn hs3
        go_wp2
        go_roundw
        case rel => exact ⟨i + 1, by omega, by go_num, HN.out⟩
        case measure => simp [intOf]; omega
      have z4' : (h.state != 4) = true := by simp [z4]
      have Z4 := hide z4
      cases o
      case true =>
        clear z4
        go_wp2
        go_quiet (fail)
        have BQ := BW.trans ((below_dr4 (wr.alloc (.cells #[.slice (some ⟨bs, os, none⟩) x.sections.length c0, .slice aa1 x.lies.length cc1, .slice aa2 x.flanks.length cc2, .slice aa3 x.over.length cc3, .slice aa4 x.near.length cc4] 122)) nq).mono BW.size)
        have hrQ := rowIs_keep hr BQ
        have hoQ := ho.but (K := fun _ => True) (But.of_calls BQ) trivial
        have hoQ1 := hoQ.state hrQ 4
        have hrQ1 := hrQ.set (i * 5) (.int .i64 4)
        have hoQ2 := hoQ1.timer hrQ1 0
        have hrQ2 := hrQ1.set (i * 5 + 4) (.int .i64 0)
        have hBQ : But (fun c => c ≠ bw) wr ((((wr.alloc (.cells #[.slice (some ⟨bs, os, none⟩) x.sections.length c0, .slice aa1 x.lies.length cc1, .slice aa2 x.flanks.length cc2, .slice aa3 x.over.length cc3, .slice aa4 x.near.length cc4] 122)).drewN nq).setCell ⟨bw, i * 5, none⟩ (.int .i64 4)).setCell ⟨bw, i * 5 + 4, none⟩ (.int .i64 0)) := ((But.of_calls BQ).setCell (fun z => z rfl) _).setCell (fun z => z rfl) _
        have HOQ := hide hoQ2
        have HRQ := hide hrQ2
        have HBQ := hide hBQ
        clear hoQ hrQ hoQ1 hrQ1 hoQ2 hrQ2 hBQ
        go_wp2_with fail
        refine (PASS.out _ _ { h with state := 4, timer := 0 } HBQ.out HRQ.out HOQ.out rfl rfl).mono ?_
        rintro e w3 ⟨rfl, hs3⟩
        have hn := FIN.out w3 (by
          rw [settle1_in Z0.out Z4.out HOA.out]
          exact HeldStep.after (HBQ.out.mono fun _ _ z => z.1) (fun q _ hq => by rw [if_neg (by omega), if_neg (by omega)]) (.inl rfl) hs3)
        have HN := hide hn
        clear hn hs3
        go_wp2
        go_roundw
        case rel => exact ⟨i + 1, by omega, by go_num, HN.out⟩
        case measure => simp [intOf]; omega
      case false =>
        have z4'' : (h.state == 4) = false := by simp [z4]
        clear z4
        by_cases z12 : h.state = 1 ∨ h.state = 2
        · have zz : ((h.state == 1) = true) ∨ ((h.state == 1) = false ∧ (h.state == 2) = true) := by
            rcases z12 with e | e
            · exact .inl (by simp [e])
            · exact .inr ⟨by simp [e], by simp [e]⟩
          have Z12 := hide z12
          clear z12
          rcases zz with zz1 | ⟨zz1, zz2⟩
          all_goals
            go_wp2
            go_quiet (fail)
            have BQ := BW.trans ((below_dr4 (wr.alloc (.cells #[.slice (some ⟨bs, os, none⟩) x.sections.length c0, .slice aa1 x.lies.length cc1, .slice aa2 x.flanks.length cc2, .slice aa3 x.over.length cc3, .slice aa4 x.near.length cc4] 122)) nq).mono BW.size)
            have hrQ := rowIs_keep hr BQ
            have hoQ := ho.but (K := fun _ => True) (But.of_calls BQ) trivial
            have hoQ1 := hoQ.state hrQ 1
            have hrQ1 := hrQ.set (i * 5) (.int .i64 1)
            have hBQ : But (fun c => c ≠ bw) wr (((wr.alloc (.cells #[.slice (some ⟨bs, os, none⟩) x.sections.length c0, .slice aa1 x.lies.length cc1, .slice aa2 x.flanks.length cc2, .slice aa3 x.over.length cc3, .slice aa4 x.near.length cc4] 122)).drewN nq).setCell ⟨bw, i * 5, none⟩ (.int .i64 1)) := (But.of_calls BQ).setCell (fun z => z rfl) _
            have HOQ := hide hoQ1
            have HRQ := hide hrQ1
            have HBQ := hide hBQ
            clear hoQ hrQ hoQ1 hrQ1 hBQ
            go_wp2
            generalize hX : World.setCell (World.drewN _ nq) _ _ = X at HOQ HRQ HBQ ⊢
            have hneX := Ext.any X
            have E0 := Ext.cell (HBQ.out.cell m0 hbfw.1)
            have E1 := Ext.cell (HBQ.out.cell m1 hbfw.1)
            have E2 := Ext.cell (HBQ.out.cell m2 hbfw.1)
            have E3 := Ext.cell (HBQ.out.cell m3 hbfw.1)
            have E4 := Ext.cell (HBQ.out.cell m4 hbxw.1)
            have E5 := Ext.cell (HBQ.out.cell m5 hbxw.1)
            have E6 := Ext.cell (HBQ.out.cell m6 hbxw.1)
            have E7 := Ext.cell (HBQ.out.cell m7 hbxw.1)
            have E8 := Ext.cell (HBQ.out.cell m8 hbxw.1)
            have hq : ∀ nn : Ext X, Calls Tryz.prog 106 #[.agg #[n, p1, .slice (some ⟨bq, oq, none⟩) ways.length k2, p3, hd], .agg #[ok, .slice (some ⟨bo, 0, none⟩) d.occ.length q1, .slice a4 d.points.length q2, .slice (some ⟨bw, 0, none⟩) ways.length q3], .int .i64 i] nn.w fun e w' => e = .returned (.bool (provedB d.occ d.points x)) ∧ Below nn.w.heap.size nn.w w' := fun nn => by
              have hsX : Same (fun c => c < wr.heap.size ∧ c ≠ bw) wr nn.w := (HBQ.out.same fun c hc => hc).trans (same_below nn.below fun c hc => Nat.lt_of_lt_of_le hc.1 HBQ.out.size)
              have hin : ∀ c, c < wr.heap.size ∧ c ≠ bw → In nn.w c := fun c hc => Nat.lt_of_lt_of_le hc.1 (Nat.le_trans HBQ.out.size nn.below.size)
              refine l2proved_any n hd ok p1 _ p3 _ _ _ ways d i x nn.w ?_ ?_ ?_ HX.out h100 hsm hly hsc ⟨hpl, hol⟩
              · exact ((HP.out.keep hsQ fun _ z => z).keep (same_refl _ _) (Q := fun c => c < wr.heap.size ∧ c ≠ bw) fun c hc => ⟨by have := (HQ.out c hc).1; have := HB0.out.size; have := hb2.size; omega, (hbwP c (by have := (HQ.out c hc).1; have := HZ.out; omega) (HQ.out c hc).2).1⟩).keep hsX hin
              · exact (OBools.read (P := fun c => c < wr.heap.size ∧ c ≠ bw) hOB ⟨hOB.lt, hboP.1⟩).keep hsX hin
              · refine (OPoints.read (P := fun c => c < wr.heap.size ∧ c ≠ bw) hf2.points fun z => ?_).keep hsX hin
                obtain ⟨_, _, _, h0 | ⟨_, g, M, hg, _⟩⟩ := hf2.points
                · exact absurd h0 z
                · exact ⟨hg.lt, rowIs_ne hg hr (by decide)⟩
            have HQQ := hide hq
            clear hq
            cases hpv : provedB d.occ d.points x
            · rw [hpv] at HQQ
              have HPV := hide hpv
              clear hpv
              refine wp_region_ext (by kernel_rfl) (by kernel_rfl) ?_
              repeat (go_big_quiet_step ((go_at_call 106; exact ext_of (HQQ.out _))))
              refine wpQuiet_nil ?_
              rintro _ ⟨nn, rfl⟩
              have hrN := rowIs_keep HRQ.out nn.below
              have u0 := hrN.cell (i := i * 5) (by omega)
              rw [if_pos rfl] at u0
              clear hrN
              go_wp2
              go_roundw
              case rel => exact ⟨i + 1, by omega, by go_num, FIN.out _ (by
                rw [settle1_set Z12.out HOA.out HPV.out]
                exact HeldStep.after (HBQ.out.mono fun _ _ z => z.1) (fun q _ hq => by rw [if_neg (by omega)]) (.inl rfl) (HeldStep.none HRQ.out HOQ.out nn.below))⟩
              case measure => simp [intOf]; omega
            · rw [hpv] at HQQ
              have HPV := hide hpv
              clear hpv
              refine wp_region_ext (by kernel_rfl) (by kernel_rfl) ?_
              repeat (go_big_quiet_step ((go_at_call 106; exact ext_of (HQQ.out _))))
              refine wpQuiet_nil ?_
              rintro _ ⟨nn, rfl⟩
              have hrN := rowIs_keep HRQ.out nn.below
              have hoN := HOQ.out.but (K := fun _ => True) (But.of_calls nn.below) trivial
              have u0 := hrN.cell (i := i * 5) (by omega)
              have u3 := hrN.cell (i := i * 5 + 3) (by omega)
              have w0 := hrN.frozen (i * 5)
              have w3 := hrN.frozen (i * 5 + 3)
              have hn : HeldStep wr ((nn.w.setCell ⟨bw, i * 5, none⟩ (.int .i64 2)).setCell ⟨bw, i * 5 + 3, none⟩ (.bool true)) bw N i f (bb2 i) { h with state := 2, shown := true } := by
                refine HeldStep.after (f1 := fun j => if j = i * 5 then .int .i64 1 else f j) (HBQ.out.mono fun _ _ z => z.1) (fun q _ hq => by rw [if_neg (by omega)]) (.inl rfl) ?_
                refine HeldStep.after (But.of_calls nn.below) (fun _ _ _ => rfl) (.inl rfl) ?_
                have h5 := HeldStep.store (q := i * 5 + 3) (hrN.set (i * 5) (.int .i64 2)) (by omega) ((hoN.state hrN 2).shown (hrN.set (i * 5) (.int .i64 2)) true)
                exact HeldStep.after ((But.refl _ _).setCell (fun z => z.1 rfl) _) (fun q _ hq => by rw [if_neg (by omega)]) (.inl rfl) h5
              have HN := hide hn
              clear hrN hoN hn
              go_wp2
              go_roundw
              case rel => exact ⟨i + 1, by omega, by go_num, FIN.out _ (by
                rw [settle1_clear Z12.out HOA.out HPV.out]
                exact HN.out)⟩
              case measure => simp [intOf]; omega
        · have z1' : (h.state == 1) = false := by simp; omega
          have z2' : (h.state == 2) = false := by simp; omega
          have Z12 := hide z12
          clear z12
          go_wp2
          go_quiet (fail)
          have BQ := BW.trans ((below_dr4 (wr.alloc (.cells #[.slice (some ⟨bs, os, none⟩) x.sections.length c0, .slice aa1 x.lies.length cc1, .slice aa2 x.flanks.length cc2, .slice aa3 x.over.length cc3, .slice aa4 x.near.length cc4] 122)) nq).mono BW.size)
          go_wp2
          go_roundw
          case rel => exact ⟨i + 1, by omega, by go_num, FIN.out _ (by
            rw [settle1_else Z4.out (fun z => Z12.out (.inl z)) (fun z => Z12.out (.inr z)) HOA.out]
            exact HeldStep.none hr ho BQ)⟩
          case measure => simp [intOf]; omega
    · have hfin : ∃ bb', OFrame (fun c => P c ∨ New w wr c) wr (.slice (some ⟨bo, 0, none⟩) d.occ.length q1) (.slice a4 d.points.length q2) (.slice a3 d.ways.length q3) (settleD ways d) bo bp bw bb' ∧ But (fun c => ¬ P c) w wr := by
        obtain ⟨bb', hf', hb'⟩ := hset.end hlen (by omega)
        exact ⟨bb', hf'.bound fun c hc hl => hc.imp id fun z => ⟨by have := HZ.out; omega, hl⟩, (But.of_calls HB0.out).trans hb'⟩
      have HFI := hide hfin
      clear hfin hset
      go_wp2
      exact bodyPost_end (v := .tuple #[]) (by simp [results, Tryz.results68, go_sem]) rfl ⟨rfl, HFI.out⟩
end Go.Proofs.YtdhinkgjiapigabGreatDoor

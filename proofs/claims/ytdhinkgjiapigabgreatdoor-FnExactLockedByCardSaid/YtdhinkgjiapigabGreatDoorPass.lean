import Derived.Test.YtdhinkgjiapigabGreatDoorToA
import Derived.Test.YtdhinkgjiapigabGreatDoorBase
import Derived.Test.YtdhinkgjiapigabGreatDoorSpec4
namespace Go.Proofs.YtdhinkgjiapigabGreatDoor
open Go.RowKit Go.Deep

/-- The number in a cell. -/
def cellNat (w : World) (b o : Nat) : Nat := (intOf ((w.cell? ⟨b, o, none⟩).getD (.bool false))).toNat
/-- The five cells of a Held set. -/
theorem row5 {W : World} {bw N i : Nat} {f : Nat → Value} (hr : W.rowIs bw 93 N f) (u0 u1 u2 u3 u4 : Value) :
    ∃ g, (((((W.setCell ⟨bw, i * 5, none⟩ u0).setCell ⟨bw, i * 5 + 1, none⟩ u1).setCell ⟨bw, i * 5 + 2, none⟩ u2).setCell ⟨bw, i * 5 + 3, none⟩ u3).setCell ⟨bw, i * 5 + 4, none⟩ u4).rowIs bw 93 N g ∧
      (g (i * 5) = u0 ∧ g (i * 5 + 1) = u1 ∧ g (i * 5 + 2) = u2 ∧ g (i * 5 + 3) = u3 ∧ g (i * 5 + 4) = u4) ∧ ∀ q, q < i * 5 ∨ i * 5 + 5 ≤ q → g q = f q := by
  have h5 := ((((hr.set (i * 5) u0).set (i * 5 + 1) u1).set (i * 5 + 2) u2).set (i * 5 + 3) u3).set (i * 5 + 4) u4
  refine ⟨_, h5, ⟨?_, ?_, ?_, ?_, ?_⟩, fun q hq => ?_⟩
  · rw [if_neg (by omega), if_neg (by omega), if_neg (by omega), if_neg (by omega), if_pos rfl]
  · rw [if_neg (by omega), if_neg (by omega), if_neg (by omega), if_pos rfl]
  · rw [if_neg (by omega), if_neg (by omega), if_pos rfl]
  · rw [if_neg (by omega), if_pos rfl]
  · rw [if_pos rfl]
  · rw [if_neg (by omega), if_neg (by omega), if_neg (by omega), if_neg (by omega), if_neg (by omega)]

set_option maxHeartbeats 1000000 in
theorem l2idle_any (bw N i : Nat) (f : Nat → Value) (a : Option Addr) (n cap : Nat) (w : World) (hr : w.rowIs bw 93 N f) (hi : i * 5 + 5 ≤ N) (hf : f (i * 5 + 2) = .slice a n cap) (hn : n ≤ 1048576) :
    Calls Tryz.prog 90 #[.pointer (some ⟨bw, i * 5, none⟩)] w fun e w' => e = .returned (.tuple #[]) ∧ ∀ b, HeldStep w w' bw N i f b (idleD n) := by
  have hmk := run_make_row' (P := Tryz.prog) 27 4 (.bool false) 1 Tryz.underlying27 Tryz.infoBool rfl .i64 .i64 n (by omega) (by omega)
  have q0 := hr.cell (i := i * 5) (by omega)
  have q1 := hr.cell (i := i * 5 + 1) (by omega)
  have q2 := hr.cell (i := i * 5 + 2) (by omega)
  have q3 := hr.cell (i := i * 5 + 3) (by omega)
  have q4 := hr.cell (i := i * 5 + 4) (by omega)
  have r0 := hr.frozen (i * 5)
  have r1 := hr.frozen (i * 5 + 1)
  have r2 := hr.frozen (i * 5 + 2)
  have r3 := hr.frozen (i * 5 + 3)
  have r4 := hr.frozen (i * 5 + 4)
  have hlt := hr.lt
  rw [hf] at q2
  have HR := hide hr
  clear hr hf
  go_enter Tryz.func90, Tryz.ntmps90
  go_wp2
  refine bodyPost_end (v := .tuple #[]) (by simp [results, Tryz.results90, go_sem]) rfl ⟨rfl, fun b => ?_⟩
  obtain ⟨g, hg, ⟨g0, g1, g2, g3, g4⟩, hgq⟩ := row5 (i := i) HR.out (.int .i64 0) (.int .i64 0) (.slice (some ⟨w.heap.size, 0, none⟩) n n) (.bool false) (.int .i64 0)
  have hk : ¬ ((fun c => c ≠ bw ∧ c ≠ b) bw) := fun h => h.1 rfl
  refine ⟨(((((((But.refl _ w).setCell hk _).setCell hk _).setCell hk _).setCell hk _).setCell hk _).alloc _), g, w.heap.size, hg.alloc _, ⟨g0, g1, ?_, g3, g4⟩, fun q _ hq => hgq q hq, .inr (Nat.le_refl _)⟩
  refine ⟨fun _ => .bool false, n, n, by rw [g2]; simp [idleD], ?_, by simp [idleD], fun k x hx => ?_⟩
  · have := World.rowIs_made (((((w.setCell ⟨bw, i * 5, none⟩ (.int .i64 0)).setCell ⟨bw, i * 5 + 1, none⟩ (.int .i64 0)).setCell ⟨bw, i * 5 + 2, none⟩ (.slice (some ⟨w.heap.size, 0, none⟩) n n)).setCell ⟨bw, i * 5 + 3, none⟩ (.bool false)).setCell ⟨bw, i * 5 + 4, none⟩ (.int .i64 0)) (.bool false) n 4
    simpa using this
  · have hx' : (List.replicate n false)[k]? = some x := hx
    rw [List.getElem?_replicate] at hx'
    split at hx'
    · cases hx'; rfl
    · cases hx'
theorem ckb' {W W' : World} {b o : Nat} {v : Value} (h : W.cell? ⟨b, o, none⟩ = some v) (hb : Below W.heap.size W W') : W'.cell? ⟨b, o, none⟩ = some v :=
  (hb.cell (p := ⟨b, o, none⟩) (World.block_lt_of_cell? _ _ h)).trans h
/-- The row's own Held read as cells. -/
theorem HeldO.cells {w : World} {bw N i : Nat} {f : Nat → Value} {h : HeldD} {b : Nat} (hr : w.rowIs bw 93 N f) (hi : i * 5 + 5 ≤ N) (ho : HeldO w f i h b) :
    ∃ cap, w.cell? ⟨bw, i * 5, none⟩ = some (.int .i64 h.state) ∧ w.cell? ⟨bw, i * 5 + 1, none⟩ = some (.int .i64 h.gone) ∧ w.cell? ⟨bw, i * 5 + 2, none⟩ = some (.slice (some ⟨b, 0, none⟩) h.been.length cap) ∧ w.cell? ⟨bw, i * 5 + 3, none⟩ = some (.bool h.shown) ∧ w.cell? ⟨bw, i * 5 + 4, none⟩ = some (.int .i64 h.timer) ∧
      f (i * 5 + 2) = .slice (some ⟨b, 0, none⟩) h.been.length cap ∧ ∃ g M, w.rowIs b 4 M g ∧ h.been.length ≤ M ∧ ∀ (k : Nat) x, h.been[k]? = some x → g k = .bool x := by
  obtain ⟨h0, h1, ⟨g, M, cap, hv, hg, hM, hx⟩, h3, h4⟩ := ho
  refine ⟨cap, ?_, ?_, ?_, ?_, ?_, hv, g, M, hg, hM, hx⟩
  · rw [hr.cell (by omega), h0]
  · rw [hr.cell (by omega), h1]
  · rw [hr.cell (by omega), hv]
  · rw [hr.cell (by omega), h3]
  · rw [hr.cell (by omega), h4]

theorem HeldStep.after {w w1 w2 : World} {bw N i : Nat} {f f1 : Nat → Value} {b b1 : Nat} {y : HeldD} (e : But (fun c => c ≠ bw ∧ c ≠ b) w w1) (hf : ∀ q, q < N → q < i * 5 ∨ i * 5 + 5 ≤ q → f1 q = f q) (hb : b1 = b ∨ w.heap.size ≤ b1)
    (k : HeldStep w1 w2 bw N i f1 b1 y) : HeldStep w w2 bw N i f b y := by
  obtain ⟨e2, f2, b2, hr2, ho2, hf2, hb2⟩ := k
  refine ⟨?_, f2, b2, hr2, ho2, fun q hN hq => (hf2 q hN hq).trans (hf q hN hq), ?_⟩
  · refine ⟨e2.os.trans e.os, e2.tape.trans e.tape, e2.output.trans e.output, Nat.le_trans e.size e2.size, fun c hc hk => ?_⟩
    exact (e2.block c (Nat.lt_of_lt_of_le hc e.size) ⟨hk.1, by rcases hb with q | q; rw [q]; exact hk.2; omega⟩).trans (e.block c hc hk)
  · have := e.size
    rcases hb2 with q | q
    · rw [q]; exact hb
    · exact .inr (by omega)
theorem pass_but {w W0 wo W : World} {bw b : Nat} (h0 : Below w.heap.size w W0) (B1 : But (fun c => c ≠ b) W0 wo) (B2 : But (fun c => c ≠ bw) wo W) : But (fun c => c ≠ bw ∧ c ≠ b) w W :=
  ((But.of_calls h0).trans (B1.mono fun _ _ h => h.2)).trans (B2.mono fun _ _ h => h.1)
theorem pass_nat {wr : World} {bw N o k2 m : Nat} {f' : Nat → Value} (hr : wr.rowIs bw 93 N f') (ho : o < N) : cellNat ((wr.drewN m).setCell ⟨bw, o, none⟩ (.int .i64 ((k2 : Int) + 1))) bw o = k2 + 1 := by
  unfold cellNat
  rw [((rowIs_keep hr (below_dr4 _ m)).set o _).cell ho, if_pos rfl]
  simp [intOf]
theorem pass_stop {w W0 wo W : World} {bw b N M i : Nat} {f f1 g : Nat → Value} {h : HeldD} {bd : List Bool} {k : Nat} (h0 : Below w.heap.size w W0) (B1 : But (fun c => c ≠ b) W0 wo) (B2 : But (fun c => c ≠ bw) wo W) (hne : bw ≠ b)
    (hg : wo.rowIs b 4 M g) (hM : h.been.length ≤ M) (hl : bd.length = h.been.length) (hbd : ∀ (j : Nat) y, bd[j]? = some y → g j = .bool y) (hr : W.rowIs bw 93 N f1) (hk : f1 (i * 5 + 1) = .int .i64 k) (hq : ∀ q, q ≠ i * 5 + 1 → f1 q = f q) (ho : HeldO w f i h b) :
    HeldStep w W bw N i f b { h with been := bd, gone := k } := by
  refine ⟨pass_but h0 B1 B2, f1, b, hr, ⟨?_, hk, ?_, ?_, ?_⟩, fun q _ hq2 => hq q (by omega), .inl rfl⟩
  · rw [hq _ (by omega)]; exact ho.1
  · rw [hq _ (by omega)]
    obtain ⟨-, -, ⟨g0, M0, cap, hv, -, -, -⟩, -, -⟩ := ho
    exact ⟨g, M, cap, by rw [hv, hl], B2.row hg hne.symm, by rw [hl]; exact hM, hbd⟩
  · rw [hq _ (by omega)]; exact ho.2.2.2.1
  · rw [hq _ (by omega)]; exact ho.2.2.2.2

set_option maxRecDepth 100000 in
set_option maxHeartbeats 2000000 in
theorem l2pass_any (P : Nat → Prop) (v0 v1 u1 u2 u3 u4 : Value) (occ : List Bool) (secs : List Int) (h : HeldD) (bf bw N i b : Nat) (f : Nat → Value) (w : World)
    (hsec : Ints P w v0 secs) (hocc : Bools P w v1 occ) (hP : ∀ c, P c → c < w.heap.size ∧ c ≠ bw ∧ c ≠ b) (hbox : w.cell? ⟨bf, 1, none⟩ = some v1) (hbf : bf ≠ bw ∧ bf ≠ b)
    (hr : w.rowIs bw 93 N f) (hi : i * 5 + 5 ≤ N) (ho : HeldO w f i h b)
    (hlen : h.been.length = secs.length) (h30 : secs.length ≤ 30) (hin : ∀ s ∈ secs, 0 ≤ s ∧ s < occ.length) (_hol : occ.length ≤ 1048576) (hg0 : 0 ≤ h.gone) (hg1 : h.gone ≤ secs.length) :
    Calls Tryz.prog 132 #[.agg #[v0, u1, u2, u3, u4], .pointer (some ⟨bf, 0, none⟩), .pointer (some ⟨bw, i * 5, none⟩)] w fun e w' => e = .returned (.tuple #[]) ∧ HeldStep w w' bw N i f b (passD occ secs h) := by
  have T0 := boxes1 w 122 #[v0, u1, u2, u3, u4]
  obtain ⟨a0, c0, rfl, hs0⟩ := hsec
  obtain ⟨a1, c1, rfl, ho0⟩ := hocc
  have HS := hide hs0
  have HOC := hide ho0
  have HIN := hide hin
  have HPP := hide hP
  obtain ⟨capb, q0, q1, q2, q3, q4, q5, g, M, hg, hM, hgx⟩ := ho.cells hr hi
  clear hs0 ho0 hin hP q0 q1 q3 q4 q5
  go_enter Tryz.func132, Tryz.ntmps132
  go_wp2
  have hbl := hg.lt
  have hwl := hr.lt
  have hne : bw ≠ b := rowIs_ne hr hg (by decide)
  have B0 : But (fun c => c ≠ b) (w.alloc (.cells #[.slice a0 secs.length c0, u1, u2, u3, u4] 122)) (w.alloc (.cells #[.slice a0 secs.length c0, u1, u2, u3, u4] 122)) := But.refl _ _
  have bx0 : (w.alloc (.cells #[.slice a0 secs.length c0, u1, u2, u3, u4] 122)).cell? ⟨w.heap.size, 0, none⟩ = some (.slice a0 secs.length c0) := by simp
  have hr0 := hr.alloc (.cells #[.slice a0 secs.length c0, u1, u2, u3, u4] 122)
  have hg00 := hg.alloc (.cells #[.slice a0 secs.length c0, u1, u2, u3, u4] 122)
  have hbox0 := ckb' hbox (below_new w (.cells #[.slice a0 secs.length c0, u1, u2, u3, u4] 122))
  have HB0 := hide bx0
  have HBOX := hide hbox0
  have HGX := hide hgx
  have HQ2 := hide q2
  have HBX0 := hide hbox
  have HO := hide ho
  obtain ⟨W0, hW0⟩ : ∃ W0, W0 = w.alloc (.cells #[.slice a0 secs.length c0, u1, u2, u3, u4] 122) := ⟨_, rfl⟩
  have hz0 : W0.heap.size = w.heap.size + 1 := by rw [hW0]; simp
  have HZ0 := hide hz0
  have HW0 := hide hW0
  have RD0 : Hid (∀ (c o : Nat) (v : Value), w.cell? ⟨c, o, none⟩ = some v → (w.alloc (.cells #[.slice a0 secs.length c0, u1, u2, u3, u4] 122)).cell? ⟨c, o, none⟩ = some v) := fun c o v hv => ckb' hv (below_new w _)
  rw [← hW0] at B0 hr0 hg00 hbox0 bx0 HB0 HBOX T0 RD0 ⊢
  clear hgx q2 hbox bx0 hbox0 ho hW0 hz0
  go_loopw [16] (fun z wr => ∃ (k : Nat) (g' : Nat → Value), k ≤ secs.length ∧ z = .int .i64 k ∧ But (fun c => c ≠ b) W0 wr ∧ wr.rowIs b 4 M g' ∧ ∀ (j : Nat) x, h.been[j]? = some x → g' j = .bool (if j < k then x || occAt occ (secs.getD j 0) else x)) (fun z _ => secs.length - (intOf z).toNat)
  case atStart => exact ⟨0, g, Nat.zero_le _, rfl, B0, hg00, fun j x hx => by rw [if_neg (by omega)]; exact HGX.out j x hx⟩
  case round =>
    obtain ⟨k, g', hk, rfl, B1, hg1', hgx1⟩ := hrel
    have HGX1 := hide hgx1
    clear hgx1 B0
    by_cases hlt : k < secs.length
    · obtain h0 | ⟨bs, os, rfl, hPs, hcs⟩ := HS.out
      · omega
      obtain ⟨s, hs⟩ := get_some secs (hide rfl) hlt
      have hin := HIN.out s (List.mem_of_getElem? hs)
      obtain ⟨hin0, hin1⟩ := hin
      obtain h0 | ⟨bc, oc, rfl, hPc, hcc⟩ := HOC.out
      · omega
      obtain ⟨o, ho⟩ : ∃ o, occ[s.toNat]? = some o := ⟨occ[s.toNat]'(by omega), List.getElem?_eq_getElem _⟩
      obtain ⟨y, hy⟩ := get_some h.been (hide hlen) hlt
      have s0 := B1.cell (RD0.out _ _ _ (hcs k hlt s hs)) (HPP.out bs hPs).2.2
      have o0 := B1.cell (RD0.out _ _ _ (hcc s.toNat (by omega) o ho)) (HPP.out bc hPc).2.2
      have x0 := B1.cell HBOX.out hbf.2
      have p2 := B1.cell (RD0.out _ _ _ HQ2.out) hne
      have gk := hg1'.cell (i := k) (by omega)
      have fk := hg1'.frozen k
      have hkb : (k : Int) < (h.been.length : Int) := by omega
      have Hs := hide hs
      have Hoc := hide ho
      have Hy := hide hy
      clear hs ho hy hcs hcc
      cases o
      · go_wp2
        go_roundw
        case rel => exact ⟨k + 1, g', by omega, by go_num, B1, hg1', fun j x hx => by
          rw [HGX1.out j x hx]
          by_cases e : j = k
          · subst e
            rw [if_neg (by omega), if_pos (by omega), List.getD_eq_getElem?_getD, Hs.out]
            simp [occAt_get Hoc.out]
          · by_cases e2 : j < k
            · rw [if_pos e2, if_pos (by omega)]
            · rw [if_neg e2, if_neg (by omega)]⟩
        case measure => simp [intOf]; omega
      · go_wp2
        go_roundw
        case rel => exact ⟨k + 1, _, by omega, by go_num, B1.setCell (fun z => z rfl) _, hg1'.set k _, fun j x hx => by
          by_cases e : j = k
          · subst e
            rw [if_pos rfl, if_pos (by omega), List.getD_eq_getElem?_getD, Hs.out]
            simp [occAt_get Hoc.out]
          · rw [if_neg e, HGX1.out j x hx]
            by_cases e2 : j < k
            · rw [if_pos e2, if_pos (by omega)]
            · rw [if_neg e2, if_neg (by omega)]⟩
        case measure => simp [intOf]; omega
    · have hbd : ∀ (j : Nat) y, (beenD occ secs h.been)[j]? = some y → g' j = .bool y := fun j y hy => by
        have hj : j < secs.length := by
          have := (List.getElem?_eq_some_iff.1 hy).1
          rw [beenD_length hlen] at this
          exact this
        obtain ⟨z, hz⟩ := get_some h.been (hide hlen) hj
        obtain ⟨s, hs⟩ := get_some secs (hide rfl) hj
        rw [beenD_get hs hz] at hy
        cases hy
        rw [HGX1.out j z hz, if_pos (by omega), List.getD_eq_getElem?_getD, hs]
        rfl
      have HBD := hide hbd
      have hdl : (beenD occ secs h.been).length = secs.length := beenD_length hlen
      obtain ⟨bd, hbde⟩ : ∃ bd, bd = beenD occ secs h.been := ⟨_, rfl⟩
      have HDE := hide hbde
      rw [← hbde] at HBD hdl
      have HR1 := B1.row hr0 hne
      have HB1 := hide B1
      have HHR1 := hide HR1
      clear hbd HGX1 hbde B1 HR1
      rename World => wo
      go_wp2
      go_loopw [] (fun wr => ∃ (k : Nat) (f' : Nat → Value), k ≤ secs.length ∧ goneD occ secs bd h.gone.toNat = goneD occ secs bd k ∧ But (fun c => c ≠ bw) wo wr ∧ wr.rowIs bw 93 N f' ∧ f' (i * 5 + 1) = .int .i64 k ∧ ∀ q, q ≠ i * 5 + 1 → f' q = f q) (fun wr => secs.length - cellNat wr bw (i * 5 + 1))
      case atStart =>
        exact ⟨h.gone.toNat, f, by omega, rfl, But.refl _ _, HHR1.out, by rw [HO.out.2.1]; congr 1; omega, fun _ _ => rfl⟩
      case round =>
        obtain ⟨k2, f', hk2, hgo, B2, hr2, hfk, hfq⟩ := hrel
        have HGO := hide hgo
        have HFQ := hide hfq
        have HFK := hide hfk
        have p1 := hr2.cell (i := i * 5 + 1) (by omega)
        rw [hfk] at p1
        have hfk2 := hr2.frozen (i * 5 + 1)
        have hcn : cellNat wr bw (i * 5 + 1) = k2 := by simp [cellNat, p1, intOf]
        have HCN := hide hcn
        clear hgo hfq hfk hcn
        by_cases hlt2 : k2 < secs.length
        · obtain h0 | ⟨bs, os, rfl, hPs, hcs⟩ := HS.out
          · omega
          obtain ⟨s, hs⟩ := get_some secs (hide rfl) hlt2
          have hin := HIN.out s (List.mem_of_getElem? hs)
          obtain ⟨hin0, hin1⟩ := hin
          obtain h0 | ⟨bc, oc, rfl, hPc, hcc⟩ := HOC.out
          · omega
          obtain ⟨o, ho⟩ : ∃ o, occ[s.toNat]? = some o := ⟨occ[s.toNat]'(by omega), List.getElem?_eq_getElem _⟩
          obtain ⟨y, hy⟩ := get_some bd (hide hdl) hlt2
          have s0 := B2.cell (HB1.out.cell (RD0.out _ _ _ (hcs k2 hlt2 s hs)) (HPP.out bs hPs).2.2) (HPP.out bs hPs).2.1
          have o0 := B2.cell (HB1.out.cell (RD0.out _ _ _ (hcc s.toNat (by omega) o ho)) (HPP.out bc hPc).2.2) (HPP.out bc hPc).2.1
          have x0 := B2.cell (HB1.out.cell HBOX.out hbf.2) hbf.1
          have x1 := B2.cell (HB1.out.cell HB0.out (by have := HZ0.out; omega)) (by omega)
          have p2 := hr2.cell (i := i * 5 + 2) (by omega)
          have p20 := HQ2.out
          rw [hr.cell (by omega)] at p20
          rw [HFQ.out _ (by omega), Option.some.inj p20] at p2
          have gk := (B2.row hg1' hne.symm).cell (i := k2) (by omega)
          rw [HBD.out k2 y hy] at gk
          have hkb : (k2 : Int) < (h.been.length : Int) := by omega
          have hks : (k2 : Int) < (secs.length : Int) := by omega
          have hstop : okAt occ secs bd k2 = false → ∀ {W : World}, Below wr.heap.size wr W → HeldStep w W bw N i f b (passD occ secs h) := fun hno W hW => by
            have hgd : goneD occ secs bd h.gone.toNat = k2 := HGO.out.trans (goneD_stop (by omega) hno)
            unfold passD
            rw [← HDE.out, hgd, if_neg (by omega)]
            exact pass_stop (by rw [HW0.out]; exact below_new _ _) HB1.out (B2.call hW) hne hg1' hM (hdl.trans hlen.symm) HBD.out (rowIs_keep hr2 hW) HFK.out HFQ.out HO.out
          have hnext : okAt occ secs bd k2 = true → ∀ m : Nat, ∃ (k : Nat) (f' : Nat → Value), k ≤ secs.length ∧ goneD occ secs bd h.gone.toNat = goneD occ secs bd k ∧ But (fun c => c ≠ bw) wo ((wr.drewN m).setCell ⟨bw, i * 5 + 1, none⟩ (.int .i64 ((k2 : Int) + 1))) ∧ ((wr.drewN m).setCell ⟨bw, i * 5 + 1, none⟩ (.int .i64 ((k2 : Int) + 1))).rowIs bw 93 N f' ∧ f' (i * 5 + 1) = .int .i64 k ∧ ∀ q, q ≠ i * 5 + 1 → f' q = f q := fun hyes m =>
            ⟨k2 + 1, _, by omega, HGO.out.trans (goneD_step (by omega) hyes), (B2.call (below_dr4 _ _)).setCell (fun z => z rfl) _, (rowIs_keep hr2 (below_dr4 _ m)).set _ _, by rw [if_pos rfl]; go_num, fun q hq => by rw [if_neg hq]; exact HFQ.out q hq⟩
          have HNX := hide hnext
          clear hnext
          have HST := hide hstop
          have Hs := hide hs
          have Hoc := hide (occAt_get ho)
          have Hy := hide hy
          clear hs ho hy hcs hcc p20 hstop
          cases y
          · go_wp2
            go_quiet (fail)
            go_wp2
            refine bodyPost_ret (v := .tuple #[]) (by simp [results, Tryz.results132, go_sem]) rfl ⟨rfl, HST.out ?_ (below_dr4 _ _)⟩
            rw [okAt_eq Hs.out Hy.out]; rfl
          · cases o
            · by_cases hl3 : k2 + 1 < secs.length
              · obtain ⟨z, hz⟩ := get_some bd (hide hdl) hl3
                have gz := (B2.row hg1' hne.symm).cell (i := k2 + 1) (by omega)
                rw [HBD.out _ z hz] at gz
                have Hz := hide hz
                have hl4 : (k2 : Int) < (secs.length : Int) - 1 := by omega
                have hl5 : (k2 : Int) + 1 < (h.been.length : Int) := by omega
                clear hz
                cases z
                · go_wp2
                  go_quiet (fail)
                  go_wp2
                  refine bodyPost_ret (v := .tuple #[]) (by simp [results, Tryz.results132, go_sem]) rfl ⟨rfl, HST.out ?_ (below_dr4 _ _)⟩
                  rw [okAt_next Hs.out Hy.out Hz.out, Hoc.out]; rfl
                · go_wp2
                  go_quiet (fail)
                  go_wp2
                  go_roundw
                  case rel => exact HNX.out (by rw [okAt_next Hs.out Hy.out Hz.out, Hoc.out]; rfl) _
                  case measure => rw [HCN.out, pass_nat hr2 (by omega)]; omega
              · have hl4 : decide ((k2 : Int) < (secs.length : Int) - 1) = false := by simp; omega
                go_wp2
                go_quiet (fail)
                go_wp2
                go_roundw
                case rel => exact HNX.out (by rw [okAt_last Hs.out Hy.out (by omega), Hoc.out]; rfl) _
                case measure => rw [HCN.out, pass_nat hr2 (by omega)]; omega
            · go_wp2
              go_quiet (fail)
              go_wp2
              refine bodyPost_ret (v := .tuple #[]) (by simp [results, Tryz.results132, go_sem]) rfl ⟨rfl, HST.out ?_ (below_dr4 _ _)⟩
              rw [okAt_eq Hs.out Hy.out, Hoc.out]; rfl
        · have p20 := HQ2.out
          rw [hr.cell (by omega)] at p20
          have p2 : f' (i * 5 + 2) = .slice (some ⟨b, 0, none⟩) h.been.length capb := by rw [HFQ.out _ (by omega)]; exact Option.some.inj p20
          have P2 := hide p2
          clear p20 p2
          go_wp2_with fail
          refine (l2idle_any bw N i f' _ h.been.length capb wr hr2 hi P2.out (by omega)).mono ?_
          rintro e w3 ⟨rfl, hs3⟩
          have hfin : HeldStep w w3 bw N i f b (passD occ secs h) := by
            have hgd : goneD occ secs bd h.gone.toNat = bd.length := (HGO.out.trans (goneD_end (by omega))).trans (by omega)
            unfold passD
            rw [← HDE.out, hgd, if_pos rfl, hdl, ← hlen]
            exact HeldStep.after (pass_but (by rw [HW0.out]; exact below_new _ _) HB1.out B2) (fun q _ hq => HFQ.out q (by omega)) (.inl rfl) (hs3 b)
          have HF := hide hfin
          clear hfin hs3
          go_wp2
          exact bodyPost_end (v := .tuple #[]) (by simp [results, Tryz.results132, go_sem]) rfl ⟨rfl, HF.out⟩
end Go.Proofs.YtdhinkgjiapigabGreatDoor

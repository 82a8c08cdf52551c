import Derived.Test.YtdhinkgjiapigabGreatDoorFrB
import Derived.Test.YtdhinkgjiapigabGreatDoorPass
import Derived.Deep.MidRow
namespace Go.Proofs.YtdhinkgjiapigabGreatDoor
open Go.RowKit Go.Deep
open Classical

theorem usedC_list (g : Int) (l : List Bool) (b : Bool) : (usedC g l b).toList = .int .i64 g :: (l.map Value.bool ++ [.bool b]) := by simp [usedC]
theorem usedC_size {g : Int} {l : List Bool} {b : Bool} (h : l.length = 30) : (usedC g l b).size = 32 := by
  rw [← Array.length_toList, usedC_list]
  simp [h]
/-- The row of a used way, by its cells. -/
theorem used_row {W : World} {u t : Nat} {g : Int} {l : List Bool} {b : Bool} (h : W.rowIs u t (usedC g l b).size (fun i => (usedC g l b)[i]!)) (hl : l.length = 30) :
    ∃ f : Nat → Value, W.rowIs u t 32 f ∧ f 0 = .int .i64 g ∧ f 31 = .bool b ∧ ∀ (j : Nat) x, l[j]? = some x → f (1 + j) = .bool x := by
  have hs : (usedC g l b).size = 32 := usedC_size hl
  have hg : ∀ (i : Nat) v, (usedC g l b).toList[i]? = some v → (usedC g l b)[i]! = v := fun i v hv => by
    rw [Array.getElem?_toList] at hv
    obtain ⟨hlt, he⟩ := Array.getElem?_eq_some_iff.1 hv
    rw [getElem!_pos _ i hlt]
    exact he
  refine ⟨fun i => (usedC g l b)[i]!, by rw [hs] at h; exact h, hg 0 _ (by rw [usedC_list]; rfl), hg 31 _ ?_, fun j x hx => hg _ _ ?_⟩
  · rw [usedC_list, List.getElem?_cons_succ, List.getElem?_append_right (by simp [hl])]
    simp [hl]
  · have hj : j < l.length := (List.getElem?_eq_some_iff.1 hx).1
    rw [usedC_list, Nat.add_comm, List.getElem?_cons_succ, List.getElem?_append_left (by simpa using hj), List.getElem?_map, hx]
    rfl
theorem Tryz.usedSize : (Tryz.prog.info? 217).map (·.size) = some 32 := by kernel_rfl
/-- The whole of a used way, in its row. -/
theorem used_range {W : World} {u t : Nat} {f : Nat → Value} {g : Int} {l : List Bool} {b : Bool} (hr : W.rowIs u t 32 f) (hl : l.length = 30) (h0 : f 0 = .int .i64 g) (h1 : f 31 = .bool b) (h2 : ∀ (j : Nat) x, l[j]? = some x → f (1 + j) = .bool x) :
    W.rangeAt u 0 (usedC g l b).toList := by
  intro j v hv
  have hj : j < 32 := by have := (List.getElem?_eq_some_iff.1 hv).1; rw [Array.length_toList, usedC_size hl] at this; exact this
  rw [Nat.zero_add, hr.cell hj]
  rw [usedC_list] at hv
  rcases j with _ | j
  · rw [h0]; exact hv
  · rw [List.getElem?_cons_succ] at hv
    by_cases e : j < 30
    · rw [List.getElem?_append_left (by simpa [hl] using e), List.getElem?_map] at hv
      obtain ⟨x, hx⟩ := lt_get' l (i := j) (by omega)
      rw [hx] at hv
      rw [show j + 1 = 1 + j by omega, h2 j x hx]
      exact hv
    · obtain rfl : j = 30 := by omega
      rw [List.getElem?_append_right (by simp [hl])] at hv
      simp [hl] at hv
      rw [h1, hv]
theorem used_info {g : Int} {l : List Bool} {b : Bool} (hl : l.length = 30) : (Tryz.prog.info? 217).map (·.size) = some (usedC g l b).toList.length := by rw [Tryz.usedSize, Array.length_toList, usedC_size hl]
theorem used_nat {wr : World} {u t m k2 : Nat} {f' : Nat → Value} (hr : wr.rowIs u t 32 f') : cellNat ((wr.drewN m).setCell ⟨u, 0, none⟩ (.int .i64 ((k2 : Int) + 1))) u 0 = k2 + 1 := by
  unfold cellNat
  rw [((rowIs_keep hr (below_dr4 _ m)).set 0 _).cell (by omega), if_pos rfl]
  simp [intOf]

set_option maxRecDepth 100000 in
set_option maxHeartbeats 8000000 in
theorem passed_any (ok f1 f2 f3 u0 u1 u2 u3 u4 : Value) (occ : List Bool) (secs : List Int) (g : Int) (l : List Bool) (b : Bool) (w : World) (hf1 : Bools (In w) w f1 occ) (hu0 : Ints (In w) w u0 secs) (hfit : stFit secs.length (.used g l b)) (hn30 : secs.length ≤ 30)
    (hin : ∀ s ∈ secs, 0 ≤ s ∧ s < occ.length) (_ho : occ.length ≤ 1048576) :
    Calls Tryz.prog 182 #[.agg (usedC g l b), .agg #[ok, f1, f2, f3], .agg #[u0, u1, u2, u3, u4]] w fun e w' => e = .returned (stV (passedD occ secs g l b)) ∧ Below w.heap.size w w' := by
  obtain ⟨hl, hg0, hgn, hpad⟩ := hfit
  have T0 := boxes3 w 217 42 122 (usedC g l b) #[ok, f1, f2, f3] #[u0, u1, u2, u3, u4]
  obtain ⟨f, hr0, hr1, hr2, hr3⟩ := used_row (T0.row 0 _ _ rfl) hl
  rw [Nat.add_zero] at hr0
  obtain ⟨a1, c1, rfl, q1⟩ := hf1
  obtain ⟨a0, c0, rfl, q0⟩ := hu0
  have HOC := hide q1
  have HS := hide q0
  have HIN := hide hin
  have HPAD := hide hpad
  have hlt' : (l.take secs.length).length = secs.length := by rw [List.length_take]; omega
  have HR1 := hide hr1
  have HR2 := hide hr2
  have HR3 := hide hr3
  have k1 : (((w.alloc (.cells (usedC g l b) 217)).alloc (.cells #[ok, .slice a1 occ.length c1, f2, f3] 42)).alloc (.cells #[.slice a0 secs.length c0, u1, u2, u3, u4] 122)).cell? ⟨w.heap.size + 1, 1, none⟩ = some (.slice a1 occ.length c1) := T0.cell (j := 1) (i := 1) rfl rfl
  have k2 : (((w.alloc (.cells (usedC g l b) 217)).alloc (.cells #[ok, .slice a1 occ.length c1, f2, f3] 42)).alloc (.cells #[.slice a0 secs.length c0, u1, u2, u3, u4] 122)).cell? ⟨w.heap.size + 1 + 1, 0, none⟩ = some (.slice a0 secs.length c0) := T0.cell (j := 2) (i := 0) rfl rfl
  have hbl := T0.below
  clear q1 q0 hin hpad hr1 hr2 hr3
  go_enter Tryz.func182, Tryz.ntmps182
  go_wp2
  generalize hW0 : ((w.alloc (.cells (usedC g l b) 217)).alloc (.cells #[ok, .slice a1 occ.length c1, f2, f3] 42)).alloc (.cells #[.slice a0 secs.length c0, u1, u2, u3, u4] 122) = W0 at *
  have HK1 := hide k1
  have HK2 := hide k2
  have HBL := hide hbl
  have HRW := hide hr0
  clear hW0 k1 k2 hbl hr0 T0
  go_loopw [13] (fun z wr => ∃ (k : Nat) (f' : Nat → Value), k ≤ secs.length ∧ z = .int .i64 k ∧ But (fun c => c ≠ w.heap.size) W0 wr ∧ wr.rowIs w.heap.size 217 32 f' ∧ f' 0 = .int .i64 g ∧ f' 31 = .bool b ∧ ∀ (j : Nat) x, l[j]? = some x → f' (1 + j) = .bool (if j < k then x || occAt occ (secs.getD j 0) else x)) (fun z _ => secs.length - (intOf z).toNat)
  case atStart => exact ⟨0, f, Nat.zero_le _, rfl, But.refl _ _, HRW.out, HR1.out, HR2.out, fun j x hx => by rw [if_neg (by omega)]; exact HR3.out j x hx⟩
  case round =>
    obtain ⟨k, f', hk, rfl, hB, hr, e0, e31, ej⟩ := hrel
    have HB := hide hB
    have E0 := hide e0
    have E31 := hide e31
    have EJ := hide ej
    clear hB e0 e31 ej
    have x1 := HB.out.cell HK1.out (by show w.heap.size + 1 ≠ w.heap.size; omega)
    have x2 := HB.out.cell HK2.out (by show w.heap.size + 1 + 1 ≠ w.heap.size; omega)
    by_cases hlt : k < secs.length
    · obtain h0 | ⟨bs, os, rfl, hPs, hcs⟩ := HS.out
      · omega
      obtain ⟨s, hs⟩ := lt_get' secs hlt
      obtain ⟨hin0, hin1⟩ := HIN.out s (List.mem_of_getElem? hs)
      obtain h0 | ⟨bc, oc, rfl, hPc, hcc⟩ := HOC.out
      · omega
      obtain ⟨o, ho2⟩ : ∃ o, occ[s.toNat]? = some o := ⟨occ[s.toNat]'(by omega), List.getElem?_eq_getElem _⟩
      obtain ⟨y, hy⟩ := lt_get' l (i := k) (by omega)
      have s0 := HB.out.cell (ckb (hcs k hlt s hs) HBL.out) (by show bs ≠ w.heap.size; have : bs < w.heap.size := hPs; omega)
      have o0 := HB.out.cell (ckb (hcc s.toNat (by omega) o ho2) HBL.out) (by show bc ≠ w.heap.size; have : bc < w.heap.size := hPc; omega)
      have gk := hr.cell (i := 1 + k) (by omega)
      rw [EJ.out k y hy, if_neg (by omega)] at gk
      have fk := hr.frozen (1 + k)
      have hk30 : (k : Int) < 30 := by omega
      have Hs := hide hs
      have Hoc := hide ho2
      have Hy := hide hy
      clear hs ho2 hy hcs hcc
      have hnext : ∀ v, v = Value.bool (y || o) → ∃ (k1 : Nat) (f1 : Nat → Value), k1 ≤ secs.length ∧ Value.int .i64 ((k : Int) + 1) = .int .i64 k1 ∧ But (fun c => c ≠ w.heap.size) W0 (wr.setCell ⟨w.heap.size, 1 + k, none⟩ v) ∧ (wr.setCell ⟨w.heap.size, 1 + k, none⟩ v).rowIs w.heap.size 217 32 f1 ∧ f1 0 = .int .i64 g ∧ f1 31 = .bool b ∧ ∀ (j : Nat) x, l[j]? = some x → f1 (1 + j) = .bool (if j < k1 then x || occAt occ (secs.getD j 0) else x) := fun v hv => by
        refine ⟨k + 1, _, by omega, by go_num, HB.out.setCell (fun z => z rfl) _, hr.set (1 + k) _, ?_, ?_, fun j x hx => ?_⟩
        · rw [if_neg (by omega)]; exact E0.out
        · rw [if_neg (by omega)]; exact E31.out
        · by_cases e : j = k
          · subst e
            rw [Hy.out] at hx
            cases hx
            rw [if_pos rfl, if_pos (by omega), hv, List.getD_eq_getElem?_getD, Hs.out]
            simp [occAt_get Hoc.out]
          · rw [if_neg (by omega), EJ.out j x hx]
            by_cases e2 : j < k
            · rw [if_pos e2, if_pos (by omega)]
            · rw [if_neg e2, if_neg (by omega)]
      have HNX := hide hnext
      clear hnext
      cases y
      · go_wp2
        go_roundw
        case rel => exact HNX.out _ (by simp)
        case measure => simp [intOf]; omega
      · go_wp2
        go_roundw
        case rel => exact HNX.out _ (by simp)
        case measure => simp [intOf]; omega
    · have hkn : k = secs.length := by omega
      have hbl2 : (beenD occ secs (l.take secs.length)).length = secs.length := beenD_length hlt'
      have hbd : ∀ (j : Nat) y, (pad (beenD occ secs (l.take secs.length)))[j]? = some y → f' (1 + j) = .bool y := fun j y hy => by
        have hj30 : j < 30 := by have := (List.getElem?_eq_some_iff.1 hy).1; rw [pad_length (by omega)] at this; exact this
        obtain ⟨z, hz⟩ := lt_get' l (i := j) (by omega)
        rw [EJ.out j z hz]
        by_cases e : j < secs.length
        · obtain ⟨s, hs⟩ := lt_get' secs e
          unfold pad at hy
          rw [List.getElem?_append_left (by omega), beenD_get hs (by rw [List.getElem?_take, if_pos e]; exact hz)] at hy
          cases hy
          rw [if_pos (by omega), List.getD_eq_getElem?_getD, hs]
          rfl
        · unfold pad at hy
          rw [List.getElem?_append_right (by omega)] at hy
          have hy2 := List.mem_of_getElem? hy
          have hy3 := (List.mem_replicate.1 hy2).2
          rw [HPAD.out] at hz
          unfold pad at hz
          rw [List.getElem?_append_right (by omega)] at hz
          have hz3 := (List.mem_replicate.1 (List.mem_of_getElem? hz)).2
          rw [if_neg (by omega), hy3, hz3]
      obtain ⟨bd, hbde⟩ : ∃ bd, bd = beenD occ secs (l.take secs.length) := ⟨_, rfl⟩
      rw [← hbde] at hbl2 hbd
      have HDE := hide hbde
      have HBD := hide hbd
      have hpl : (pad bd).length = 30 := pad_length (by omega)
      have HPL := hide hpl
      have HRO := hide hr
      have HBL2 := hide hbl2
      clear hbde hbd hpl hr hbl2 HRW EJ
      rename World => wo
      go_wp2
      go_loopw [] (fun wr => ∃ (k2 : Nat) (f2 : Nat → Value), k2 ≤ secs.length ∧ goneD occ secs bd g.toNat = goneD occ secs bd k2 ∧ But (fun c => c ≠ w.heap.size) W0 wr ∧ wr.rowIs w.heap.size 217 32 f2 ∧ f2 0 = .int .i64 k2 ∧ ∀ q, q ≠ 0 → f2 q = f' q) (fun wr => secs.length - cellNat wr w.heap.size 0)
      case atStart => exact ⟨g.toNat, f', by omega, rfl, HB.out, HRO.out, by rw [E0.out]; congr 1; omega, fun _ _ => rfl⟩
      case round =>
        obtain ⟨k2, f2, hk2, hgo, B2, hr2, hf0, hfq⟩ := hrel
        have HGO := hide hgo
        have HFQ := hide hfq
        have HF0 := hide hf0
        have HB2 := hide B2
        have p0 := hr2.cell (i := 0) (by omega)
        rw [hf0] at p0
        have z0 := hr2.frozen 0
        have hcn : cellNat wr w.heap.size 0 = k2 := by simp [cellNat, p0, intOf]
        have HCN := hide hcn
        clear x1 x2
        have x1 := B2.cell HK1.out (by show w.heap.size + 1 ≠ w.heap.size; omega)
        have x2 := B2.cell HK2.out (by show w.heap.size + 1 + 1 ≠ w.heap.size; omega)
        have hbelow : ∀ m, Below w.heap.size w (wr.drewN m) := fun m => by
          have h1 : Below w.heap.size w wr := HBL.out.trans (HB2.out.below HBL.out.size fun x hx => by show x ≠ w.heap.size; omega)
          exact h1.trans ((below_dr4 _ m).mono h1.size)
        have HBW := hide hbelow
        obtain ⟨cs, hcs0⟩ : ∃ cs, cs = (usedC k2 (pad bd) b).toList := ⟨_, rfl⟩
        have hld : ∀ m, (wr.drewN m).rangeAt w.heap.size 0 cs := fun m => by
          rw [hcs0]
          exact used_range (rowIs_keep hr2 (below_dr4 _ m)) HPL.out hf0 ((hfq 31 (by omega)).trans E31.out) fun j x hx => (hfq (1 + j) (by omega)).trans (HBD.out j x hx)
        have hsz : (Tryz.prog.info? 217).map (·.size) = some cs.length := by rw [hcs0]; exact used_info HPL.out
        have HLD := hide hld
        have HSZ := hide hsz
        have hca : cs.toArray = usedC k2 (pad bd) b := by rw [hcs0, Array.toArray_toList]
        have HCA := hide hca
        clear hld hsz hcs0 hca
        clear hgo hfq hf0 hcn hbelow B2
        have hres : goneD occ secs bd g.toNat ≠ secs.length → goneD occ secs bd g.toNat = k2 → stV (passedD occ secs g l b) = .iface 217 (.agg cs.toArray) := fun h1 h2 => by
          unfold passedD
          rw [← HDE.out, if_neg h1, h2, HCA.out]
          rfl
        have HRES := hide hres
        clear hres
        by_cases hlt2 : k2 < secs.length
        · obtain h0 | ⟨bs, os, rfl, hPs, hcs⟩ := HS.out
          · omega
          obtain ⟨s, hs⟩ := lt_get' secs hlt2
          obtain ⟨hin0, hin1⟩ := HIN.out s (List.mem_of_getElem? hs)
          obtain h0 | ⟨bc, oc, rfl, hPc, hcc⟩ := HOC.out
          · omega
          obtain ⟨o, ho2⟩ : ∃ o, occ[s.toNat]? = some o := ⟨occ[s.toNat]'(by omega), List.getElem?_eq_getElem _⟩
          obtain ⟨y, hy⟩ := lt_get' bd (i := k2) (by rw [HBL2.out]; exact hlt2)
          have hyp : (pad bd)[k2]? = some y := by unfold pad; rw [List.getElem?_append_left (by rw [HBL2.out]; exact hlt2)]; exact hy
          have s0 := HB2.out.cell (ckb (hcs k2 hlt2 s hs) HBL.out) (by show bs ≠ w.heap.size; have : bs < w.heap.size := hPs; omega)
          have o0 := HB2.out.cell (ckb (hcc s.toNat (by omega) o ho2) HBL.out) (by show bc ≠ w.heap.size; have : bc < w.heap.size := hPc; omega)
          have gk := hr2.cell (i := 1 + k2) (by omega)
          rw [HFQ.out _ (by omega), HBD.out k2 y hyp] at gk
          have hk30 : (k2 : Int) < 30 := by omega
          have hks : (k2 : Int) < (secs.length : Int) := by omega
          have hle : (k2 : Int) ≤ (secs.length : Int) - 1 := by omega
          have hstop : okAt occ secs bd k2 = false → stV (passedD occ secs g l b) = .iface 217 (.agg cs.toArray) := fun hno => by
            have hgd : goneD occ secs bd g.toNat = k2 := HGO.out.trans (goneD_stop (by rw [HBL2.out]; exact hlt2) hno)
            exact HRES.out (by omega) hgd
          have hnext : okAt occ secs bd k2 = true → ∀ m : Nat, ∃ (k : Nat) (f3 : Nat → Value), k ≤ secs.length ∧ goneD occ secs bd g.toNat = goneD occ secs bd k ∧ But (fun c => c ≠ w.heap.size) W0 ((wr.drewN m).setCell ⟨w.heap.size, 0, none⟩ (.int .i64 ((k2 : Int) + 1))) ∧ ((wr.drewN m).setCell ⟨w.heap.size, 0, none⟩ (.int .i64 ((k2 : Int) + 1))).rowIs w.heap.size 217 32 f3 ∧ f3 0 = .int .i64 k ∧ ∀ q, q ≠ 0 → f3 q = f' q := fun hyes m =>
            ⟨k2 + 1, _, by omega, HGO.out.trans (goneD_step (by rw [HBL2.out]; exact hlt2) hyes), (HB2.out.call (below_dr4 _ _)).setCell (fun z => z rfl) _, (rowIs_keep hr2 (below_dr4 _ m)).set 0 _, by rw [if_pos rfl]; go_num, fun q hq => by rw [if_neg hq]; exact HFQ.out q hq⟩
          have HNX := hide hnext
          have HST := hide hstop
          have Hs := hide hs
          have Hoc := hide (occAt_get ho2)
          have Hy := hide hy
          have HR2' := hide hr2
          clear hnext hstop hs ho2 hy hcs hcc hyp hr2
          cases y
          · go_wp2
            go_quiet (fail)
            go_wp2_with (refine wpList_load_mid rfl 217 _ rfl w.heap.size 0 rfl cs _ (HLD.out _) Tryz.underlying217 rfl HSZ.out ?_)
            go_wp2
            go_ret
            exact ⟨by rw [HST.out (by rw [okAt_eq Hs.out Hy.out]; rfl)]; rfl, HBW.out _⟩
          · cases o
            · by_cases hl3 : k2 + 1 < secs.length
              · obtain ⟨z, hz⟩ := lt_get' bd (i := k2 + 1) (by rw [HBL2.out]; exact hl3)
                have hzp : (pad bd)[k2 + 1]? = some z := by unfold pad; rw [List.getElem?_append_left (by rw [HBL2.out]; exact hl3)]; exact hz
                have gz := HR2'.out.cell (i := 1 + (k2 + 1)) (by omega)
                rw [HFQ.out _ (by omega), HBD.out _ z hzp] at gz
                have Hz := hide hz
                have hl4 : ((k2 : Int) == (secs.length : Int) - 1) = false := by simp; omega
                have hl5 : (k2 : Int) + 1 < 30 := by omega
                clear hz hzp
                cases z
                · go_wp2
                  go_quiet (fail)
                  go_wp2_with (refine wpList_load_mid rfl 217 _ rfl w.heap.size 0 rfl cs _ (HLD.out _) Tryz.underlying217 rfl HSZ.out ?_)
                  go_wp2
                  go_ret
                  exact ⟨by rw [HST.out (by rw [okAt_next Hs.out Hy.out Hz.out, Hoc.out]; rfl)]; rfl, HBW.out _⟩
                · go_wp2
                  go_quiet (fail)
                  go_wp2
                  go_roundw
                  case rel => exact HNX.out (by rw [okAt_next Hs.out Hy.out Hz.out, Hoc.out]; rfl) _
                  case measure => rw [HCN.out, used_nat HR2'.out]; omega
              · have hl4 : ((k2 : Int) == (secs.length : Int) - 1) = true := by simp; omega
                go_wp2
                go_quiet (fail)
                go_wp2
                go_roundw
                case rel => exact HNX.out (by rw [okAt_last Hs.out Hy.out (by rw [HBL2.out]; omega), Hoc.out]; rfl) _
                case measure => rw [HCN.out, used_nat HR2'.out]; omega
            · go_wp2
              go_quiet (fail)
              go_wp2_with (refine wpList_load_mid rfl 217 _ rfl w.heap.size 0 rfl cs _ (HLD.out _) Tryz.underlying217 rfl HSZ.out ?_)
              go_wp2
              go_ret
              exact ⟨by rw [HST.out (by rw [okAt_eq Hs.out Hy.out, Hoc.out]; rfl)]; rfl, HBW.out _⟩
        · have hidle : stV (passedD occ secs g l b) = stV .idle := by
            have hgd : goneD occ secs bd g.toNat = secs.length := (HGO.out.trans (goneD_end (by rw [HBL2.out]; omega))).trans (by omega)
            unfold passedD
            rw [← HDE.out, if_pos hgd]
          have HID := hide hidle
          have hnle : decide ((k2 : Int) ≤ (secs.length : Int) - 1) = false := by simp; omega
          have hgt : (secs.length : Int) - 1 < (k2 : Int) := by omega
          clear hidle
          go_wp2
          go_quiet (fail)
          go_wp2
          go_ret
          exact ⟨by rw [HID.out]; rfl, HBW.out _⟩
end Go.Proofs.YtdhinkgjiapigabGreatDoor

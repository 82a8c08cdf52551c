import Derived.Test.YtdhinkgjiapigabGreatDoorFrI5
import Derived.Laws.IdiomCopy
namespace Go.Proofs.YtdhinkgjiapigabGreatDoor
open Go.RowKit Go.Deep
open Classical

theorem used_copied {W : World} {u t : Nat} {f : Nat → Value} {g : Int} {l : List Bool} {b : Bool} (hr : W.rowIs u t 32 f) (hl : l.length ≤ 30) (h0 : f 0 = .int .i64 g) (h1 : f 31 = .bool b) (h2 : ∀ j, j < 30 → f (1 + j) = .bool false) :
    (W.setCells u 1 (l.map Value.bool)).rangeAt u 0 (usedC g (pad l) b).toList := by
  intro j v hv
  have hpl := pad_length hl
  have hj : j < 32 := by have := (List.getElem?_eq_some_iff.1 hv).1; rw [Array.length_toList, usedC_size hpl] at this; exact this
  rw [usedC_list] at hv
  rw [Nat.zero_add]
  rcases j with _ | j
  · rw [World.cell?_setCells_out u _ 1 W ⟨u, 0, none⟩ fun _ _ => .inl (by show 0 < 1; omega), hr.cell (by omega), h0]
    exact hv
  · rw [List.getElem?_cons_succ] at hv
    by_cases e : j < l.length
    · rw [show j + 1 = 1 + j by omega, World.cell?_setCells_in u (l.map Value.bool) 1 W (fun i hi => by rw [hr.cell (by simp at hi; omega)]; rfl) j (by simpa using e)]
      rw [List.getElem?_append_left (by simp; omega), List.getElem?_map] at hv
      unfold pad at hv
      rw [List.getElem?_append_left e, List.getElem?_eq_getElem e] at hv
      simpa using hv
    · rw [World.cell?_setCells_out u _ 1 W ⟨u, j + 1, none⟩ fun _ _ => .inr (by simp; omega), hr.cell (by omega)]
      by_cases e2 : j < 30
      · rw [List.getElem?_append_left (by simp; omega), List.getElem?_map] at hv
        unfold pad at hv
        rw [List.getElem?_append_right (by omega), List.getElem?_replicate, if_pos (by omega)] at hv
        rw [show j + 1 = 1 + j by omega, h2 j e2]
        exact hv
      · obtain rfl : j = 30 := by omega
        rw [List.getElem?_append_right (by simp; omega)] at hv
        simp [hpl] at hv
        rw [h1, hv]

theorem rowIs_setCells {u t n : Nat} : ∀ (vs : List Value) (o : Nat) {W : World} {f : Nat → Value}, W.rowIs u t n f → ∃ f', (W.setCells u o vs).rowIs u t n f' ∧ (∀ (j : Nat) v, vs[j]? = some v → f' (o + j) = v) ∧ ∀ q, q < o ∨ o + vs.length ≤ q → f' q = f q
  | [], _, _, f, h => ⟨f, h, fun j v hv => by simp at hv, fun _ _ => rfl⟩
  | v :: r, o, W, f, h => by
    obtain ⟨f', h1, h2, h3⟩ := rowIs_setCells r (o + 1) (h.set o v)
    refine ⟨f', h1, fun j x hx => ?_, fun q hq => ?_⟩
    · rcases j with _ | j
      · cases hx
        rw [Nat.add_zero, h3 o (.inl (by omega)), if_pos rfl]
      · rw [List.getElem?_cons_succ] at hx
        rw [show o + (j + 1) = o + 1 + j by omega]
        exact h2 j x hx
    · rw [h3 q (by simp at hq; omega), if_neg (by simp at hq; omega)]
/-- What standingOf hands back. -/
def stVo : Option StD → Value
  | some s => stV s
  | none => .nilIface

theorem standing_box {w : World} {c : Array Value} {t : TypeId} {Z cs : Array Value} (hZ : Z.size = 32) : Boxes w [(t, c)] (((w.alloc (.cells c t)).alloc (.cells Z 217)).setCells (w.heap.size + 1) 0 cs.toList) ∧ ∃ f, (((w.alloc (.cells c t)).alloc (.cells Z 217)).setCells (w.heap.size + 1) 0 cs.toList).rowIs (w.heap.size + 1) 217 32 f ∧ ∀ (j : Nat) v, cs.toList[j]? = some v → f (0 + j) = v := by
  have T := boxes1 w t c
  have hs : (w.alloc (.cells c t)).heap.size = w.heap.size + 1 := by simp
  have hr := rowIs_new (w.alloc (.cells c t)) 217 Z
  rw [hs, hZ] at hr
  obtain ⟨f, h1, h2, -⟩ := rowIs_setCells cs.toList 0 hr
  refine ⟨T.call ?_, f, h1, h2⟩
  rw [hs]
  exact below_setCells (Nat.le_refl _) _ _ _ (by have := below_new (w.alloc (.cells c t)) (.cells Z 217); rwa [hs] at this)

set_option maxRecDepth 100000 in
set_option maxHeartbeats 8000000 in
theorem standingOf_any (h : HeldD) (v2 : Value) (w : World) (hb : Bools (In w) w v2 h.been) (hl : h.been.length ≤ 30) (hl1 : 1 ≤ h.been.length) :
    Calls Tryz.prog 178 #[.agg #[.int .i64 h.state, .int .i64 h.gone, v2, .bool h.shown, .int .i64 h.timer]] w fun e w' => e = .returned (stVo (stOf h)) ∧ Below w.heap.size w w' := by
  obtain ⟨state, gone, been, shown, timer⟩ := h
  simp only at hb hl hl1 ⊢
  have T0 := boxes1 w 93 #[.int .i64 state, .int .i64 gone, v2, .bool shown, .int .i64 timer]
  obtain ⟨a2, c2, rfl, hc⟩ := hb
  by_cases e0 : state = 0
  · subst e0
    clear hc
    go_enter Tryz.func178, Tryz.ntmps178
    go_wp2
    go_ret
    exact ⟨rfl, T0.below⟩
  by_cases e1 : state = 1
  · subst e1
    clear hc e0
    go_enter Tryz.func178, Tryz.ntmps178
    go_wp2
    go_ret
    exact ⟨rfl, T0.below⟩
  by_cases e2 : state = 2
  · subst e2
    clear hc e0 e1
    go_enter Tryz.func178, Tryz.ntmps178
    go_wp2
    go_ret
    exact ⟨rfl, T0.below⟩
  by_cases e3 : state = 3
  · subst e3
    clear hc e0 e1 e2
    go_enter Tryz.func178, Tryz.ntmps178
    go_wp2
    go_ret
    exact ⟨rfl, T0.below⟩
  by_cases e4 : state = 4
  · subst e4
    clear e0 e1 e2 e3
    obtain hz | ⟨bb, ob, rfl, hbb, hcb⟩ := hc
    · omega
    have hca0 : stVo (stOf ⟨4, gone, been, shown, timer⟩) = .iface 217 (.agg (usedC gone (pad been) shown)) := rfl
    rw [hca0]
    clear hca0
    have HCB := hide hcb
    clear hcb T0
    go_enter Tryz.func178, Tryz.ntmps178
    have hth : ∀ Z : Array Value, Z.size = 32 → ((w.alloc (.cells #[.int .i64 4, .int .i64 gone, .slice (some ⟨bb, ob, none⟩) been.length c2, .bool shown, .int .i64 timer] 93)).alloc (.cells Z 217)).there (w.heap.size + 1) 0 (usedC gone (List.replicate 30 false) shown).size := fun Z hZ => by
      rw [usedC_size (by rw [List.length_replicate])]
      have := used_there (W := w.alloc (.cells #[.int .i64 4, .int .i64 gone, .slice (some ⟨bb, ob, none⟩) been.length c2, .bool shown, .int .i64 timer] 93)) (t := 217) hZ
      rwa [show (w.alloc (.cells #[.int .i64 4, .int .i64 gone, .slice (some ⟨bb, ob, none⟩) been.length c2, .bool shown, .int .i64 timer] 93)).heap.size = w.heap.size + 1 by simp] at this
    have hsz0 : (Tryz.prog.info? 217).map (·.size) = some (usedC gone (List.replicate 30 false) shown).size := by rw [usedC_size (by rw [List.length_replicate])]; exact Tryz.usedSize
    have HTH := hide hth
    have HSZ0 := hide hsz0
    clear hth hsz0
    go_wp2_with (refine wpList_store_mid rfl 217 _ _ rfl (w.heap.size + 1) 0 (usedC gone (List.replicate 30 false) shown) rfl rfl (HTH.out _ rfl) HSZ0.out usedC_one ?_)
    generalize hG : World.setCells (World.alloc (World.alloc w _) _) (w.heap.size + 1) 0 _ = W1
    have T1 : Boxes w [(93, #[.int .i64 4, .int .i64 gone, .slice (some ⟨bb, ob, none⟩) been.length c2, .bool shown, .int .i64 timer])] W1 ∧ ∃ f, W1.rowIs (w.heap.size + 1) 217 32 f ∧ ∀ (j : Nat) v, (usedC gone (List.replicate 30 false) shown).toList[j]? = some v → f (0 + j) = v := by
      rw [← hG]
      exact standing_box rfl
    obtain ⟨T1, ff, hrw', hff⟩ := T1
    clear hG
    have hrw := rowIs_keep hrw' (below_drew _)
    have ff0 : ff 0 = .int .i64 gone := hff 0 _ (by rw [usedC_list]; rfl)
    have ff2 : ∀ (j : Nat), j < 30 → ff (1 + j) = .bool false := fun j hj => by
      have := hff (1 + j) (.bool false) (by rw [usedC_list, Nat.add_comm, List.getElem?_cons_succ, List.getElem?_append_left (by simpa using hj), List.getElem?_map, List.getElem?_replicate, if_pos hj]; rfl)
      rwa [Nat.zero_add] at this
    have ff1 : ff 31 = .bool shown := hff 31 _ (by rw [usedC_list, List.getElem?_cons_succ, List.getElem?_append_right (by rw [List.length_map, List.length_replicate]; omega), List.length_map, List.length_replicate]; rfl)
    clear hff hrw' HTH HSZ0
    obtain ⟨vs, hvs⟩ : ∃ vs, vs = been.map Value.bool := ⟨_, rfl⟩
    have hcp : ∀ ty, (Builtin.copy_ #[27, 27] ty #[.slice (some ⟨w.heap.size + 1, 1, none⟩) 30 30, .slice (some ⟨bb, ob, none⟩) been.length c2]).run Tryz.prog W1.drew = .ok (goInt vs.length) (W1.drew.setCells (w.heap.size + 1) 1 vs) := fun ty =>
      run_copy_cells (P := Tryz.prog) _ 27 27 ty 4 (w.heap.size + 1) 1 30 30 ⟨bb, ob, none⟩ been.length c2 vs Tryz.underlying27 (by kernel_rfl) (by rw [hvs, List.length_map]; show been.length = min been.length 30; omega)
        (fun j v hv => by
          rw [hvs, List.getElem?_map] at hv
          obtain ⟨y, hy⟩ : ∃ y, been[j]? = some y := by
            cases hh : been[j]? with
            | none => rw [hh] at hv; cases hv
            | some y => exact ⟨y, rfl⟩
          rw [hy] at hv
          cases hv
          rw [Addr.add_mid]
          exact ckb (HCB.out j (List.getElem?_eq_some_iff.1 hy).1 y hy) (T1.call (below_drew _)).below)
        (fun j hj => by rw [hrw.cell (by rw [hvs, List.length_map] at hj; omega)]; rfl) (fun j _ => hrw.frozen _)
        (fun v hv => by rw [hvs] at hv; obtain ⟨y, -, rfl⟩ := List.mem_map.1 hv; rfl)
    have hfin : Below w.heap.size w (W1.drew.setCells (w.heap.size + 1) 1 vs) ∧ (W1.drew.setCells (w.heap.size + 1) 1 vs).rangeAt (w.heap.size + 1) 0 (usedC gone (pad been) shown).toList :=
      ⟨below_setCells (by omega) _ _ _ (T1.call (below_drew _)).below, by rw [hvs]; exact used_copied hrw hl ff0 ff1 ff2⟩
    obtain ⟨cs, hcs0⟩ : ∃ cs, cs = (usedC gone (pad been) shown).toList := ⟨_, rfl⟩
    have hsz : (Tryz.prog.info? 217).map (·.size) = some cs.length := by rw [hcs0]; exact used_info (pad_length hl)
    have hca : cs.toArray = usedC gone (pad been) shown := by rw [hcs0, Array.toArray_toList]
    rw [← hcs0] at hfin
    have HFIN := hide hfin
    have HSZ := hide hsz
    have HCA := hide hca
    have k2 := T1.cell (j := 0) (i := 2) rfl rfl
    rw [Nat.add_zero] at k2
    clear hfin hsz hca hcs0 hrw ff0 ff1 ff2 hvs T1
    go_wp2
    go_region
    go_wp2_with (refine wpList_load_mid rfl 217 _ rfl (w.heap.size + 1) 0 rfl cs _ HFIN.out.2 Tryz.underlying217 rfl HSZ.out ?_)
    go_wp2
    go_ret
    exact ⟨by rw [← HCA.out]; rfl, HFIN.out.1⟩
  · have k0 : (state == 0) = false := by simpa using e0
    have k1 : (state == 1) = false := by simpa using e1
    have k2 : (state == 2) = false := by simpa using e2
    have k3 : (state == 3) = false := by simpa using e3
    have k4 : (state == 4) = false := by simpa using e4
    have hst : stOf ⟨state, gone, been, shown, timer⟩ = none := by unfold stOf; rw [if_neg e0, if_neg e1, if_neg e2, if_neg e3, if_neg e4]
    rw [hst]
    clear hc e0 e1 e2 e3 e4 hst
    go_enter Tryz.func178, Tryz.ntmps178
    go_wp2
    go_ret
    exact ⟨rfl, T0.below⟩
end Go.Proofs.YtdhinkgjiapigabGreatDoor

namespace Go.Proofs.YtdhinkgjiapigabGreatDoor
open Go.RowKit Go.Deep
open Classical

set_option maxHeartbeats 1000000 in
theorem indexFalse_any (v : Value) (l : List Bool) (w : World) (hv : Bools (In w) w v l) (hl : l.length ≤ 1048576) :
    Calls Tryz.prog 300 #[v, .bool false] w fun e w' => ∃ r : Int, e = .returned (.int .i64 r) ∧ decide (0 ≤ r) = !(l.all id) ∧ w' = w := by
  obtain ⟨a, cap, rfl, hc⟩ := hv
  have HC := hide hc
  clear hc
  go_enter Tryz.func300, Tryz.ntmps300
  go_wp2
  go_loop [8] (fun z => ∃ (q : Nat), q ≤ l.length ∧ z = .int .i64 q ∧ (l.take q).all id = true) (fun z => l.length - (intOf z).toNat)
  case atStart => exact ⟨0, Nat.zero_le _, rfl, by simp⟩
  case round =>
    obtain ⟨q, hq, rfl, hall⟩ := hrel
    have HA := hide hall
    clear hall
    by_cases hql : q < l.length
    · obtain h0 | ⟨b, off, rfl, hb0, hc⟩ := HC.out
      · omega
      obtain ⟨y, hy⟩ := lt_get' l hql
      have g0 := hc q hql y hy
      have Hy := hide hy
      clear hy hc
      cases y
      · go_wp2
        go_ret
        exact ⟨q, rfl, by rw [all_no Hy.out (by rfl)]; simp, rfl⟩
      · go_wp2
        go_round
        case rel => exact ⟨q + 1, by omega, by go_num, all_snoc HA.out Hy.out rfl⟩
        case measure => simp [intOf]; omega
    · go_wp2
      go_ret
      exact ⟨-1, rfl, by rw [all_end HA.out (by omega)]; rfl, rfl⟩

set_option maxHeartbeats 1000000 in
theorem containsFalse_any (v : Value) (l : List Bool) (w : World) (hv : Bools (In w) w v l) (hl : l.length ≤ 1048576) :
    Calls Tryz.prog 299 #[v, .bool false] w fun e w' => e = .returned (.bool (!(l.all id))) ∧ w' = w := by
  have hi := indexFalse_any v l w hv hl
  obtain ⟨a, cap, rfl, -⟩ := hv
  go_enter Tryz.func299, Tryz.ntmps299
  go_wp2_with fail
  refine hi.mono ?_
  rintro e w1 ⟨r, rfl, hr, rfl⟩
  have HR := hide hr
  clear hi hr
  go_wp2
  go_ret
  exact ⟨ret_bool (by rw [← HR.out]), rfl⟩

set_option maxHeartbeats 2000000 in
theorem equalB_any (v u : Value) (l r : List Bool) (w : World) (hv : Bools (In w) w v l) (hu : Bools (In w) w u r) (hl : l.length ≤ 1048576) (_hr : r.length ≤ 1048576) :
    Calls Tryz.prog 179 #[v, u] w fun e w' => e = .returned (.bool (B (l = r))) ∧ Below w.heap.size w w' := by
  obtain ⟨a, cap, rfl, hc⟩ := hv
  obtain ⟨a', cap', rfl, hc'⟩ := hu
  have HC := hide hc
  have HC' := hide hc'
  clear hc hc'
  by_cases hne : l.length = r.length
  case neg =>
    have h1 : ((l.length : Int) != (r.length : Int)) = true := by simp; omega
    have HN := hide hne
    clear hne
    go_enter Tryz.func179, Tryz.ntmps179
    go_wp2
    go_ret
    exact ⟨ret_bool (B_false fun e => HN.out (by rw [e])).symm, Below.refl _ _⟩
  have h1 : ((l.length : Int) != (r.length : Int)) = false := by simp; omega
  have HN := hide hne
  clear hne
  go_enter Tryz.func179, Tryz.ntmps179
  go_wp2
  go_loopw [13] (fun z wr => ∃ (q : Nat), q ≤ l.length ∧ z = .int .i64 q ∧ (∀ j, j < q → l[j]? = r[j]?) ∧ Below w.heap.size w wr) (fun z _ => l.length - (intOf z).toNat)
  case atStart => exact ⟨0, Nat.zero_le _, rfl, fun j hj => by omega, Below.refl _ _⟩
  case round =>
    obtain ⟨q, hq, rfl, hall, hbw⟩ := hrel
    have HA := hide hall
    have HBW := hide hbw
    clear hall hbw
    by_cases hql : q < l.length
    · obtain h0 | ⟨b, off, rfl, hb0, hc⟩ := HC.out
      · omega
      obtain h0 | ⟨b', off', rfl, hb0', hc'⟩ := HC'.out
      · have := HN.out; omega
      obtain ⟨y, hy⟩ := lt_get' l hql
      obtain ⟨y', hy'⟩ := lt_get' r (i := q) (by have := HN.out; omega)
      have g0 := ckb (hc q hql y hy) HBW.out
      have g1 := ckb (hc' q (by have := HN.out; omega) y' hy') HBW.out
      have hql' : (q : Int) < (r.length : Int) := by have := HN.out; omega
      have Hy := hide hy
      have Hy' := hide hy'
      clear hy hc hy' hc'
      have hstop : y ≠ y' → B (l = r) = false := fun hn => B_false fun e => hn (by have h1 := Hy.out; rw [e, Hy'.out] at h1; exact (Option.some.inj h1).symm)
      have hnx : y = y' → ∀ j, j < q + 1 → l[j]? = r[j]? := fun e j hj => by
        by_cases ej : j = q
        · subst ej; rw [Hy.out, Hy'.out, e]
        · exact HA.out j (by omega)
      have HST := hide hstop
      have HNX := hide hnx
      clear hstop hnx
      cases y <;> cases y'
      · go_wp2
        go_quiet (fail)
        go_wp2
        go_roundw
        case rel => exact ⟨q + 1, by omega, by go_num, HNX.out (by first | rfl | trivial), HBW.out.trans ((below_draws _ _).mono HBW.out.size)⟩
        case measure => simp [intOf]; omega
      · go_wp2
        go_quiet (fail)
        go_wp2
        go_ret
        exact ⟨ret_bool (HST.out (by decide)).symm, HBW.out.trans ((below_draws _ _).mono HBW.out.size)⟩
      · go_wp2
        go_quiet (fail)
        go_wp2
        go_ret
        exact ⟨ret_bool (HST.out (by decide)).symm, HBW.out.trans ((below_draws _ _).mono HBW.out.size)⟩
      · go_wp2
        go_quiet (fail)
        go_wp2
        go_roundw
        case rel => exact ⟨q + 1, by omega, by go_num, HNX.out (by first | rfl | trivial), HBW.out.trans ((below_draws _ _).mono HBW.out.size)⟩
        case measure => simp [intOf]; omega
    · go_wp2
      go_ret
      refine ⟨ret_bool (B_true ?_).symm, HBW.out⟩
      apply List.ext_getElem?
      intro j
      by_cases hj : j < l.length
      · exact HA.out j (by omega)
      · rw [List.getElem?_eq_none (by omega), List.getElem?_eq_none (by have := HN.out; omega)]
end Go.Proofs.YtdhinkgjiapigabGreatDoor

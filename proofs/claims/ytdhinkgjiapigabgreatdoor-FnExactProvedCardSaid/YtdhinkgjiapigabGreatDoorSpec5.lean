import Derived.Test.YtdhinkgjiapigabGreatDoorSpec4
import Derived.Test.YtdhinkgjiapigabGreatDoorToA
import Derived.Test.YtdhinkgjiapigabGreatDoorBase
namespace Go.Proofs.YtdhinkgjiapigabGreatDoor
open Go.RowKit Go.Deep

theorem ckb {W W' : World} {b o : Nat} {v : Value} (h : W.cell? ⟨b, o, none⟩ = some v) (hb : Below W.heap.size W W') : W'.cell? ⟨b, o, none⟩ = some v :=
  (hb.cell (p := ⟨b, o, none⟩) (World.block_lt_of_cell? _ _ h)).trans h

set_option maxRecDepth 100000 in
set_option maxHeartbeats 2000000 in
theorem l2proved_any (n hd ok : Value) (p1 p2 p3 f1 f2 f3 : Value) (ways : List WayD) (f : FrameD) (i : Nat) (x : WayD) (w : World) (hp : Ways (In w) w p2 ways) (hf1 : Bools (In w) w f1 f.occ) (hf2 : Lies (In w) w f2 f.points)
    (hi : ways[i]? = some x) (_hw : ways.length ≤ 100) (hs : x.Small 30)
    (hl : ∀ y, (y ∈ x.lies ∨ y ∈ x.flanks) → 0 ≤ y.1 ∧ y.1 < f.points.length) (hc : ∀ s, (s ∈ x.sections ∨ s ∈ x.over) → 0 ≤ s ∧ s < f.occ.length) (_hz : f.points.length ≤ 1048576 ∧ f.occ.length ≤ 1048576) :
    Calls Tryz.prog 106 #[.agg #[n, p1, p2, p3, hd], .agg #[ok, f1, f2, f3], .int .i64 i] w fun e w' => e = .returned (.bool (provedB f.occ f.points x)) ∧ Below w.heap.size w w' := by
  obtain ⟨ap, cp, rfl, hcp⟩ := hp
  have hil : i < ways.length := (List.getElem?_eq_some_iff.1 hi).1
  obtain h0 | ⟨b, off, rfl, hb0, hcw⟩ := hcp
  · omega
  obtain ⟨v0, v1, v2, v3, v4, hx, g0, g1, g2, g3, g4⟩ := hcw i hil x hi
  obtain ⟨hx0, hx1, hx2, hx3, hx4⟩ := hx
  obtain ⟨a1, c1, rfl, q1⟩ := hf1
  obtain ⟨a2, c2, rfl, q2⟩ := hf2
  have HQ1 := hide q1
  have HQ2 := hide q2
  have HL := hide hl
  have HCC := hide hc
  have HSX := hide hs
  have T0 := boxes3 w 37 42 122 #[n, p1, .slice (some ⟨b, off, none⟩) ways.length cp, p3, hd] #[ok, .slice a1 f.occ.length c1, .slice a2 f.points.length c2, f3] #[v0, v1, v2, v3, v4]
  obtain ⟨b0, k0, rfl, -⟩ := id hx0
  obtain ⟨b1, k1, rfl, -⟩ := id hx1
  obtain ⟨b2, k2, rfl, -⟩ := id hx2
  obtain ⟨b3, k3, rfl, -⟩ := id hx3
  obtain ⟨b4, k4, rfl, -⟩ := hx4
  have hil' : (i : Int) < (ways.length : Int) := by omega
  have hbl : b < w.heap.size := hb0
  clear q1 q2 hl hc hs hcw
  go_enter Tryz.func106, Tryz.ntmps106
  go_wp2
  have T1 := T0.call (below_new _ (.cells #[.slice b1 x.lies.length k1, .slice b2 x.flanks.length k2] 120))
  clear T0 g0 g1 g2 g3 g4
  go_loopw [27] (fun z wr => ∃ (k : Nat), k ≤ 2 ∧ z = .int .i64 k ∧ (∀ j l, j < k → [x.lies, x.flanks][j]? = some l → l.all (lieB f.points) = true) ∧ Boxes w [(37, #[n, p1, .slice (some ⟨b, off, none⟩) ways.length cp, p3, hd]), (42, #[ok, .slice a1 f.occ.length c1, .slice a2 f.points.length c2, f3]), (122, #[.slice b0 x.sections.length k0, .slice b1 x.lies.length k1, .slice b2 x.flanks.length k2, .slice b3 x.over.length k3, .slice b4 x.near.length k4])] wr ∧
      wr.cell? ⟨w.heap.size + 1 + 1 + 1, 0, none⟩ = some (.slice b1 x.lies.length k1) ∧ wr.cell? ⟨w.heap.size + 1 + 1 + 1, 1, none⟩ = some (.slice b2 x.flanks.length k2)) (fun z _ => 2 - (intOf z).toNat)
  case atStart => exact ⟨0, by omega, rfl, fun j l hj => by omega, T1, by rw [World.cell?_alloc_at _ _ _ _ (by simp)]; rfl, by rw [World.cell?_alloc_at _ _ _ _ (by simp)]; rfl⟩
  case round =>
    obtain ⟨k, hk, rfl, hok, T2, l0, l1⟩ := hrel
    rename World => wo
    have HO := hide hok
    clear hok T1
    by_cases hk2 : k < 2
    · obtain ⟨lk, ak, ck, hlk, hll, hcell, hmem⟩ : ∃ (lk : List (Int × Int)) (ak : Option Addr) (ck : Nat), [x.lies, x.flanks][k]? = some lk ∧ Lies (In w) w (.slice ak lk.length ck) lk ∧ wo.cell? ⟨w.heap.size + 1 + 1 + 1, k, none⟩ = some (.slice ak lk.length ck) ∧ ∀ y ∈ lk, 0 ≤ y.1 ∧ y.1 < f.points.length := by
        rcases k with _ | _ | k
        · exact ⟨x.lies, b1, k1, rfl, hx1, l0, fun y hy => HL.out y (.inl hy)⟩
        · exact ⟨x.flanks, b2, k2, rfl, hx2, l1, fun y hy => HL.out y (.inr hy)⟩
        · omega
      have hlen : lk.length ≤ 30 := by
        rcases k with _ | _ | k
        · cases hlk; exact HSX.out.2.1
        · cases hlk; exact HSX.out.2.2.1
        · omega
      have HLK := hide hlk
      have HM := hide hmem
      obtain ⟨a', c', hv', hcl⟩ := hll
      cases hv'
      have HCL := hide hcl
      have L0 := hide l0
      have L1 := hide l1
      clear hlk hmem hcl l0 l1
      go_wp2
      clear hcell
      go_loopw [33] (fun z wr => ∃ (q : Nat), q ≤ lk.length ∧ z = .int .i64 q ∧ (lk.take q).all (lieB f.points) = true ∧ Boxes w [(37, #[n, p1, .slice (some ⟨b, off, none⟩) ways.length cp, p3, hd]), (42, #[ok, .slice a1 f.occ.length c1, .slice a2 f.points.length c2, f3]), (122, #[.slice b0 x.sections.length k0, .slice b1 x.lies.length k1, .slice b2 x.flanks.length k2, .slice b3 x.over.length k3, .slice b4 x.near.length k4])] wr ∧ Below wo.heap.size wo wr) (fun z _ => lk.length - (intOf z).toNat)
      case atStart => exact ⟨0, Nat.zero_le _, rfl, by simp, T2, Below.refl _ _⟩
      case round =>
        obtain ⟨q, hq, rfl, hall, T3, hbo⟩ := hrel
        have HA := hide hall
        clear hall
        by_cases hql : q < lk.length
        · obtain h0 | ⟨bl, ol, rfl, hbl2, hc⟩ := HCL.out
          · omega
          obtain ⟨y, hy⟩ := get_some lk (hide rfl) hql
          obtain ⟨g0, g1⟩ := hc q hql y hy
          rw [← T3.below.cell (p := ⟨bl, _, none⟩) hbl2] at g0 g1
          obtain ⟨hy0, hy1⟩ := HM.out y (List.mem_of_getElem? hy)
          obtain h0 | ⟨bp, op, rfl, hbp, hcp⟩ := HQ2.out
          · omega
          obtain ⟨pt, hpt⟩ : ∃ pt, f.points[y.1.toNat]? = some pt := ⟨f.points[y.1.toNat]'(by omega), List.getElem?_eq_getElem _⟩
          obtain ⟨j0, j1⟩ := hcp y.1.toNat (by omega) pt hpt
          have T4 := T3.call (below_new _ (.cells #[.int .i64 y.1, .int .i64 y.2] 175))
          rw [← T4.below.cell (p := ⟨bp, _, none⟩) hbp] at j0 j1
          have m0 : (wr.alloc (.cells #[.int .i64 y.1, .int .i64 y.2] 175)).cell? ⟨wr.heap.size, 0, none⟩ = some (.int .i64 y.1) := by simp
          have m1 : (wr.alloc (.cells #[.int .i64 y.1, .int .i64 y.2] 175)).cell? ⟨wr.heap.size, 1, none⟩ = some (.int .i64 y.2) := by simp
          have fr : (wr.alloc (.cells #[.int .i64 y.1, .int .i64 y.2] 175)).cell? ⟨w.heap.size + 1, 2, none⟩ = some (.slice (some ⟨bp, op, none⟩) f.points.length c2) := T4.cell (j := 1) (i := 2) rfl rfl
          have hlb : lieB f.points y = (pt.1 == y.2 && pt.2 == y.2) := by unfold lieB; rw [hpt]
          have HLB := hide hlb
          have Hy := hide hy
          have hbo4 := hbo.alloc hbo.size (.cells #[.int .i64 y.1, .int .i64 y.2] 175)
          have HBO := hide hbo4
          clear hy hc hcp hpt hlb hbo hbo4
          by_cases e0 : pt.1 = y.2
          · by_cases e1 : pt.2 = y.2
            · have t0 : (pt.1 != y.2) = false := by simp [e0]
              have t1 : (pt.2 != y.2) = false := by simp [e1]
              have E := hide (And.intro e0 e1)
              clear e0 e1
              go_wp2
              go_quiet (fail)
              go_wp2
              go_roundw
              case rel => exact ⟨q + 1, by omega, by go_num, all_snoc HA.out Hy.out (by rw [HLB.out, E.out.1, E.out.2]; simp), T4.call (below_dr4 _ _), below_drewN HBO.out _⟩
              case measure => simp [intOf]; omega
            · have t0 : (pt.1 != y.2) = false := by simp [e0]
              have t1 : (pt.2 != y.2) = true := by simp [e1]
              have E := hide e1
              clear e0 e1
              go_wp2
              go_quiet (fail)
              go_wp2
              go_ret
              refine ⟨ret_bool ?_, (T4.call (below_dr4 _ _)).below⟩
              exact (proved_no1 HLK.out (all_no Hy.out (by rw [HLB.out]; simp [E.out]))).symm
          · have t0 : (pt.1 != y.2) = true := by simp [e0]
            have E := hide e0
            clear e0
            go_wp2
            go_quiet (fail)
            go_wp2
            go_ret
            refine ⟨ret_bool ?_, (T4.call (below_dr4 _ _)).below⟩
            exact (proved_no1 HLK.out (all_no Hy.out (by rw [HLB.out]; simp [E.out]))).symm
        · have hfin := all_end HA.out (by omega)
          have HFI := hide hfin
          clear hfin
          go_wp2
          go_roundw
          case rel => exact ⟨k + 1, by omega, by go_num, fun j l hj hjl => by
            by_cases e : j = k
            · subst e; rw [HLK.out] at hjl; cases hjl; exact HFI.out
            · exact HO.out j l (by omega) hjl, T3, ckb L0.out hbo, ckb L1.out hbo⟩
          case measure => simp [intOf]; omega
    · have w0 : wo.cell? ⟨w.heap.size + 1 + 1, 0, none⟩ = some (.slice b0 x.sections.length k0) := T2.cell (j := 2) (i := 0) rfl rfl
      have w3 : wo.cell? ⟨w.heap.size + 1 + 1, 3, none⟩ = some (.slice b3 x.over.length k3) := T2.cell (j := 2) (i := 3) rfl rfl
      have N1 : Hid (∀ j l, j < 2 → [x.lies, x.flanks][j]? = some l → l.all (lieB f.points) = true) := fun j l hj => HO.out j l (by omega)
      clear HO l0 l1
      go_wp2
      have T3 := T2.call (below_new _ (.cells #[.slice b0 x.sections.length k0, .slice b3 x.over.length k3] 22))
      clear T2 w0 w3
      go_loopw [67] (fun z wr => ∃ (k : Nat), k ≤ 2 ∧ z = .int .i64 k ∧ (∀ j l, j < k → [x.sections, x.over][j]? = some l → l.all (freeB f.occ) = true) ∧ Boxes w [(37, #[n, p1, .slice (some ⟨b, off, none⟩) ways.length cp, p3, hd]), (42, #[ok, .slice a1 f.occ.length c1, .slice a2 f.points.length c2, f3]), (122, #[.slice b0 x.sections.length k0, .slice b1 x.lies.length k1, .slice b2 x.flanks.length k2, .slice b3 x.over.length k3, .slice b4 x.near.length k4])] wr ∧
          wr.cell? ⟨wo.heap.size, 0, none⟩ = some (.slice b0 x.sections.length k0) ∧ wr.cell? ⟨wo.heap.size, 1, none⟩ = some (.slice b3 x.over.length k3)) (fun z _ => 2 - (intOf z).toNat)
      case atStart => exact ⟨0, by omega, rfl, fun j l hj => by omega, T3, by simp, by simp⟩
      case round =>
        obtain ⟨k5, hk5, rfl, hok, T4, l0, l1⟩ := hrel
        rename World => wp
        have HO := hide hok
        clear hok T3
        by_cases hk6 : k5 < 2
        · obtain ⟨lk, ak, ck, hlk, hll, hcell, hmem⟩ : ∃ (lk : List Int) (ak : Option Addr) (ck : Nat), [x.sections, x.over][k5]? = some lk ∧ Ints (In w) w (.slice ak lk.length ck) lk ∧ wp.cell? ⟨wo.heap.size, k5, none⟩ = some (.slice ak lk.length ck) ∧ ∀ y ∈ lk, 0 ≤ y ∧ y < f.occ.length := by
            rcases k5 with _ | _ | k5
            · exact ⟨x.sections, b0, k0, rfl, hx0, l0, fun y hy => HCC.out y (.inl hy)⟩
            · exact ⟨x.over, b3, k3, rfl, hx3, l1, fun y hy => HCC.out y (.inr hy)⟩
            · omega
          have hlen : lk.length ≤ 30 := by
            rcases k5 with _ | _ | k5
            · cases hlk; exact HSX.out.1
            · cases hlk; exact HSX.out.2.2.2.1
            · omega
          have HLK := hide hlk
          have HM := hide hmem
          obtain ⟨a', c', hv', hcl⟩ := hll
          cases hv'
          have HCL := hide hcl
          have L0 := hide l0
          have L1 := hide l1
          clear hlk hmem hcl l0 l1
          go_wp2
          clear hcell
          go_loop [73] (fun z => ∃ (q : Nat), q ≤ lk.length ∧ z = .int .i64 q ∧ (lk.take q).all (freeB f.occ) = true) (fun z => lk.length - (intOf z).toNat)
          case atStart => exact ⟨0, Nat.zero_le _, rfl, by simp⟩
          case round =>
            obtain ⟨q, hq, rfl, hall⟩ := hrel
            have HA := hide hall
            clear hall
            by_cases hql : q < lk.length
            · obtain h0 | ⟨bl, ol, rfl, hbl2, hc⟩ := HCL.out
              · omega
              obtain ⟨y, hy⟩ := get_some lk (hide rfl) hql
              have g0 := hc q hql y hy
              rw [← T4.below.cell (p := ⟨bl, _, none⟩) hbl2] at g0
              obtain ⟨hy0, hy1⟩ := HM.out y (List.mem_of_getElem? hy)
              obtain h0 | ⟨bp, op, rfl, hbp, hcp⟩ := HQ1.out
              · omega
              obtain ⟨pt, hpt⟩ : ∃ pt, f.occ[y.toNat]? = some pt := ⟨f.occ[y.toNat]'(by omega), List.getElem?_eq_getElem _⟩
              have j0 := hcp y.toNat (by omega) pt hpt
              rw [← T4.below.cell (p := ⟨bp, _, none⟩) hbp] at j0
              have fr : wp.cell? ⟨w.heap.size + 1, 1, none⟩ = some (.slice (some ⟨bp, op, none⟩) f.occ.length c1) := T4.cell (j := 1) (i := 1) rfl rfl
              have hlb : freeB f.occ y = !pt := by unfold freeB; rw [hpt]
              have HLB := hide hlb
              have Hy := hide hy
              clear hy hc hcp hpt hlb
              cases pt
              · go_wp2
                go_round
                case rel => exact ⟨q + 1, by omega, by go_num, all_snoc HA.out Hy.out (by rw [HLB.out]; rfl)⟩
                case measure => simp [intOf]; omega
              · go_wp2
                go_ret
                exact ⟨ret_bool (proved_no2 HLK.out (all_no Hy.out (by rw [HLB.out]; rfl))).symm, T4.below⟩
            · have hfin := all_end HA.out (by omega)
              have HFI := hide hfin
              clear hfin
              go_wp2
              go_roundw
              case rel => exact ⟨k5 + 1, by omega, by go_num, fun j l hj hjl => by
                by_cases e : j = k5
                · subst e; rw [HLK.out] at hjl; cases hjl; exact HFI.out
                · exact HO.out j l (by omega) hjl, T4, L0.out, L1.out⟩
              case measure => simp [intOf]; omega
        · go_wp2
          go_ret
          exact ⟨ret_bool (proved_yes N1.out fun j l hj => HO.out j l (by omega)).symm, T4.below⟩
end Go.Proofs.YtdhinkgjiapigabGreatDoor

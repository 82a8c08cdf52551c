import Derived.Test.YtdhinkgjiapigabGreatDoorFrI10
import Derived.Test.YtdhinkgjiapigabGreatDoorStEq
import Derived.Test.YtdhinkgjiapigabGreatDoorFrIA
import Derived.Deep.DeepCutAuto
namespace Go.Proofs.YtdhinkgjiapigabGreatDoor
open Go.RowKit Go.Deep
open Classical

/-- What waysOk asks of way i. -/
def WayS1 (p : PlanD) (d : FrameD) (i : Nat) : Prop := ∀ x h, p.ways[i]? = some x → d.ways[i]? = some h → HeldOk p.hold x.sections.length h ∧ settle1 d.occ d.points x h = h
theorem settled_iff {hold : Int} {occ : List Bool} {points : List (Int × Int)} {x : WayD} {h : HeldD} {s : StD} (hs : stOf h = some s) (hk : HeldOk hold x.sections.length h) (h1 : 1 ≤ x.sections.length) (hn : x.sections.length ≤ 30) : settledD occ points x s = s ↔ settle1 occ points x h = h := by
  obtain ⟨s', e1, -, e3, e4⟩ := heldOk_of hn hk
  rw [hs] at e1
  cases e1
  obtain ⟨k1, k2⟩ := settled_held (occ := occ) (points := points) (w := x) e3 h1 hn
  rw [e4] at k1
  constructor
  · intro z
    rw [z, e4] at k1
    exact k1.symm
  · intro z
    refine heldOf_inj k2 e3 ?_
    rw [k1, e4, z]
theorem st_iface (s : StD) : ∃ t v, stV s = .iface t v := by cases s using StD.by <;> exact ⟨_, _, rfl⟩
theorem st_guard (a c : StD) (x y : Operand) (w : World) : (eqGuard .neq 165 x y (stV a) (stV c)).run Tryz.prog w = .ok () w := by
  obtain ⟨t1, v1, h1⟩ := st_iface a
  obtain ⟨t2, v2, h2⟩ := st_iface c
  rw [h1, h2]
  rfl
theorem fit_30 {n : Nat} {s : StD} (h : stFit n s) : st30 s := by
  cases s using StD.by with
  | used g l b => exact h.1
  | _ => trivial

set_option maxRecDepth 100000 in
set_option maxHeartbeats 8000000 in
theorem waysOk_any (ok p1 p2 p3 f1 f2 f3 : Value) (p : PlanD) (d : FrameD) (w : World) (hp : PlanAt (In w) w p1 p2 p3 p) (hf : FrameAt (In w) w f1 f2 f3 d) (hR : Right p) (ho : (d.occ.length : Int) = p.sections) (hpt : d.points.length = p.switches.length) (hd : d.Small 1048576) :
    Calls Tryz.prog 78 #[.agg #[.int .i64 p.sections, p1, p2, p3, .int .i64 p.hold], .agg #[ok, f1, f2, f3]] w fun e w' => e = .returned (.bool (B (d.ways.length = p.ways.length ∧ ∀ i, i < p.ways.length → WayS1 p d i))) ∧ Below w.heap.size w w' := by
  have hn : p.ways.length ≤ 100 := hR.parts.1.2.2.1
  have T0 := boxes2 w 37 42 #[.int .i64 p.sections, p1, p2, p3, .int .i64 p.hold] #[ok, f1, f2, f3]
  have hkf : ∀ W, Below w.heap.size w W → FrameAt (In W) W f1 f2 f3 d := fun W h => hf.keep (In.keep h).1 (In.keep h).2
  have KF := hide hkf
  obtain ⟨a2, c2, rfl, hc2⟩ := hp.2.1
  obtain ⟨a3, c3, rfl, hc3⟩ := hf.2.2
  have HC2 := hide hc2
  have HC3 := hide hc3
  have HR := hide hR
  have HO := hide ho
  have HPT := hide hpt
  have HD := hide hd
  clear hkf hp hf hc2 hc3 hR ho hpt
  obtain ⟨hd1, hd2, hd3, hd4⟩ := hd
  have HD4 := hide hd4
  clear hd4
  go_enter Tryz.func78, Tryz.ntmps78
  by_cases q0 : d.ways.length = p.ways.length
  case neg =>
    have k0 : ((d.ways.length : Int) != (p.ways.length : Int)) = true := by simp; omega
    have Q0 := hide q0
    clear q0
    go_wp2
    go_ret
    exact ⟨ret_bool (B_false fun z => Q0.out z.1).symm, T0.below⟩
  have k0 : ((d.ways.length : Int) != (p.ways.length : Int)) = false := by simp; omega
  have Q0 := hide q0
  clear q0
  go_wp2
  go_loopw [19] (fun z wr => ∃ (i : Nat), i ≤ p.ways.length ∧ z = .int .i64 i ∧ (∀ j, j < i → WayS1 p d j) ∧ Boxes w [(37, #[.int .i64 p.sections, p1, .slice a2 p.ways.length c2, p3, .int .i64 p.hold]), (42, #[ok, f1, f2, .slice a3 d.ways.length c3])] wr) (fun z _ => p.ways.length - (intOf z).toNat)
  case atStart => exact ⟨0, Nat.zero_le _, rfl, fun j hj => by omega, T0⟩
  case round =>
    obtain ⟨i, hi, rfl, hall, T1⟩ := hrel
    have HA := hide hall
    clear hall T0
    by_cases hlt : i < p.ways.length
    · obtain ⟨x, hx⟩ := lt_get' p.ways hlt
      obtain ⟨h, hh⟩ := get_some d.ways Q0 hlt
      have hok := HR.out.way hx
      have hsm := hok.small
      obtain h0 | ⟨bw, ow, rfl, hbw, hcw⟩ := HC2.out
      · omega
      obtain ⟨v0, v1, v2, v3, v4, hxa, g0, g1, g2, g3, g4⟩ := hcw i hlt x hx
      obtain h0 | ⟨bh, oh, rfl, hbh, hch⟩ := HC3.out
      · have := Q0.out; omega
      obtain ⟨y2, hy2, j0, j1, j2, j3, j4⟩ := hch i (by have := Q0.out; omega) h hh
      obtain ⟨s0, t0, rfl⟩ := hxa.1.size
      obtain ⟨s1, t1, rfl⟩ := hxa.2.1.size
      obtain ⟨s2, t2, rfl⟩ := hxa.2.2.1.size
      obtain ⟨s3, t3, rfl⟩ := hxa.2.2.2.1.size
      obtain ⟨s4, t4, rfl⟩ := hxa.2.2.2.2.size
      have hwl : bw < w.heap.size := hbw
      have hhl : bh < w.heap.size := hbh
      rw [← T1.below.cell (p := ⟨bw, _, none⟩) hbw] at g0 g1 g2 g3 g4
      have T2 := T1.call (below_new wr (.cells #[.slice s0 x.sections.length t0, .slice s1 x.lies.length t1, .slice s2 x.flanks.length t2, .slice s3 x.over.length t3, .slice s4 x.near.length t4] 122))
      have T3 := T2.call (below_drew _)
      rw [← T2.below.cell (p := ⟨bh, _, none⟩) hbh] at j0 j1 j2 j3 j4
      have hxk : ∀ W, Below w.heap.size w W → WayAt (In W) W (.slice s0 x.sections.length t0) (.slice s1 x.lies.length t1) (.slice s2 x.flanks.length t2) (.slice s3 x.over.length t3) (.slice s4 x.near.length t4) x := fun W k => hxa.keep (In.keep k).1 (In.keep k).2
      have hyk : ∀ W, Below w.heap.size w W → Bools (In W) W y2 h.been := fun W k => hy2.keep (In.keep k).1 (In.keep k).2
      have KX := hide hxk
      obtain ⟨ay, cy, rfl⟩ := hy2.size
      have hn1 : 1 ≤ x.sections.length := by
        rcases Nat.eq_zero_or_pos x.sections.length with z | z
        · exact absurd (List.length_eq_zero_iff.1 z) hok.1
        · exact z
      have hcall : Calls Tryz.prog 137 #[.agg #[.int .i64 p.sections, p1, .slice (some ⟨bw, ow, none⟩) p.ways.length c2, p3, .int .i64 p.hold], .agg #[.slice s0 x.sections.length t0, .slice s1 x.lies.length t1, .slice s2 x.flanks.length t2, .slice s3 x.over.length t3, .slice s4 x.near.length t4], .agg #[.int .i64 h.state, .int .i64 h.gone, .slice ay h.been.length cy, .bool h.shown, .int .i64 h.timer]] (wr.alloc (.cells #[.slice s0 x.sections.length t0, .slice s1 x.lies.length t1, .slice s2 x.flanks.length t2, .slice s3 x.over.length t3, .slice s4 x.near.length t4] 122)).drew fun e w' => ∃ v, e = .returned (.tuple #[v, .bool (B (HeldOk p.hold x.sections.length h))]) ∧ (HeldOk p.hold x.sections.length h → ∃ s, stOf h = some s ∧ v = stV s) ∧ Boxes w [(37, #[.int .i64 p.sections, p1, .slice (some ⟨bw, ow, none⟩) p.ways.length c2, p3, .int .i64 p.hold]), (42, #[ok, f1, f2, .slice (some ⟨bh, oh, none⟩) d.ways.length c3])] w' ∧ (w'.cell? ⟨wr.heap.size, 0, none⟩ = some (.slice s0 x.sections.length t0) ∧ w'.cell? ⟨wr.heap.size, 1, none⟩ = some (.slice s1 x.lies.length t1) ∧ w'.cell? ⟨wr.heap.size, 2, none⟩ = some (.slice s2 x.flanks.length t2) ∧ w'.cell? ⟨wr.heap.size, 3, none⟩ = some (.slice s3 x.over.length t3) ∧ w'.cell? ⟨wr.heap.size, 4, none⟩ = some (.slice s4 x.near.length t4)) := by
        refine (readHeld_any _ _ _ _ _ _ _ _ _ _ p.hold h x _ (hxk _ T3.below) (hyk _ T3.below) hsm hn1 (HD4.out h (List.mem_of_getElem? hh))).mono ?_
        rintro e w' ⟨v, rfl, hv, hb⟩
        have hr := rowIs_keep (rowIs_keep (rowIs_new wr 122 #[.slice s0 x.sections.length t0, .slice s1 x.lies.length t1, .slice s2 x.flanks.length t2, .slice s3 x.over.length t3, .slice s4 x.near.length t4]) (below_drew _)) hb
        exact ⟨v, rfl, hv, T3.call hb, by simpa using hr.cell (i := 0) (by simp), by simpa using hr.cell (i := 1) (by simp), by simpa using hr.cell (i := 2) (by simp), by simpa using hr.cell (i := 3) (by simp), by simpa using hr.cell (i := 4) (by simp)⟩
      have HCALL := hide hcall
      have hsc : ∀ s, (s ∈ x.sections ∨ s ∈ x.over) → 0 ≤ s ∧ s < d.occ.length := fun s hs => by
        have e := HO.out
        rcases hs with z | z
        · have := hok.2.1.mem z; omega
        · have := hok.2.2.1.mem z; omega
      have hlc : ∀ y, (y ∈ x.lies ∨ y ∈ x.flanks) → 0 ≤ y.1 ∧ y.1 < d.points.length := fun y hy => by
        have e := HPT.out
        rcases hy with z | z
        · have := hok.2.2.2.2.1.mem z; omega
        · have := hok.2.2.2.2.2.1.mem z; omega
      have HSC := hide hsc
      have HLC := hide hlc
      have HSM := hide hsm
      have HX := hide hx
      have HH := hide hh
      have b0 := T2.cell (j := 0) (i := 0) rfl rfl
      have b1 := T2.cell (j := 0) (i := 1) rfl rfl
      have b2 := T2.cell (j := 0) (i := 2) rfl rfl
      have b3 := T2.cell (j := 0) (i := 3) rfl rfl
      have b4 := T2.cell (j := 0) (i := 4) rfl rfl
      have e3 := T2.cell (j := 1) (i := 3) rfl rfl
      rw [Nat.add_zero] at b0 b1 b2 b3 b4
      have m0 : (wr.alloc (.cells #[.slice s0 x.sections.length t0, .slice s1 x.lies.length t1, .slice s2 x.flanks.length t2, .slice s3 x.over.length t3, .slice s4 x.near.length t4] 122)).cell? ⟨wr.heap.size, 0, none⟩ = some (.slice s0 x.sections.length t0) := by simp
      have m1 : (wr.alloc (.cells #[.slice s0 x.sections.length t0, .slice s1 x.lies.length t1, .slice s2 x.flanks.length t2, .slice s3 x.over.length t3, .slice s4 x.near.length t4] 122)).cell? ⟨wr.heap.size, 1, none⟩ = some (.slice s1 x.lies.length t1) := by simp
      have m2 : (wr.alloc (.cells #[.slice s0 x.sections.length t0, .slice s1 x.lies.length t1, .slice s2 x.flanks.length t2, .slice s3 x.over.length t3, .slice s4 x.near.length t4] 122)).cell? ⟨wr.heap.size, 2, none⟩ = some (.slice s2 x.flanks.length t2) := by simp
      have m3 : (wr.alloc (.cells #[.slice s0 x.sections.length t0, .slice s1 x.lies.length t1, .slice s2 x.flanks.length t2, .slice s3 x.over.length t3, .slice s4 x.near.length t4] 122)).cell? ⟨wr.heap.size, 3, none⟩ = some (.slice s3 x.over.length t3) := by simp
      have m4 : (wr.alloc (.cells #[.slice s0 x.sections.length t0, .slice s1 x.lies.length t1, .slice s2 x.flanks.length t2, .slice s3 x.over.length t3, .slice s4 x.near.length t4] 122)).cell? ⟨wr.heap.size, 4, none⟩ = some (.slice s4 x.near.length t4) := by simp
      have hdl : (i : Int) < (d.ways.length : Int) := by have := Q0.out; omega
      have hno : ∀ z : ¬ (HeldOk p.hold x.sections.length h ∧ settle1 d.occ d.points x h = h), B (d.ways.length = p.ways.length ∧ ∀ i, i < p.ways.length → WayS1 p d i) = false := fun z => B_false fun k => z (k.2 i hlt x h HX.out HH.out)
      have HNO := hide hno
      clear hcall hcw hch hxa hxk hyk hy2 hok hsm hsc hlc hx hh hno T1 T2 T3
      go_upto_region 6 with fail
      go_cut [7, 8] (fun va vb wc => vb = .bool (B (HeldOk p.hold x.sections.length h)) ∧ (HeldOk p.hold x.sections.length h → ∃ s, stOf h = some s ∧ va = stV s) ∧ Boxes w [(37, #[.int .i64 p.sections, p1, .slice (some ⟨bw, ow, none⟩) p.ways.length c2, p3, .int .i64 p.hold]), (42, #[ok, f1, f2, .slice (some ⟨bh, oh, none⟩) d.ways.length c3])] wc ∧ (wc.cell? ⟨wr.heap.size, 0, none⟩ = some (.slice s0 x.sections.length t0) ∧ wc.cell? ⟨wr.heap.size, 1, none⟩ = some (.slice s1 x.lies.length t1) ∧ wc.cell? ⟨wr.heap.size, 2, none⟩ = some (.slice s2 x.flanks.length t2) ∧ wc.cell? ⟨wr.heap.size, 3, none⟩ = some (.slice s3 x.over.length t3) ∧ wc.cell? ⟨wr.heap.size, 4, none⟩ = some (.slice s4 x.near.length t4)))
      case first =>
        go_region_with (go_at_call 137; refine HCALL.out.mono ?_; rintro e w2 ⟨v, rfl, hv, T4, r0, r1, r2, r3, r4⟩; have HV := hide hv; have HT4 := hide T4; clear hv T4)
        all_goals
          go_wp2_with fail
          go_meet
          exact ⟨rfl, HV.out, HT4.out, r0, r1, r2, r3, r4⟩
      case rest =>
        obtain ⟨rfl, hv, T4, r0, r1, r2, r3, r4⟩ := hcut
        have HV := hide hv
        clear hv HCALL b0 b1 b2 b3 b4 e3 m0 m1 m2 m3 m4 j0 j1 j2 j3 j4 g0 g1 g2 g3 g4
        by_cases q : HeldOk p.hold x.sections.length h
        case neg =>
          rw [B_false q]
          have Q := hide q
          clear q
          go_wp2
          go_ret
          exact ⟨ret_bool (HNO.out fun z => Q.out z.1).symm, T4.below⟩
        rw [B_true q]
        obtain ⟨s, hs, hvs⟩ := HV.out q
        obtain ⟨s', hs', -, hfit, -⟩ := heldOk_of HSM.out.1 q
        rw [hs] at hs'
        cases hs'
        have hset := settled_any ok f1 f2 (.slice (some ⟨bh, oh, none⟩) d.ways.length c3) _ _ _ _ _ s d.occ d.points x _ (KF.out _ T4.below).1 (KF.out _ T4.below).2.1 (KX.out _ T4.below) HSM.out HLC.out HSC.out ⟨hd2, hd1⟩ hn1 hfit
        have hneq := st_neq (settledD d.occ d.points x s) s (fit_30 (settled_held hfit hn1 HSM.out.1).2) (fit_30 hfit)
        have hgd := st_guard (settledD d.occ d.points x s) s
        have hiff := settled_iff (occ := d.occ) (points := d.points) hs q hn1 HSM.out.1
        rw [← hvs] at hset hneq hgd
        have HQ := hide q
        have HSET := hide hset
        have HIFF := hide hiff
        have q0 := T4.cell (j := 1) (i := 0) rfl rfl
        have q1 := T4.cell (j := 1) (i := 1) rfl rfl
        have q2 := T4.cell (j := 1) (i := 2) rfl rfl
        have q3 := T4.cell (j := 1) (i := 3) rfl rfl
        obtain ⟨tv, htv⟩ : ∃ v, v = stV (settledD d.occ d.points x s) := ⟨_, rfl⟩
        rw [← htv] at hneq hgd HSET
        clear q hs hvs hset hiff htv hfit
        go_wp2_with fail
        refine HSET.out.mono ?_
        rintro e w5 ⟨rfl, hb⟩
        have T5 := T4.call hb
        clear hb T4 q0 q1 q2 q3 r0 r1 r2 r3 r4
        by_cases e : settledD d.occ d.points x s = s
        · rw [B_true e] at hneq
          have E := hide e
          clear e
          go_wp2
          go_roundw
          case rel =>
            exact ⟨i + 1, by omega, by go_num, fun j hj => by
              by_cases ej : j = i
              · subst ej
                intro x' h' k1 k2
                rw [HX.out] at k1
                rw [HH.out] at k2
                cases k1
                cases k2
                exact ⟨HQ.out, HIFF.out.1 E.out⟩
              · exact HA.out j (by omega), T5⟩
          case measure => simp [intOf]; omega
        · rw [B_false e] at hneq
          have E := hide e
          clear e
          go_wp2
          go_ret
          exact ⟨ret_bool (HNO.out fun z => E.out (HIFF.out.2 z.2)).symm, T5.below⟩
    · go_wp2
      go_ret
      exact ⟨ret_bool (B_true ⟨Q0.out, fun j hj => HA.out j (by omega)⟩).symm, T1.below⟩
end Go.Proofs.YtdhinkgjiapigabGreatDoor

import Derived.Test.YtdhinkgjiapigabGreatDoorFrI4
namespace Go.Proofs.YtdhinkgjiapigabGreatDoor
open Go.RowKit Go.Deep
open Classical

theorem below_setCells {B : Nat} {a : World} {b : Nat} (hb : B ≤ b) : ∀ (vs : List Value) (o : Nat) (w : World), Below B a w → Below B a (w.setCells b o vs)
  | [], _, _, h => h
  | v :: r, o, w, h => by
    rw [World.setCells]
    exact below_setCells hb r (o + 1) _ (h.setCell hb v)
theorem used_there {W : World} {t : TypeId} {Z : Array Value} (hZ : Z.size = 32) : (W.alloc (.cells Z t)).there W.heap.size 0 32 := fun j hj => by
  have hr := rowIs_new W t Z
  rw [hZ] at hr
  rw [Nat.zero_add]
  exact ⟨by rw [hr.cell hj]; rfl, hr.frozen j⟩
theorem used_box {W : World} {t : TypeId} {Z cs : Array Value} (hc : cs.size = 32) (hZ : Z.size = 32) : Below W.heap.size W ((W.alloc (.cells Z t)).setCells W.heap.size 0 cs.toList) ∧ ((W.alloc (.cells Z t)).setCells W.heap.size 0 cs.toList).rangeAt W.heap.size 0 cs.toList :=
  ⟨below_setCells (Nat.le_refl _) _ _ _ (below_new _ _), World.rangeAt_setCells_same _ _ _ _ (by rw [Array.length_toList, hc]; exact used_there hZ)⟩
theorem usedC_one {g : Int} {l : List Bool} {b : Bool} : (usedC g l b).all (·.oneCell') = true := by
  unfold usedC
  refine all_oneCell_toArray fun v hv => ?_
  rcases List.mem_cons.1 hv with rfl | hv
  · rfl
  · rcases List.mem_append.1 hv with hv | hv
    · obtain ⟨x, -, rfl⟩ := List.mem_map.1 hv
      rfl
    · rcases List.mem_singleton.1 hv with rfl
      rfl

set_option maxRecDepth 100000 in
set_option maxHeartbeats 8000000 in
theorem settled_any (ok f1 f2 f3 u0 u1 u2 u3 u4 : Value) (s : StD) (occ : List Bool) (points : List (Int × Int)) (x : WayD) (w : World) (hf1 : Bools (In w) w f1 occ) (hf2 : Lies (In w) w f2 points) (hx : WayAt (In w) w u0 u1 u2 u3 u4 x)
    (hs : x.Small 30) (hl : ∀ y, (y ∈ x.lies ∨ y ∈ x.flanks) → 0 ≤ y.1 ∧ y.1 < points.length) (hc : ∀ s, (s ∈ x.sections ∨ s ∈ x.over) → 0 ≤ s ∧ s < occ.length) (hz : points.length ≤ 1048576 ∧ occ.length ≤ 1048576) (hn1 : 1 ≤ x.sections.length) (hfit : stFit x.sections.length s) :
    Calls Tryz.prog 138 #[.agg #[ok, f1, f2, f3], .agg #[u0, u1, u2, u3, u4], stV s] w fun e w' => e = .returned (stV (settledD occ points x s)) ∧ Below w.heap.size w w' := by
  have T0 := boxes2 w 42 122 #[ok, f1, f2, f3] #[u0, u1, u2, u3, u4]
  have hk1 : ∀ W, Below w.heap.size w W → Bools (In W) W f1 occ := fun W h => hf1.keep (In.keep h).1 (In.keep h).2
  have hk2 : ∀ W, Below w.heap.size w W → Lies (In W) W f2 points := fun W h => hf2.keep (In.keep h).1 (In.keep h).2
  have hk3 : ∀ W, Below w.heap.size w W → WayAt (In W) W u0 u1 u2 u3 u4 x := fun W h => hx.keep (In.keep h).1 (In.keep h).2
  have K1 := hide hk1
  have K2 := hide hk2
  have K3 := hide hk3
  have HL := hide hl
  have HC := hide hc
  have HS := hide hs
  have HF := hide hfit
  obtain ⟨z1, z2⟩ := hz
  obtain ⟨sv, hsv⟩ : ∃ v, v = stV s := ⟨_, rfl⟩
  rw [← hsv]
  have HSV := hide hsv
  obtain ⟨a0, c0, rfl, q0⟩ := hx.1
  obtain ⟨a1, c1, rfl, q1⟩ := hf1
  obtain h0 | ⟨bs, os, rfl, hPs, hcs⟩ := q0
  · omega
  obtain ⟨s0, hs0⟩ := lt_get' x.sections (i := 0) (by omega)
  obtain ⟨hin0, hin1⟩ := hc s0 (.inl (List.mem_of_getElem? hs0))
  obtain h0 | ⟨bc, oc, rfl, hPc, hcc⟩ := q1
  · omega
  obtain ⟨o, ho2⟩ : ∃ o, occ[s0.toNat]? = some o := ⟨occ[s0.toNat]'(by omega), List.getElem?_eq_getElem _⟩
  have g0 := ckb (hcs 0 (by omega) s0 hs0) T0.below
  have g1 := ckb (hcc s0.toNat (by omega) o ho2) T0.below
  rw [Nat.add_zero] at g0
  have hoc : occAt occ (x.sections.getD 0 0) = o := by rw [List.getD_eq_getElem?_getD, hs0]; exact occAt_get ho2
  have HOC := hide hoc
  have hl0 : (0 : Int) < (x.sections.length : Int) := by omega
  have hT : ∀ m, Boxes w [(42, #[ok, .slice (some ⟨bc, oc, none⟩) occ.length c1, f2, f3]), (122, #[.slice (some ⟨bs, os, none⟩) x.sections.length c0, u1, u2, u3, u4])] ((((w.alloc (.cells #[ok, .slice (some ⟨bc, oc, none⟩) occ.length c1, f2, f3] 42)).alloc (.cells #[.slice (some ⟨bs, os, none⟩) x.sections.length c0, u1, u2, u3, u4] 122))).drewN m) := fun m => T0.call (below_draws _ m)
  have HT := hide hT
  clear hT hk1 hk2 hk3 hf2 hx hl hc hs hfit hsv hcs hcc hs0 ho2 hoc T0
  go_enter Tryz.func138, Tryz.ntmps138
  cases o with
  | false =>
    go_wp2
    go_quiet (fail)
    have T1 := HT.out nq
    generalize World.drewN _ nq = W1 at T1 ⊢
    have hrs : settledD occ points x s = nowD occ points x s := by unfold settledD; rw [HOC.out, if_neg (by decide)]
    obtain ⟨s1, hs1⟩ : ∃ s1, s1 = s := ⟨_, rfl⟩
    have HV1 : Hid (sv = stV s1) := by rw [hs1]; exact HSV
    have HF1 : Hid (stFit x.sections.length s1) := by rw [hs1]; exact HF
    have HRS : Hid (settledD occ points x s = nowD occ points x s1) := by rw [hs1]; exact hrs
    clear hrs hs1 HSV HF HT g0 g1
    cases s1 using StD.by with
    | idle =>
      have hv : sv = .iface 183 (.agg #[]) := HV1.out
      subst hv
      have t_set := Tryz.ta_idle_set (.agg #[])
      have t_clear := Tryz.ta_idle_clear (.agg #[])
      have t_used := Tryz.ta_idle_used (.agg #[])
      go_wp2
      go_ret
      exact ⟨by rw [HRS.out]; rfl, T1.below⟩
    | taking t =>
      have hv : sv = .iface 258 (.agg #[.int .i64 t]) := HV1.out
      subst hv
      have t_set := Tryz.ta_taking_set (.agg #[.int .i64 t])
      have t_clear := Tryz.ta_taking_clear (.agg #[.int .i64 t])
      have t_used := Tryz.ta_taking_used (.agg #[.int .i64 t])
      go_wp2
      go_ret
      exact ⟨by rw [HRS.out]; rfl, T1.below⟩
    | set sb =>
      have hv : sv = .iface 212 (.agg #[.bool sb]) := HV1.out
      subst hv
      have t_set := Tryz.ta_set_set (.agg #[.bool sb])
      have TT := T1.call (below_new W1 (.cells #[.bool sb] 212))
      have b0 := TT.cell (j := 0) (i := 0) rfl rfl
      have b1 := TT.cell (j := 0) (i := 1) rfl rfl
      have b2 := TT.cell (j := 0) (i := 2) rfl rfl
      have b3 := TT.cell (j := 0) (i := 3) rfl rfl
      have d0 := TT.cell (j := 1) (i := 0) rfl rfl
      have d1 := TT.cell (j := 1) (i := 1) rfl rfl
      have d2 := TT.cell (j := 1) (i := 2) rfl rfl
      have d3 := TT.cell (j := 1) (i := 3) rfl rfl
      have d4 := TT.cell (j := 1) (i := 4) rfl rfl
      rw [Nat.add_zero] at b0 b1 b2 b3
      go_wp2_with fail
      refine (signalled_any ok _ f2 f3 _ u1 u2 u3 u4 sb occ points x _ (K1.out _ TT.below) (K2.out _ TT.below) (K3.out _ TT.below) HS.out HL.out HC.out ⟨z1, z2⟩).mono ?_
      clear b0 b1 b2 b3 d0 d1 d2 d3 d4
      rintro e w3 ⟨rfl, hb⟩
      have T4 := TT.call hb
      clear hb
      go_wp2
      go_ret
      exact ⟨by rw [HRS.out]; rfl, T4.below⟩
    | clear =>
      have hv : sv = .iface 214 (.agg #[]) := HV1.out
      subst hv
      have t_set := Tryz.ta_clear_set (.agg #[])
      have t_clear := Tryz.ta_clear_clear (.agg #[])
      have TT := T1.call (below_new W1 (.cells #[] 214))
      have b0 := TT.cell (j := 0) (i := 0) rfl rfl
      have b1 := TT.cell (j := 0) (i := 1) rfl rfl
      have b2 := TT.cell (j := 0) (i := 2) rfl rfl
      have b3 := TT.cell (j := 0) (i := 3) rfl rfl
      have d0 := TT.cell (j := 1) (i := 0) rfl rfl
      have d1 := TT.cell (j := 1) (i := 1) rfl rfl
      have d2 := TT.cell (j := 1) (i := 2) rfl rfl
      have d3 := TT.cell (j := 1) (i := 3) rfl rfl
      have d4 := TT.cell (j := 1) (i := 4) rfl rfl
      rw [Nat.add_zero] at b0 b1 b2 b3
      go_wp2_with fail
      refine (signalled_any ok _ f2 f3 _ u1 u2 u3 u4 true occ points x _ (K1.out _ TT.below) (K2.out _ TT.below) (K3.out _ TT.below) HS.out HL.out HC.out ⟨z1, z2⟩).mono ?_
      clear b0 b1 b2 b3 d0 d1 d2 d3 d4
      rintro e w3 ⟨rfl, hb⟩
      have T4 := TT.call hb
      clear hb
      go_wp2
      go_ret
      exact ⟨by rw [HRS.out]; rfl, T4.below⟩
    | used g l b =>
      obtain ⟨cs, hcs0⟩ : ∃ cs, cs = usedC g l b := ⟨_, rfl⟩
      have hv : sv = .iface 217 (.agg cs) := by rw [hcs0]; exact HV1.out
      clear HV1
      subst hv
      have t_set := Tryz.ta_used_set (.agg cs)
      have t_clear := Tryz.ta_used_clear (.agg cs)
      have t_used := Tryz.ta_used_used (.agg cs)
      have h32 : cs.size = 32 := by rw [hcs0, usedC_size HF1.out.1]
      have hth : ∀ Z : Array Value, Z.size = 32 → (W1.alloc (.cells Z 217)).there W1.heap.size 0 cs.size := fun Z hZ => by rw [h32]; exact used_there hZ
      have hsz : (Tryz.prog.info? 217).map (·.size) = some cs.size := by rw [h32]; exact Tryz.usedSize
      have hone : cs.all (·.oneCell') = true := by rw [hcs0]; exact usedC_one
      have hinf : (Tryz.prog.info? 217).map (·.size) = some cs.toList.length := by rw [Array.length_toList]; exact hsz
      have HTH := hide hth
      have HSZ := hide hsz
      have HONE := hide hone
      have HINF := hide hinf
      have HCS := hide hcs0
      have H32 := hide h32
      clear hth hsz hone hinf hcs0 h32
      have hbz : ∀ Z : Array Value, Below W1.heap.size W1 ((W1.alloc (.cells Z 217)).setCells W1.heap.size 0 cs.toList) := fun Z => below_setCells (Nat.le_refl _) _ _ _ (below_new _ _)
      have hrg : ∀ Z : Array Value, Z.size = 32 → ((W1.alloc (.cells Z 217)).setCells W1.heap.size 0 cs.toList).rangeAt W1.heap.size 0 cs.toList := fun Z hZ => (used_box H32.out hZ).2
      have HRG := hide hrg
      have HBZ := hide hbz
      clear hrg hbz
      have b0 : ∀ Z : Array Value, ((W1.alloc (.cells Z 217)).setCells W1.heap.size 0 cs.toList).cell? ⟨w.heap.size, 0, none⟩ = some (ok) := fun Z => (T1.call (HBZ.out Z)).cell (j := 0) (i := 0) rfl rfl
      have b1 : ∀ Z : Array Value, ((W1.alloc (.cells Z 217)).setCells W1.heap.size 0 cs.toList).cell? ⟨w.heap.size, 1, none⟩ = some (.slice (some ⟨bc, oc, none⟩) occ.length c1) := fun Z => (T1.call (HBZ.out Z)).cell (j := 0) (i := 1) rfl rfl
      have b2 : ∀ Z : Array Value, ((W1.alloc (.cells Z 217)).setCells W1.heap.size 0 cs.toList).cell? ⟨w.heap.size, 2, none⟩ = some (f2) := fun Z => (T1.call (HBZ.out Z)).cell (j := 0) (i := 2) rfl rfl
      have b3 : ∀ Z : Array Value, ((W1.alloc (.cells Z 217)).setCells W1.heap.size 0 cs.toList).cell? ⟨w.heap.size, 3, none⟩ = some (f3) := fun Z => (T1.call (HBZ.out Z)).cell (j := 0) (i := 3) rfl rfl
      have d0 : ∀ Z : Array Value, ((W1.alloc (.cells Z 217)).setCells W1.heap.size 0 cs.toList).cell? ⟨w.heap.size + 1, 0, none⟩ = some (.slice (some ⟨bs, os, none⟩) x.sections.length c0) := fun Z => (T1.call (HBZ.out Z)).cell (j := 1) (i := 0) rfl rfl
      have d1 : ∀ Z : Array Value, ((W1.alloc (.cells Z 217)).setCells W1.heap.size 0 cs.toList).cell? ⟨w.heap.size + 1, 1, none⟩ = some (u1) := fun Z => (T1.call (HBZ.out Z)).cell (j := 1) (i := 1) rfl rfl
      have d2 : ∀ Z : Array Value, ((W1.alloc (.cells Z 217)).setCells W1.heap.size 0 cs.toList).cell? ⟨w.heap.size + 1, 2, none⟩ = some (u2) := fun Z => (T1.call (HBZ.out Z)).cell (j := 1) (i := 2) rfl rfl
      have d3 : ∀ Z : Array Value, ((W1.alloc (.cells Z 217)).setCells W1.heap.size 0 cs.toList).cell? ⟨w.heap.size + 1, 3, none⟩ = some (u3) := fun Z => (T1.call (HBZ.out Z)).cell (j := 1) (i := 3) rfl rfl
      have d4 : ∀ Z : Array Value, ((W1.alloc (.cells Z 217)).setCells W1.heap.size 0 cs.toList).cell? ⟨w.heap.size + 1, 4, none⟩ = some (u4) := fun Z => (T1.call (HBZ.out Z)).cell (j := 1) (i := 4) rfl rfl
      go_wp2_with (first | (refine wpList_store_mid rfl 217 _ _ rfl W1.heap.size 0 cs rfl rfl (HTH.out _ rfl) HSZ.out HONE.out ?_) | (refine wpList_load_mid rfl 217 _ rfl W1.heap.size 0 rfl cs.toList _ (HRG.out _ rfl) Tryz.underlying217 rfl HINF.out ?_))
      generalize hG : World.setCells (World.alloc W1 _) W1.heap.size 0 cs.toList = W2
      have hkey : Below W1.heap.size W1 W2 := by rw [← hG]; exact HBZ.out _
      have TT := T1.call hkey
      clear hG hkey
      try rw [Array.toArray_toList]
      rw [HCS.out]
      refine (passed_any ok _ f2 f3 _ u1 u2 u3 u4 occ x.sections g l b _ (K1.out _ TT.below) (K3.out _ TT.below).1 HF1.out HS.out.1 (fun y hy => HC.out y (.inl hy)) z2).mono ?_
      clear b0 b1 b2 b3 d0 d1 d2 d3 d4
      rintro e w3 ⟨rfl, hb⟩
      have T4 := TT.call hb
      clear hb
      go_wp2
      go_ret
      exact ⟨by rw [HRS.out]; rfl, T4.below⟩
  | true =>
    go_wp2
    go_quiet (fail)
    have T1 := HT.out nq
    generalize World.drewN _ nq = W0 at T1 ⊢
    have hen := entered_any s W0
    rw [← HSV.out] at hen
    go_wp2_with fail
    refine hen.mono ?_
    rintro e W1 ⟨rfl, hb⟩
    replace T1 := T1.call hb
    obtain ⟨s1, hs1⟩ : ∃ s1, s1 = enteredD s := ⟨_, rfl⟩
    rw [← hs1]
    have HF1 : Hid (stFit x.sections.length s1) := by rw [hs1]; exact fit_entered HF.out hn1 HS.out.1
    have HRS : Hid (settledD occ points x s = nowD occ points x s1) := by rw [hs1]; show settledD occ points x s = _; unfold settledD; rw [HOC.out, if_pos rfl]
    obtain ⟨sv1, hv1⟩ : ∃ v, v = stV s1 := ⟨_, rfl⟩
    rw [← hv1]
    have HV1 := hide hv1
    clear hen hb hs1 HSV HF HT g0 g1 hv1
    cases s1 using StD.by with
    | idle =>
      have hv : sv1 = .iface 183 (.agg #[]) := HV1.out
      subst hv
      have t_set := Tryz.ta_idle_set (.agg #[])
      have t_clear := Tryz.ta_idle_clear (.agg #[])
      have t_used := Tryz.ta_idle_used (.agg #[])
      go_wp2
      go_ret
      exact ⟨by rw [HRS.out]; rfl, T1.below⟩
    | taking t =>
      have hv : sv1 = .iface 258 (.agg #[.int .i64 t]) := HV1.out
      subst hv
      have t_set := Tryz.ta_taking_set (.agg #[.int .i64 t])
      have t_clear := Tryz.ta_taking_clear (.agg #[.int .i64 t])
      have t_used := Tryz.ta_taking_used (.agg #[.int .i64 t])
      go_wp2
      go_ret
      exact ⟨by rw [HRS.out]; rfl, T1.below⟩
    | set sb =>
      have hv : sv1 = .iface 212 (.agg #[.bool sb]) := HV1.out
      subst hv
      have t_set := Tryz.ta_set_set (.agg #[.bool sb])
      have TT := T1.call (below_new W1 (.cells #[.bool sb] 212))
      have b0 := TT.cell (j := 0) (i := 0) rfl rfl
      have b1 := TT.cell (j := 0) (i := 1) rfl rfl
      have b2 := TT.cell (j := 0) (i := 2) rfl rfl
      have b3 := TT.cell (j := 0) (i := 3) rfl rfl
      have d0 := TT.cell (j := 1) (i := 0) rfl rfl
      have d1 := TT.cell (j := 1) (i := 1) rfl rfl
      have d2 := TT.cell (j := 1) (i := 2) rfl rfl
      have d3 := TT.cell (j := 1) (i := 3) rfl rfl
      have d4 := TT.cell (j := 1) (i := 4) rfl rfl
      rw [Nat.add_zero] at b0 b1 b2 b3
      go_wp2_with fail
      refine (signalled_any ok _ f2 f3 _ u1 u2 u3 u4 sb occ points x _ (K1.out _ TT.below) (K2.out _ TT.below) (K3.out _ TT.below) HS.out HL.out HC.out ⟨z1, z2⟩).mono ?_
      clear b0 b1 b2 b3 d0 d1 d2 d3 d4
      rintro e w3 ⟨rfl, hb⟩
      have T4 := TT.call hb
      clear hb
      go_wp2
      go_ret
      exact ⟨by rw [HRS.out]; rfl, T4.below⟩
    | clear =>
      have hv : sv1 = .iface 214 (.agg #[]) := HV1.out
      subst hv
      have t_set := Tryz.ta_clear_set (.agg #[])
      have t_clear := Tryz.ta_clear_clear (.agg #[])
      have TT := T1.call (below_new W1 (.cells #[] 214))
      have b0 := TT.cell (j := 0) (i := 0) rfl rfl
      have b1 := TT.cell (j := 0) (i := 1) rfl rfl
      have b2 := TT.cell (j := 0) (i := 2) rfl rfl
      have b3 := TT.cell (j := 0) (i := 3) rfl rfl
      have d0 := TT.cell (j := 1) (i := 0) rfl rfl
      have d1 := TT.cell (j := 1) (i := 1) rfl rfl
      have d2 := TT.cell (j := 1) (i := 2) rfl rfl
      have d3 := TT.cell (j := 1) (i := 3) rfl rfl
      have d4 := TT.cell (j := 1) (i := 4) rfl rfl
      rw [Nat.add_zero] at b0 b1 b2 b3
      go_wp2_with fail
      refine (signalled_any ok _ f2 f3 _ u1 u2 u3 u4 true occ points x _ (K1.out _ TT.below) (K2.out _ TT.below) (K3.out _ TT.below) HS.out HL.out HC.out ⟨z1, z2⟩).mono ?_
      clear b0 b1 b2 b3 d0 d1 d2 d3 d4
      rintro e w3 ⟨rfl, hb⟩
      have T4 := TT.call hb
      clear hb
      go_wp2
      go_ret
      exact ⟨by rw [HRS.out]; rfl, T4.below⟩
    | used g l b =>
      obtain ⟨cs, hcs0⟩ : ∃ cs, cs = usedC g l b := ⟨_, rfl⟩
      have hv : sv1 = .iface 217 (.agg cs) := by rw [hcs0]; exact HV1.out
      clear HV1
      subst hv
      have t_set := Tryz.ta_used_set (.agg cs)
      have t_clear := Tryz.ta_used_clear (.agg cs)
      have t_used := Tryz.ta_used_used (.agg cs)
      have h32 : cs.size = 32 := by rw [hcs0, usedC_size HF1.out.1]
      have hth : ∀ Z : Array Value, Z.size = 32 → (W1.alloc (.cells Z 217)).there W1.heap.size 0 cs.size := fun Z hZ => by rw [h32]; exact used_there hZ
      have hsz : (Tryz.prog.info? 217).map (·.size) = some cs.size := by rw [h32]; exact Tryz.usedSize
      have hone : cs.all (·.oneCell') = true := by rw [hcs0]; exact usedC_one
      have hinf : (Tryz.prog.info? 217).map (·.size) = some cs.toList.length := by rw [Array.length_toList]; exact hsz
      have HTH := hide hth
      have HSZ := hide hsz
      have HONE := hide hone
      have HINF := hide hinf
      have HCS := hide hcs0
      have H32 := hide h32
      clear hth hsz hone hinf hcs0 h32
      have hbz : ∀ Z : Array Value, Below W1.heap.size W1 ((W1.alloc (.cells Z 217)).setCells W1.heap.size 0 cs.toList) := fun Z => below_setCells (Nat.le_refl _) _ _ _ (below_new _ _)
      have hrg : ∀ Z : Array Value, Z.size = 32 → ((W1.alloc (.cells Z 217)).setCells W1.heap.size 0 cs.toList).rangeAt W1.heap.size 0 cs.toList := fun Z hZ => (used_box H32.out hZ).2
      have HRG := hide hrg
      have HBZ := hide hbz
      clear hrg hbz
      have b0 : ∀ Z : Array Value, ((W1.alloc (.cells Z 217)).setCells W1.heap.size 0 cs.toList).cell? ⟨w.heap.size, 0, none⟩ = some (ok) := fun Z => (T1.call (HBZ.out Z)).cell (j := 0) (i := 0) rfl rfl
      have b1 : ∀ Z : Array Value, ((W1.alloc (.cells Z 217)).setCells W1.heap.size 0 cs.toList).cell? ⟨w.heap.size, 1, none⟩ = some (.slice (some ⟨bc, oc, none⟩) occ.length c1) := fun Z => (T1.call (HBZ.out Z)).cell (j := 0) (i := 1) rfl rfl
      have b2 : ∀ Z : Array Value, ((W1.alloc (.cells Z 217)).setCells W1.heap.size 0 cs.toList).cell? ⟨w.heap.size, 2, none⟩ = some (f2) := fun Z => (T1.call (HBZ.out Z)).cell (j := 0) (i := 2) rfl rfl
      have b3 : ∀ Z : Array Value, ((W1.alloc (.cells Z 217)).setCells W1.heap.size 0 cs.toList).cell? ⟨w.heap.size, 3, none⟩ = some (f3) := fun Z => (T1.call (HBZ.out Z)).cell (j := 0) (i := 3) rfl rfl
      have d0 : ∀ Z : Array Value, ((W1.alloc (.cells Z 217)).setCells W1.heap.size 0 cs.toList).cell? ⟨w.heap.size + 1, 0, none⟩ = some (.slice (some ⟨bs, os, none⟩) x.sections.length c0) := fun Z => (T1.call (HBZ.out Z)).cell (j := 1) (i := 0) rfl rfl
      have d1 : ∀ Z : Array Value, ((W1.alloc (.cells Z 217)).setCells W1.heap.size 0 cs.toList).cell? ⟨w.heap.size + 1, 1, none⟩ = some (u1) := fun Z => (T1.call (HBZ.out Z)).cell (j := 1) (i := 1) rfl rfl
      have d2 : ∀ Z : Array Value, ((W1.alloc (.cells Z 217)).setCells W1.heap.size 0 cs.toList).cell? ⟨w.heap.size + 1, 2, none⟩ = some (u2) := fun Z => (T1.call (HBZ.out Z)).cell (j := 1) (i := 2) rfl rfl
      have d3 : ∀ Z : Array Value, ((W1.alloc (.cells Z 217)).setCells W1.heap.size 0 cs.toList).cell? ⟨w.heap.size + 1, 3, none⟩ = some (u3) := fun Z => (T1.call (HBZ.out Z)).cell (j := 1) (i := 3) rfl rfl
      have d4 : ∀ Z : Array Value, ((W1.alloc (.cells Z 217)).setCells W1.heap.size 0 cs.toList).cell? ⟨w.heap.size + 1, 4, none⟩ = some (u4) := fun Z => (T1.call (HBZ.out Z)).cell (j := 1) (i := 4) rfl rfl
      go_wp2_with (first | (refine wpList_store_mid rfl 217 _ _ rfl W1.heap.size 0 cs rfl rfl (HTH.out _ rfl) HSZ.out HONE.out ?_) | (refine wpList_load_mid rfl 217 _ rfl W1.heap.size 0 rfl cs.toList _ (HRG.out _ rfl) Tryz.underlying217 rfl HINF.out ?_))
      generalize hG : World.setCells (World.alloc W1 _) W1.heap.size 0 cs.toList = W2
      have hkey : Below W1.heap.size W1 W2 := by rw [← hG]; exact HBZ.out _
      have TT := T1.call hkey
      clear hG hkey
      try rw [Array.toArray_toList]
      rw [HCS.out]
      refine (passed_any ok _ f2 f3 _ u1 u2 u3 u4 occ x.sections g l b _ (K1.out _ TT.below) (K3.out _ TT.below).1 HF1.out HS.out.1 (fun y hy => HC.out y (.inl hy)) z2).mono ?_
      clear b0 b1 b2 b3 d0 d1 d2 d3 d4
      rintro e w3 ⟨rfl, hb⟩
      have T4 := TT.call hb
      clear hb
      go_wp2
      go_ret
      exact ⟨by rw [HRS.out]; rfl, T4.below⟩
end Go.Proofs.YtdhinkgjiapigabGreatDoor

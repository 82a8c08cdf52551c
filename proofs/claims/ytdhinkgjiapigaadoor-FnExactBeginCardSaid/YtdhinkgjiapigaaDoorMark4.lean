import Derived.Test.YtdhinkgjiapigaaDoorMark3
namespace Go.Proofs.YtdhinkgjiapigaaDoor
open Go.RowKit Go.Deep

/-- One Held marked: the row's cells, and its Been. -/
theorem held_marked {wr W2 w3 : World} {bw b N j : Nat} {f : Nat → Value} {x : HeldD} {q : Int} (hr : wr.rowIs bw 77 N f) (_hx : HeldO wr f j x b) (hne : b ≠ bw)
    (hW2 : W2 = (wr.setCell ⟨bw, j * 5, none⟩ (.int .i64 q)).setCell ⟨bw, j * 5 + 1, none⟩ (.int .i64 (q + 1))) (hb3 : But (fun c => c ≠ b) W2 w3) (ho3 : OBools w3 (f (j * 5 + 2)) (marksB (q + 1 + 1) x.been.length) b) (v3 v4 : Value)
    (h3 : v3 = .bool (m3 (q + 1 + 1 + x.been.length))) (h4 : v4 = .int .i64 (q + 1 + 1 + x.been.length + 1)) :
    HeldStep wr ((w3.setCell ⟨bw, j * 5 + 3, none⟩ v3).setCell ⟨bw, j * 5 + 4, none⟩ v4) bw N j f b (markH q x) := by
  subst h3 h4 hW2
  have R2 := (hr.set (j * 5) (.int .i64 q)).set (j * 5 + 1) (.int .i64 (q + 1))
  have R3 := hb3.row R2 (fun z => hne z.symm)
  have R5 := (R3.set (j * 5 + 3) (.bool (m3 (q + 1 + 1 + x.been.length)))).set (j * 5 + 4) (.int .i64 (q + 1 + 1 + x.been.length + 1))
  have BT : But (fun c => c ≠ bw ∧ c ≠ b) wr w3 := by
    exact (((But.refl _ _).setCell (fun z => z.1 rfl) _).setCell (fun z => z.1 rfl) _).trans (hb3.mono fun _ _ z => z.2)
  refine ⟨(BT.setCell (fun z => z.1 rfl) _).setCell (fun z => z.1 rfl) _, _, b, R5, ⟨?_, ?_, ?_, ?_, ?_⟩, fun p _ hp => ?_, .inl rfl⟩
  · dsimp only; rw [if_neg (by omega), if_neg (by omega), if_neg (by omega), if_pos rfl]; rfl
  · dsimp only; rw [if_neg (by omega), if_neg (by omega), if_pos rfl]; rfl
  · dsimp only; rw [if_neg (by omega), if_neg (by omega), if_neg (by omega), if_neg (by omega)]
    obtain ⟨g, M, c, hv, hg, k⟩ := ho3
    exact ⟨g, M, c, hv, (hg.setOther hne _).setOther hne _, k⟩
  · dsimp only; rw [if_neg (by omega), if_pos rfl]; rfl
  · dsimp only; rw [if_pos rfl]; rfl
  · rw [if_neg (by omega), if_neg (by omega), if_neg (by omega), if_neg (by omega)]

/-- How far a round of marks has come. -/
def MarkR (P : Nat → Prop) (W0 : World) (v1 v2 v3 : Value) (d : FrameD) (k : Int) (bo bp bw : Nat) (i : Nat) (W : World) : Prop :=
  ∃ (cur : List HeldD) (bb : Nat → Nat), cur.length = d.ways.length ∧ (∀ (j : Nat) h, j < i → d.ways[j]? = some h → cur[j]? = some (markH (posH k d.ways j) h)) ∧ (∀ j : Nat, i ≤ j → cur[j]? = d.ways[j]?) ∧
    OFrame P W v1 v2 v3 { d with ways := cur } bo bp bw bb ∧ But (fun c => ¬ P c) W0 W
theorem MarkR.next {P : Nat → Prop} {W0 : World} {v1 v2 v3 : Value} {d : FrameD} {k : Int} {bo bp bw : Nat} {i : Nat} {W W' : World} {cur : List HeldD} {bb : Nat → Nat} {h : HeldD} {f : Nat → Value} {N : Nat}
    (hl : cur.length = d.ways.length) (h1 : ∀ (j : Nat) h, j < i → d.ways[j]? = some h → cur[j]? = some (markH (posH k d.ways j) h)) (h2 : ∀ j : Nat, i ≤ j → cur[j]? = d.ways[j]?)
    (hf : OFrame P W v1 v2 v3 { d with ways := cur } bo bp bw bb) (hb : But (fun c => ¬ P c) W0 W) (hB : ∀ c, W.heap.size ≤ c → P c) (hi : i < d.ways.length) (hh : d.ways[i]? = some h)
    (hr : W.rowIs bw 77 N f) (hs : HeldStep W W' bw N i f (bb i) (markH (posH k d.ways i) h)) : MarkR P W0 v1 v2 v3 d k bo bp bw (i + 1) W' := by
  obtain ⟨bb', hf', e⟩ := hf.step (Q := P) (i := i) (by show i < cur.length; omega) (x := markH (posH k d.ways i) h) (w' := W')
    (fun f' N' hr' _ _ => hs.from hr hr') (fun _ q => q) (fun c q _ => hB c q)
  refine ⟨cur.set i (markH (posH k d.ways i) h), bb', by rw [List.length_set]; exact hl, fun j g hj hg => ?_, fun j hj => ?_, hf', ?_⟩
  · by_cases e2 : j = i
    · subst e2
      rw [hh] at hg
      cases hg
      rw [List.getElem?_set_self (by omega)]
    · rw [List.getElem?_set_ne (Ne.symm e2)]
      exact h1 j g (by omega) hg
  · rw [List.getElem?_set_ne (by omega)]
    exact h2 j (by omega)
  · refine hb.trans (e.mono fun c _ hk => ⟨?_, ?_⟩)
    · exact fun e2 => hk (e2 ▸ hf.pw (by show cur.length ≠ 0; omega))
    · exact fun e2 => hk (e2 ▸ hf.pb i (by show i < cur.length; omega))
theorem MarkR.end {P : Nat → Prop} {W0 : World} {v1 v2 v3 : Value} {d : FrameD} {k : Int} {bo bp bw : Nat} {n : Nat} {W : World} (h : MarkR P W0 v1 v2 v3 d k bo bp bw n W) (hn : n = d.ways.length) :
    ∃ bb, OFrame P W v1 v2 v3 { d with ways := markHs k d.ways } bo bp bw bb ∧ But (fun c => ¬ P c) W0 W := by
  obtain ⟨cur, bb, h0, h1, -, hf, hb⟩ := h
  have : cur = markHs k d.ways := by
    apply List.ext_getElem?
    intro j
    by_cases hj : j < d.ways.length
    · obtain ⟨x, hx⟩ := lt_get d.ways hj
      rw [h1 j x (by omega) hx, markHs_get hx]
    · rw [List.getElem?_eq_none (by omega), List.getElem?_eq_none (by rw [markHs_length]; omega)]
  rw [this] at hf
  exact ⟨bb, hf, hb⟩

set_option maxRecDepth 100000 in
set_option maxHeartbeats 4000000 in
theorem markHeldsO_any (P : Nat → Prop) (v1 v2 v3 : Value) (d : FrameD) (bo bp bw : Nat) (bb : Nat → Nat) (k : Int) (w : World) (hf : OFrame P w v1 v2 v3 d bo bp bw bb) (hB : ∀ c, w.heap.size ≤ c → P c) (hn : d.ways.length ≤ 1048576) (hs : ∀ x ∈ d.ways, x.been.length ≤ 1048576) (h0 : 0 ≤ k) (h1 : k ≤ 1125899906842624) :
    Calls Tryd.prog 46 #[v3, .int .i64 k] w fun e w' => e = .returned (.int .i64 (k + cntH d.ways)) ∧ ∃ bb', OFrame P w' v1 v2 v3 { d with ways := markHs k d.ways } bo bp bw bb' ∧ But (fun c => ¬ P c) w w' := by
  have hv3 : ∃ a cap, v3 = .slice a d.ways.length cap := by obtain ⟨a, cap, e, -⟩ := hf.ways; exact ⟨a, cap, e⟩
  obtain ⟨a3, c3, rfl⟩ := hv3
  have hpos : ∀ j, posH k d.ways j ≤ k + (4 + 1048576) * j := fun j => by unfold posH; have := cntH_le hs j; omega
  have hge : ∀ j, k ≤ posH k d.ways j := fun j => by unfold posH; omega
  have HPOS := hide hpos
  have HGE := hide hge
  have HS := hide hs
  have HF := hide hf
  obtain ⟨n, hn'⟩ : ∃ n, d.ways.length = n := ⟨_, rfl⟩
  have HN := hide hn'
  rw [hn'] at hn ⊢
  clear hpos hge hs hf hn'
  go_enter Tryd.func46, Tryd.ntmps46
  go_wp2
  go_loopw [1, 5] (fun kv i wr => ∃ (j : Nat) (q : Int), j ≤ n ∧ i = .int .i64 j ∧ q = posH k d.ways j ∧ kv = .int .i64 q ∧ MarkR P w v1 v2 (.slice a3 n c3) d k bo bp bw j wr) (fun _ i _ => n - (intOf i).toNat)
  case atStart => exact ⟨0, _, Nat.zero_le _, rfl, (posH_zero _ _).symm, rfl, d.ways, bb, rfl, fun j h hj => by omega, fun _ _ => rfl, by have := HF.out; rw [HN.out] at this; exact this, But.refl _ _⟩
  case round =>
    obtain ⟨j, q, hj, rfl, hq, rfl, cur, bb2, hl, c1, c2, hfr, hbt⟩ := hrel
    have Hq := hide hq
    have hq2 : q ≤ 1125899906842624 + 1048580 * 1048576 := by have := HPOS.out j; omega
    have hq0 : 0 ≤ q := by have := HGE.out j; omega
    have HL := hide hl
    have C1 := hide c1
    have C2 := hide c2
    have HFR := hide hfr
    have HBT := hide hbt
    clear hq hl c1 c2 hfr hbt HF
    by_cases hlt : j < n
    · obtain ⟨x, hx⟩ := lt_get d.ways (i := j) (by rw [HN.out]; exact hlt)
      have hcx : cur[j]? = some x := by rw [C2.out j (Nat.le_refl _)]; exact hx
      have hxl : x.been.length ≤ 1048576 := HS.out x (List.mem_of_getElem? hx)
      have hlc : cur.length = n := by rw [HL.out, HN.out]
      obtain ⟨a, cap, e3, h00 | ⟨e4, f, N, hr, hN, hfx⟩⟩ := HFR.out.ways
      · have h00' : cur.length = 0 := h00
        omega
      have hN' : cur.length * 5 ≤ N := hN
      have hO := hfx j x hcx
      cases e3
      subst e4
      have hne : bb2 j ≠ bw := by
        obtain ⟨g, M, c, -, hg, -⟩ := hO.2.2.1
        exact rowIs_ne hg hr (by decide)
      obtain ⟨k0, k1, k2, k3, k4⟩ := hO
      have HO : Hid (HeldO wr f j x (bb2 j)) := ⟨k0, k1, k2, k3, k4⟩
      have g0 := hr.cell (i := j * 5) (by omega)
      have g1 := hr.cell (i := j * 5 + 1) (by omega)
      have g2 := hr.cell (i := j * 5 + 2) (by omega)
      have g3 := hr.cell (i := j * 5 + 3) (by omega)
      have g4 := hr.cell (i := j * 5 + 4) (by omega)
      obtain ⟨gg, MM, cc, kv, -, -⟩ := id k2
      rw [kv] at g2
      have z0 := hr.frozen (j * 5)
      have z1 := hr.frozen (j * 5 + 1)
      have z3 := hr.frozen (j * 5 + 3)
      have z4 := hr.frozen (j * 5 + 4)
      have R2 := (hr.set (j * 5) (.int .i64 q)).set (j * 5 + 1) (.int .i64 (q + 1))
      have o2 : OBools ((wr.setCell ⟨bw, j * 5, none⟩ (.int .i64 q)).setCell ⟨bw, j * 5 + 1, none⟩ (.int .i64 (q + 1))) (f (j * 5 + 2)) x.been (bb2 j) := by
        obtain ⟨g, M, c, hv, hg, kk⟩ := k2
        exact ⟨g, M, c, hv, (hg.setOther hne _).setOther hne _, kk⟩
      have KV := hide kv
      rw [kv] at o2
      have O2 := hide o2
      have HR := hide hr
      have HR2 := hide R2
      have HNE := hide hne
      have HX := hide hx
      clear o2 hr R2 hne hx hcx k0 k1 k2 k3 k4 hfx kv
      go_wp2_with fail
      refine (markBools_own _ x.been (bb2 j) (q + 1 + 1) _ O2.out hxl (by omega) (by omega)).mono ?_
      rintro e w3 ⟨rfl, ho3, hb3⟩
      have R3 := hb3.row HR2.out (fun z => HNE.out z.symm)
      clear g0 g1 g2 g3 g4 z0 z1 z3 z4
      have g3 := R3.cell (i := j * 5 + 3) (by omega)
      have g4 := R3.cell (i := j * 5 + 4) (by omega)
      have z3 := R3.frozen (j * 5 + 3)
      have z4 := R3.frozen (j * 5 + 4)
      have O3 := hide ho3
      have B3 := hide hb3
      clear R3 ho3 hb3
      go_wp2
      go_roundw
      case rel =>
        refine ⟨j + 1, _, by omega, by go_num, ?_, rfl, ?_⟩
        · have := posH_succ (k := k) HX.out; have := Hq.out; omega
        · refine MarkR.next HL.out C1.out C2.out HFR.out HBT.out (fun c hc => hB c (Nat.le_trans HBT.out.size hc)) (by rw [HN.out]; exact hlt) HX.out HR.out ?_
          rw [← Hq.out]
          exact held_marked HR.out HO.out HNE.out rfl B3.out (by rw [KV.out]; exact O3.out) _ _ rfl rfl
      case measure => simp [intOf]; omega
    · go_wp2
      go_ret
      have hjn : j = n := by omega
      subst hjn
      refine ⟨ret_int ?_, ?_⟩
      · rw [Hq.out]; exact posH_end (by rw [HN.out]; exact Nat.le_refl _)
      · exact MarkR.end ⟨cur, bb2, HL.out, C1.out, C2.out, HFR.out, HBT.out⟩ HN.out.symm
end Go.Proofs.YtdhinkgjiapigaaDoor

import Derived.Test.YtdhinkgjiapigabGreatDoorFrA
import Derived.Test.YtdhinkgjiapigabGreatDoorBase
import Derived.Test.YtdhinkgjiapigabGreatDoorToA
import Derived.Deep.RegionWith
import Derived.Deep.DeepCutAuto
namespace Go.Proofs.YtdhinkgjiapigabGreatDoor
open Go.RowKit Go.Deep
open Classical

theorem any_no {l : List Int} {k : Nat} {y s : Int} (h : l[k]? = some y) (hy : (y == s) = true) : l.any (· == s) = true := by
  rw [List.any_eq_true]; exact ⟨y, List.mem_of_getElem? h, hy⟩
theorem any_snoc {l : List Int} {k : Nat} {y s : Int} (h : (l.take k).any (· == s) = false) (hy : l[k]? = some y) (e : (y == s) = false) : (l.take (k + 1)).any (· == s) = false := by
  rw [List.take_add_one, hy, List.any_append, h]; simp [e]

set_option maxHeartbeats 1000000 in
theorem indexInt_any (v : Value) (l : List Int) (s : Int) (w : World) (hv : Ints (In w) w v l) (hl : l.length ≤ 1048576) :
    Calls Tryz.prog 194 #[v, .int .i64 s] w fun e w' => ∃ r : Int, e = .returned (.int .i64 r) ∧ decide (0 ≤ r) = l.any (· == s) ∧ w' = w := by
  obtain ⟨a, cap, rfl, hc⟩ := hv
  have HC := hide hc
  clear hc
  go_enter Tryz.func194, Tryz.ntmps194
  go_wp2
  go_loop [8] (fun z => ∃ (q : Nat), q ≤ l.length ∧ z = .int .i64 q ∧ (l.take q).any (· == s) = false) (fun z => l.length - (intOf z).toNat)
  case atStart => exact ⟨0, Nat.zero_le _, rfl, by simp⟩
  case round =>
    obtain ⟨q, hq, rfl, hall⟩ := hrel
    have HA := hide hall
    clear hall
    by_cases hql : q < l.length
    · obtain h0 | ⟨b, off, rfl, hb0, hc⟩ := HC.out
      · omega
      obtain ⟨y, hy⟩ := lt_get' l hql
      have g0 := hc q hql y hy
      have Hy := hide hy
      clear hy hc
      cases hys : (s == y)
      · have hys' : (y == s) = false := by rw [← hys]; exact Bool.beq_comm ..
        go_wp2
        go_round
        case rel => exact ⟨q + 1, by omega, by go_num, any_snoc HA.out Hy.out hys'⟩
        case measure => simp [intOf]; omega
      · have hys' : (y == s) = true := by rw [← hys]; exact Bool.beq_comm ..
        go_wp2
        go_ret
        exact ⟨q, rfl, by rw [any_no Hy.out hys']; simp, rfl⟩
    · go_wp2
      go_ret
      exact ⟨-1, rfl, by have := HA.out; rw [List.take_of_length_le (by omega)] at this; rw [this]; rfl, rfl⟩

set_option maxHeartbeats 1000000 in
theorem containsInt_any (v : Value) (l : List Int) (s : Int) (w : World) (hv : Ints (In w) w v l) (hl : l.length ≤ 1048576) :
    Calls Tryz.prog 154 #[v, .int .i64 s] w fun e w' => e = .returned (.bool (l.any (· == s))) ∧ w' = w := by
  have hi := indexInt_any v l s w hv hl
  obtain ⟨a, cap, rfl, -⟩ := hv
  go_enter Tryz.func154, Tryz.ntmps154
  go_wp2_with fail
  refine hi.mono ?_
  rintro e w1 ⟨r, rfl, hr, rfl⟩
  have HR := hide hr
  clear hi hr
  go_wp2
  go_ret
  exact ⟨ret_bool (by rw [← HR.out]), rfl⟩
end Go.Proofs.YtdhinkgjiapigabGreatDoor

namespace Go.Proofs.YtdhinkgjiapigabGreatDoor
open Go.RowKit Go.Deep
open Classical

theorem Ints.drop {P : Nat → Prop} {w : World} {b off n : Nat} {l : List Int} (hn : n = l.length) (hb : P b) (h : ∀ i, i < n → ∀ x, l[i]? = some x → w.cell? ⟨b, off + i, none⟩ = some (.int .i64 x)) {g c m : Nat} (hm : m = (l.drop g).length) : Ints P w (.slice (some ⟨b, off + g, none⟩) m c) (l.drop g) := by
  subst hm
  refine ⟨_, _, rfl, .inr ⟨b, off + g, rfl, hb, fun i hi x hx => ?_⟩⟩
  rw [List.getElem?_drop] at hx
  have := h (g + i) (by rw [hn]; exact (List.getElem?_eq_some_iff.1 hx).1) x hx
  rwa [← Nat.add_assoc] at this

set_option maxRecDepth 100000 in
set_option maxHeartbeats 4000000 in
theorem keptBy_any (n hd ok p1 p2 p3 f1 f2 f3 : Value) (ways : List WayD) (helds : List HeldD) (i : Nat) (x : WayD) (h : HeldD) (s : Int) (w : World) (hp : WaysC (In w) w p2 ways) (hf : Helds (In w) w f3 helds)
    (hi : ways[i]? = some x) (hj : helds[i]? = some h) (_hw : ways.length ≤ 1048576) (_hh : helds.length ≤ 1048576) (hs : x.sections.length ≤ 1048576) (hg : 0 ≤ h.gone) (hg2 : h.gone < x.sections.length) :
    Calls Tryz.prog 113 #[.agg #[n, p1, p2, p3, hd, ok, f1, f2, f3, .int .i64 s], .int .i64 i] w fun e w' => e = .returned (.bool ((x.sections.drop h.gone.toNat).any (· == s))) ∧ Below w.heap.size w w' := by
  obtain ⟨ap, cp, rfl, hcp⟩ := hp
  obtain ⟨af, cf, rfl, hcf⟩ := hf
  have hil : i < ways.length := (List.getElem?_eq_some_iff.1 hi).1
  have hjl : i < helds.length := (List.getElem?_eq_some_iff.1 hj).1
  obtain h0 | ⟨bp, op, rfl, hbp, hcw⟩ := hcp
  · omega
  obtain h0 | ⟨bf, of, rfl, hbf, hch⟩ := hcf
  · omega
  obtain ⟨v0, v1, v2, v3, v4, ⟨⟨hv0, -, -, -, -⟩, hcap⟩, y0, -, -, -, -⟩ := hcw i hil x hi
  obtain ⟨asx, cs, rfl, hcs⟩ := hv0
  obtain ⟨_, _, _, e, hcap⟩ := hcap
  cases e
  obtain h0 | ⟨bs, os, rfl, hbs, hss⟩ := hcs
  · omega
  obtain ⟨u2, -, -, j1, -, -, -⟩ := hch i hjl h hj
  obtain ⟨g, hgn⟩ : ∃ g : Nat, h.gone = g := ⟨h.gone.toNat, by omega⟩
  rw [hgn] at j1 hg2 ⊢
  have hgt : ((g : Int)).toNat = g := by simp
  rw [hgt]
  have T0 := boxes1 w 130 #[n, p1, .slice (some ⟨bp, op, none⟩) ways.length cp, p3, hd, ok, f1, f2, .slice (some ⟨bf, of, none⟩) helds.length cf, .int .i64 s]
  have x0 := (T0.below.cell (p := ⟨bp, op + i * 5, none⟩) hbp).trans y0
  have z0 := (T0.below.cell (p := ⟨bf, of + i * 5 + 1, none⟩) hbf).trans j1
  have r2 := T0.cell (j := 0) (i := 2) rfl rfl
  have r8 := T0.cell (j := 0) (i := 8) rfl rfl
  have r9 := T0.cell (j := 0) (i := 9) rfl rfl
  rw [Nat.add_zero] at r2 r8 r9
  have hne : ¬ cs = g := by omega
  have hgl : (g : Int) ≤ (x.sections.length : Int) := by omega
  have hil' : (i : Int) < (ways.length : Int) := by omega
  have hjl' : (i : Int) < (helds.length : Int) := by omega
  have hsub : Ints (In (w.alloc (.cells #[n, p1, .slice (some ⟨bp, op, none⟩) ways.length cp, p3, hd, ok, f1, f2, .slice (some ⟨bf, of, none⟩) helds.length cf, .int .i64 s] 130))) _ (.slice (some ⟨bs, os + g, none⟩) (x.sections.length - g) (cs - g)) (x.sections.drop g) :=
    Ints.drop (P := In _) (b := bs) (off := os) rfl (Nat.lt_of_lt_of_le hbs T0.below.size) (fun k hk y hy => (T0.below.cell (p := ⟨bs, os + k, none⟩) hbs).trans (hss k hk y hy)) (by simp)
  have hci : ∀ n : Ext (w.alloc (.cells #[n, p1, .slice (some ⟨bp, op, none⟩) ways.length cp, p3, hd, ok, f1, f2, .slice (some ⟨bf, of, none⟩) helds.length cf, .int .i64 s] 130)), Calls Tryz.prog 154 #[.slice (some ⟨bs, os + g, none⟩) (x.sections.length - g) (cs - g), .int .i64 s] n.w fun e w' => e = .returned (.bool ((x.sections.drop g).any (· == s))) ∧ Below n.w.heap.size n.w w' := fun n =>
    (containsInt_any _ _ s _ (hsub.keep (In.keep n.below).1 (In.keep n.below).2) (by simp; omega)).mono fun e w' ⟨he, hw⟩ => ⟨he, by rw [hw]; exact Below.refl _ _⟩
  have HCI := hide hci
  have hne0 := Ext.any (w.alloc (.cells #[n, p1, .slice (some ⟨bp, op, none⟩) ways.length cp, p3, hd, ok, f1, f2, .slice (some ⟨bf, of, none⟩) helds.length cf, .int .i64 s] 130))
  have X0 := Ext.cell x0
  have Z0 := Ext.cell z0
  have R2 := Ext.cell r2
  have R8 := Ext.cell r8
  have R9 := Ext.cell r9
  clear hci hsub hcw hch hss hi hj y0 j1 x0 z0 r2 r8 r9
  have HT := hide T0
  clear T0
  go_enter Tryz.func113, Tryz.ntmps113
  go_wp2
  refine wp_region_ext (by kernel_rfl) (by kernel_rfl) ?_
  repeat (go_big_quiet_step ((go_at_call 154; exact ext_of (HCI.out _))))
  refine wpQuiet_nil ?_
  rintro _ ⟨nq, rfl⟩
  go_wp2
  go_ret
  exact ⟨rfl, (HT.out.call nq.below).below⟩
end Go.Proofs.YtdhinkgjiapigabGreatDoor

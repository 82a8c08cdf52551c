import Derived.Test.YtdnnblknjmlgeabGreatDoorRan
import Derived.Test.YtdnnblknjmlgeabGreatDoorBase
namespace Go.Proofs.YtdnnblknjmlgeabGreatDoor
open Go.RowKit Go.Shelf

attribute [local go_sem] Oper.semAt_some

set_option maxHeartbeats 2000000 in
theorem thoseInt_any (gf kf : Nat) (lb recv : Array Value) (w : World) :
    Calls Tryz.prog 105 #[.func (.func gf) #[] lb, .func (.func kf) recv #[]] w fun e w' => e = .returned (.func (.func 138) #[] #[.pointer (some ⟨w.heap.size, 0, none⟩), .pointer (some ⟨w.heap.size + 1, 0, none⟩)]) ∧
      w' = (w.alloc (.cells #[.func (.func gf) #[] lb] 123)).alloc (.cells #[.func (.func kf) recv #[]] 126) := by
  go_enter Tryz.func105, Tryz.ntmps105
  go_wp2
  go_ret
  exact ⟨rfl, rfl⟩

theorem Mid.cell {a b : Nat} {W W' : World} (h : Mid a b W W') {k o : Nat} (h1 : a ≤ k) (h2 : k < b) : W'.cell? ⟨k, o, none⟩ = W.cell? ⟨k, o, none⟩ := by
  unfold World.cell?
  rw [show W'.heap[(⟨k, o, none⟩ : Addr).block]? = W.heap[(⟨k, o, none⟩ : Addr).block]? from h k h1 h2]

theorem filter_snoc {α : Type} (p : α → Bool) (l : List α) (x : α) : (l ++ [x]).filter p = l.filter p ++ if p x then [x] else [] := by
  rw [List.filter_append]
  by_cases h : p x = true
  · simp [h]
  · simp [h]
theorem filter_prefix {α : Type} (p : α → Bool) {l r : List α} (h : l <+: r) : l.filter p <+: r.filter p := by
  obtain ⟨t, rfl⟩ := h
  rw [List.filter_append]
  exact List.prefix_append _ _

set_option maxRecDepth 100000 in
set_option maxHeartbeats 4000000 in
theorem thoseInt1_gives (gf kf : Nat) (lb recv : Array Value) (n0 c bV bK : Nat) (xs : List Nat) (keep : Nat → Bool) (w : World) (hbV : bV < n0) (hbK : bK < n0) (hn0 : n0 ≤ w.heap.size)
    (eg : ∀ args w, (callFunc gf args).run Tryz.prog w = .ok (.enter gf args) w) (ek : ∀ args w, (callFunc kf args).run Tryz.prog w = .ok (.enter kf args) w)
    (cV : w.cell? ⟨bV, 0, none⟩ = some (.func (.func gf) #[] lb)) (cK : w.cell? ⟨bK, 0, none⟩ = some (.func (.func kf) recv #[]))
    (hin : Gives Tryz.prog gf lb (fun i : Nat => #[.int .i64 (i : Int)]) n0 c xs w)
    (hkeep : ∀ x W, x ∈ xs → Below n0 w W → Calls Tryz.prog kf (recv.push (.int .i64 (x : Int))) W fun e W' => e = .returned (.bool (keep x)) ∧ Below W.heap.size W W') :
    Gives Tryz.prog 138 #[.pointer (some ⟨bV, 0, none⟩), .pointer (some ⟨bK, 0, none⟩)] (fun i : Nat => #[.int .i64 (i : Int)]) n0 (3 + c) (xs.filter keep) w := fun l J Jx W hW hJ hJx hY h0 => by
  have hWn : Below n0 w W := hW.mono hn0
  have hWs : n0 ≤ W.heap.size := Nat.le_trans hn0 hW.size
  have cV' := (hWn.cell (p := ⟨bV, 0, none⟩) hbV).trans cV
  have KK := hide fun (W' : World) (h : Below n0 w W') => (h.cell (p := ⟨bK, 0, none⟩) hbK).trans cK
  have HY := hide hY
  have HK := hide hkeep
  have HN := hide hin
  clear hY cV cK hkeep hin
  refine callsIn_of_wp_marks Tryz.func138 rfl trivial ?_ rfl
  simp only [Tryz.ntmps138, List.size_toArray, List.length_cons, List.length_nil, Nat.reduceAdd, Nat.reduceSub, Array.replicate_succ, Array.replicate_zero, List.push_toArray, List.append_toArray, List.nil_append, List.cons_append]
  have T1 := boxes1 W 126 #[.func (.yield l) #[] #[]]
  have cV2 := (T1.below.cell (p := ⟨bV, 0, none⟩) (by show bV < _; omega)).trans cV'
  have cY := T1.cell (j := 0) (i := 0) rfl rfl
  rw [Nat.add_zero] at cY
  have hz : (W.alloc (.cells #[.func (.yield l) #[] #[]] 126)).heap.size = W.heap.size + 1 := by simp
  gi_wp2
  refine range_gives (w0 := w) (n0 := n0) (c := c) rfl eg HN.out (hW.trans (T1.below.mono hW.size)) (by omega) (fun _ => rfl)
    (fun pre Wr => J (pre.filter keep) Wr ∧ Wr.cell? ⟨W.heap.size, 0, none⟩ = some (.func (.yield l) #[] #[]) ∧ Below n0 w Wr) (fun pre Wr => Jx (pre.filter keep) Wr)
    (fun s A B row hs hg hr => ⟨hJ _ A B row hs.1 hg fun r e => ⟨by have := (hr r e).1; omega, (hr r e).2⟩, cell_kept hs.2.1 hg fun r e => (hr r e).2, hs.2.2.grown hg (Nat.le_trans hn0 hs.2.2.size) fun r e => by have := (hr r e).1; omega⟩)
    (fun s A B row hs hg hr => hJx _ A B row hs hg fun r e => ⟨by have := (hr r e).1; omega, (hr r e).2⟩)
    ⟨ownFrom_call hJ h0 T1.below, cY, hWn.trans (T1.below.mono hWs)⟩
    (fun x => { tmps := #[.func (.yield l) #[] #[], .pointer (some ⟨bV, 0, none⟩), .pointer (some ⟨bK, 0, none⟩), .pointer (some ⟨W.heap.size, 0, none⟩), .int .i64 (x : Int), .func (.func gf) #[] lb, .int .i64 (x : Int), undef, undef, undef, undef, undef, undef, undef, undef, undef], defers := [] }) ?assign ?body ?done ?stop
  case assign =>
    intro lr x Wr K hK
    gi_wp2
    exact hK
  case body =>
    rintro lr pre x Wr hpre hsz ⟨hj, hc, hb⟩
    rw [hz] at hsz
    have kK := KK.out _ hb
    have hmem : x ∈ xs := hpre.subset (by simp)
    have hI := HK.out x Wr hmem hb
    have hfs := filter_snoc keep pre x
    have hfp := filter_prefix keep hpre
    have HJc := hide fun (w1 : World) (h : Below Wr.heap.size Wr w1) => ownFrom_call hJ hj h
    have Hb := hide hb
    have Hc := hide hc
    clear hj
    cases hkx : keep x
    · rw [hkx] at hI hfs
      have HI := hide hI
      have hfs' : (pre ++ [x]).filter keep = pre.filter keep := by rw [hfs]; simp
      have HFS := hide hfs'
      clear hI hfs hfs' hfp hkx
      gi_wp2
      refine ⟨trivial, rfl, CallsIn.inRound lr ((callsIn_wide.2 HI.out).mono ?_)⟩
      rintro e w1 ⟨rfl, hb1⟩
      gi_wp2
      refine ⟨fun _ h => (by cases h), ?_⟩
      gi_wp2
      have hb1n : Below n0 Wr w1 := hb1.mono (Nat.le_trans hn0 Hb.out.size)
      exact ⟨Mid.call hb1 (by omega), hb1n, by rw [HFS.out]; exact HJc.out _ hb1, (hb1.cell (p := ⟨W.heap.size, 0, none⟩) (by show W.heap.size < _; omega)).trans Hc.out, Hb.out.trans hb1n⟩
    · rw [hkx] at hI hfs
      have HI := hide hI
      have hfs' : (pre ++ [x]).filter keep = pre.filter keep ++ [x] := by rw [hfs]; simp
      rw [hfs'] at hfp
      have HFS := hide hfs'
      have HFP := hide hfp
      clear hI hfs hfs' hfp hkx
      gi_wp2
      refine ⟨trivial, rfl, CallsIn.inRound lr ((callsIn_wide.2 HI.out).mono ?_)⟩
      rintro e w1 ⟨rfl, hb1⟩
      have hb1n : Below n0 Wr w1 := hb1.mono (Nat.le_trans hn0 Hb.out.size)
      have hs1 := hb1.size
      have cY1 := (hb1.cell (p := ⟨W.heap.size, 0, none⟩) (by show W.heap.size < _; omega)).trans Hc.out
      obtain ⟨fn, tmps, assign, body, hy, hR⟩ := HY.out _ x w1 HFP.out (by omega) (HJc.out _ hb1)
      gi_wp2
      refine ⟨rfl, RoundIn.mono (F := Fence.wide.inRound lr) hR ?_⟩
      rintro e W3 (⟨rfl, hJ3, hk3, hm3⟩ | ⟨rfl, hJx3, hm3⟩)
      · gi_wp2
        exact ⟨(Mid.call hb1 (by omega)).trans (hm3.part (by omega) (by omega)), hb1n.trans hk3, by rw [HFS.out]; exact hJ3, (hm3.cell (Nat.le_refl _) (by omega)).trans cY1, (Hb.out.trans hb1n).trans hk3⟩
      · gi_wp2
        exact ⟨(Mid.call hb1 (by omega)).trans (hm3.part (by omega) (by omega)), by show Jx _ _; rw [HFS.out]; exact hJx3⟩
  case done =>
    rintro D Wr hD ⟨hj, -, -⟩ hK
    gi_wp2
    refine ⟨by simp, .inl ⟨_, _, rfl, run_takeDeferred hK, ?_⟩⟩
    exact ⟨_, results_none rfl _ _ _, ⟨_, rfl⟩, .inl (hJ.putObj _ hj (by omega) hK rfl)⟩
  case stop =>
    intro D pre Wr hD hpre hj hK
    gi_wp2
    refine ⟨by simp, .inl ⟨_, _, rfl, run_takeDeferred hK, ?_⟩⟩
    exact ⟨_, results_none rfl _ _ _, ⟨_, rfl⟩, .inr ⟨_, filter_prefix keep hpre, hJx.putObj _ hj (by omega) hK rfl⟩⟩
end Go.Proofs.YtdnnblknjmlgeabGreatDoor

import Derived.Test.YtdhinkgjiapigabGreatDoorPlM
import Derived.Test.YtdhinkgjiapigabGreatDoorLocksA
namespace Go.Proofs.YtdhinkgjiapigabGreatDoor
open Go.RowKit Go.Deep
open Classical

/-- What PointLock answers. -/
def pointsOf (p : PlanD) (d : FrameD) (k : Int) [Decidable (FrameR p d ∧ InR k 0 ((p.switches.length : Int) - 1))] : List Int := if FrameR p d ∧ InR k 0 ((p.switches.length : Int) - 1) then pointD p d k else []
theorem pointsOf_pos {p : PlanD} {d : FrameD} {k : Int} (h1 : FrameR p d) (h2 : InR k 0 ((p.switches.length : Int) - 1)) : pointsOf p d k = pointD p d k := if_pos ⟨h1, h2⟩
theorem pointsOf_neg {p : PlanD} {d : FrameD} {k : Int} (h : ¬ (FrameR p d ∧ InR k 0 ((p.switches.length : Int) - 1))) : pointsOf p d k = [] := if_neg h
theorem pointsOf_length (p : PlanD) (d : FrameD) (k : Int) (hs : p.Small 1048576) : (pointsOf p d k).length ≤ 1048576 := by
  by_cases h : FrameR p d ∧ InR k 0 ((p.switches.length : Int) - 1)
  · rw [pointsOf_pos h.1 h.2]
    unfold pointD
    exact Nat.le_trans (filt_length _ _) hs.2.1
  · rw [pointsOf_neg h]; simp
/-- A list of ints in a row of the call's own. -/
def OwnI (base : Nat) (w : World) (v : Value) (l : List Int) : Prop := ∃ m, w.ownsRow base 3 1 v m (ints l)
theorem OwnI.nil (base : Nat) (w : World) : OwnI base w (.slice none 0 0) [] := ⟨0, World.ownsRow_nil _ _ _ _⟩
theorem OwnI.low {b b' : Nat} {w : World} {v : Value} {l : List Int} (h : OwnI b w v l) (hb : b' ≤ b) : OwnI b' w v l := by
  obtain ⟨m, h⟩ := h
  refine ⟨m, h.1, ?_⟩
  rcases h.2 with q | ⟨g, cap, cur, h1, h2, h3⟩
  · exact .inl q
  · exact .inr ⟨g, cap, cur, h1, by omega, h3⟩

set_option maxRecDepth 100000 in
set_option maxHeartbeats 4000000 in
theorem specPointLock_any (p1 p2 p3 f1 f2 f3 : Value) (p : PlanD) (d : FrameD) (k : Int) (w : World) (hp : PlanAt (In w) w p1 p2 p3 p) (hf : FrameAt (In w) w f1 f2 f3 d) (hs : p.Small 1048576) (hd : d.Small 1048576) :
    Calls Tryz.prog 42 #[.agg #[.int .i64 p.sections, p1, p2, p3, .int .i64 p.hold], .agg #[.bool d.ok, f1, f2, f3], .int .i64 k] w fun e w' => ∃ v, e = .returned v ∧ Below w.heap.size w w' ∧ OwnI w.heap.size w' v (pointsOf p d k) := by
  have T0 := boxes2 w 37 42 #[.int .i64 p.sections, p1, p2, p3, .int .i64 p.hold] #[.bool d.ok, f1, f2, f3]
  have KP := hide fun (W : World) (h : Below w.heap.size w W) => hp.keep (Q := In W) (In.keep h).1 (In.keep h).2
  have KF := hide fun (W : World) (h : Below w.heap.size w W) => hf.keep (Q := In W) (In.keep h).1 (In.keep h).2
  obtain ⟨a1, c1, rfl⟩ := hp.1.size
  obtain ⟨a2, c2, rfl⟩ := hp.2.1.size
  obtain ⟨a3, c3, rfl⟩ := hp.2.2.size
  obtain ⟨o1, m1, rfl⟩ := hf.1.size
  obtain ⟨o2, m2, rfl⟩ := hf.2.1.size
  obtain ⟨o3, m3, rfl⟩ := hf.2.2.size
  have HS := hide hs
  have HD := hide hd
  have hwl : p.ways.length ≤ 1048576 := hs.2.1
  clear hs hd hp hf
  have hsl := HS.out.1
  go_enter Tryz.func42, Tryz.ntmps42
  have b0 := T0.cell (j := 0) (i := 0) rfl rfl
  have b1 := T0.cell (j := 0) (i := 1) rfl rfl
  have b2 := T0.cell (j := 0) (i := 2) rfl rfl
  have b3 := T0.cell (j := 0) (i := 3) rfl rfl
  have b4 := T0.cell (j := 0) (i := 4) rfl rfl
  have e0 := T0.cell (j := 1) (i := 0) rfl rfl
  have e1 := T0.cell (j := 1) (i := 1) rfl rfl
  have e2 := T0.cell (j := 1) (i := 2) rfl rfl
  have e3 := T0.cell (j := 1) (i := 3) rfl rfl
  rw [Nat.add_zero] at b0 b1 b2 b3 b4
  go_wp2_with fail
  refine (specFrameOk_any _ _ _ _ _ _ p d _ (KP.out _ T0.below) (KF.out _ T0.below) HS.out HD.out).mono ?_
  clear b0 b1 b2 b3 b4 e0 e1 e2 e3
  rintro e w1 ⟨rfl, hb⟩
  have T1 := T0.call hb
  clear T0 hb
  have b0 := T1.cell (j := 0) (i := 0) rfl rfl
  have b1 := T1.cell (j := 0) (i := 1) rfl rfl
  have b2 := T1.cell (j := 0) (i := 2) rfl rfl
  have b3 := T1.cell (j := 0) (i := 3) rfl rfl
  have b4 := T1.cell (j := 0) (i := 4) rfl rfl
  have e0 := T1.cell (j := 1) (i := 0) rfl rfl
  have e1 := T1.cell (j := 1) (i := 1) rfl rfl
  have e2 := T1.cell (j := 1) (i := 2) rfl rfl
  have e3 := T1.cell (j := 1) (i := 3) rfl rfl
  rw [Nat.add_zero] at b0 b1 b2 b3 b4
  by_cases hfr : FrameR p d
  case neg =>
    rw [B_false hfr]
    have HFR := hide hfr
    have HT := hide T1.below
    clear hfr T1
    go_wp2
    go_ret
    exact ⟨_, rfl, HT.out, by rw [pointsOf_neg fun z => HFR.out z.1]; exact OwnI.nil _ _⟩
  rw [B_true hfr]
  have HFR := hide hfr
  clear hfr
  go_wp2_with fail
  refine (l1in_any _ _ _ _).mono ?_
  rintro e w2 ⟨rfl, rfl⟩
  by_cases hin : InR k 0 ((p.switches.length : Int) - 1)
  case neg =>
    rw [B_false hin]
    have HIN := hide hin
    have HT := hide T1.below
    clear hin T1
    go_wp2
    go_ret
    exact ⟨_, rfl, HT.out, by rw [pointsOf_neg fun z => HIN.out z.2]; exact OwnI.nil _ _⟩
  rw [B_true hin]
  have HIN := hide hin
  obtain ⟨q, rfl⟩ : ∃ q : Nat, k = q := ⟨k.toNat, by have := hin.1; omega⟩
  have hq : q < p.switches.length := by have := hin.2; omega
  clear hin
  go_wp2_with fail
  refine (l3point_any _ _ _ _ _ _ _ _ _ p d q _ (KP.out _ T1.below).1 (KP.out _ T1.below).2.1 (KF.out _ T1.below).2.2 HFR.out.2.2.2.2.1 HS.out (fun i g hg => by
    obtain ⟨x, hx⟩ := get_some p.ways (hide rfl) (show i < p.ways.length by have := (List.getElem?_eq_some_iff.1 hg).1; have := HFR.out.2.2.2.2.1; omega)
    exact (frame_gone HFR.out hx hg).1) hq).mono ?_
  clear b0 b1 b2 b3 b4 e0 e1 e2 e3
  rintro e w3 ⟨v, rfl, hb, hown⟩
  have HT := hide (T1.call hb).below
  have HO := hide hown
  have hsz := T1.below.size
  clear T1 hb hown
  go_wp2
  go_ret
  exact ⟨v, rfl, HT.out, by rw [pointsOf_pos HFR.out HIN.out]; exact OwnI.low HO.out (by omega)⟩
end Go.Proofs.YtdhinkgjiapigabGreatDoor

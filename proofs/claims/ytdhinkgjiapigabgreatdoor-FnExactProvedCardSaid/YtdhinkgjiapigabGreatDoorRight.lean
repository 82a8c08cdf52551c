import Derived.Test.YtdhinkgjiapigabGreatDoorSpec4
import Derived.Test.YtdhinkgjiapigabGreatDoorBase
namespace Go.Proofs.YtdhinkgjiapigabGreatDoor
open Go.RowKit Go.Deep
open Classical

/-- The plan is right. -/
def Right (d : PlanD) : Prop := FaultBy (Bad5 d) d 0 0
theorem right_iff {d : PlanD} {c a : Int} (h : FaultBy (Bad5 d) d c a) : c = 0 ↔ Right d := by
  constructor
  · rintro rfl
    have ha : a = 0 := by
      rcases h with ⟨-, h, -⟩ | ⟨-, ⟨k, -, h, -⟩ | ⟨-, ⟨k, -, h, -⟩ | ⟨-, ⟨-, h, -⟩ | ⟨-, ⟨k, -, h, -⟩ | ⟨-, ⟨k, -, h, -⟩ | ⟨-, -, h⟩⟩⟩⟩⟩⟩
      all_goals first | exact h | omega
    rw [ha] at h
    exact h
  · exact fun hr => (FaultBy.uniq _ _ _ _ _ _ h hr).1

set_option maxHeartbeats 400000 in
theorem l1ok_any (v1 v2 v3 : Value) (d : PlanD) (w : World) (hp : PlanAt (In w) w v1 v2 v3 d) (hs : d.Small 1048576) :
    Calls Tryz.prog 64 #[.agg #[.int .i64 d.sections, v1, v2, v3, .int .i64 d.hold]] w fun e w' => e = .returned (.bool (B (Right d))) ∧ Below w.heap.size w w' := by
  have T0 := boxes1 w 37 #[.int .i64 d.sections, v1, v2, v3, .int .i64 d.hold]
  have hp0 := hp.keep (In.keep T0.below).1 (In.keep T0.below).2
  clear hp
  go_enter Tryz.func64, Tryz.ntmps64
  go_wp2_with fail
  refine (specPlanOk_any v1 v2 v3 d _ hp0 hs).mono ?_
  rintro e w1 ⟨c, a, rfl, hf, hb⟩
  have hr := right_iff hf
  have T1 := T0.call hb
  have T2 := T1.call (below_new _ (.cells #[.int .i64 c, .int .i64 a] 157))
  have HR := hide hr
  clear hr hf T0 T1 hb hp0
  by_cases hc : c = 0
  · subst hc
    have e1 : B (Right d) = true := B_true (HR.out.1 rfl)
    have E1 := hide e1
    clear e1
    go_wp2
    go_ret
    exact ⟨ret_bool (by rw [E1.out]), T2.below⟩
  · have hc' : (c == 0) = false := by simpa using hc
    have e1 : B (Right d) = false := B_false fun h => hc (HR.out.2 h)
    have E1 := hide e1
    clear e1
    go_wp2
    go_ret
    exact ⟨ret_bool (by rw [E1.out]), T2.below⟩
theorem Right.parts {p : PlanD} (h : Right p) : (InR p.sections 1 60 ∧ p.switches.length ≤ 40 ∧ p.ways.length ≤ 100 ∧ InR p.hold 1 300) ∧ (∀ k, ¬ Bad2 p k) ∧ (∀ k, ¬ Bad3 p k) ∧ p.bars.length = p.ways.length ∧ (∀ k, ¬ Bad4 p k) ∧ ∀ k, ¬ Bad5 p k := by
  rcases h with ⟨-, h, -⟩ | ⟨h1, ⟨k, -, h, -⟩ | ⟨h2, ⟨k, -, h, -⟩ | ⟨h3, ⟨-, h, -⟩ | ⟨h4, ⟨k, -, h, -⟩ | ⟨h5, ⟨k, -, h, -⟩ | ⟨h6, -, h⟩⟩⟩⟩⟩⟩
  all_goals first | (exfalso; omega) | skip
  exact ⟨Decidable.byContradiction h1, h2, h3, Decidable.byContradiction h4, h5, h6⟩
end Go.Proofs.YtdhinkgjiapigabGreatDoor

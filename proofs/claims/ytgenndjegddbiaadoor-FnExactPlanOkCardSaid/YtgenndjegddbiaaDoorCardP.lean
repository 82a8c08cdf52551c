import Derived.Test.YtgenndjegddbiaaDoorLiftP
import Derived.Test.YtgenndjegddbiaaDoorTie
import Derived.Test.YtgenndjegddbiaaDoorCards
import Derived.SevenTiedAt
namespace Go.Proofs.YtgenndjegddbiaaDoor
open Go

theorem fnExactPlanOk_card : Rows.FnExactPlanOkCardSaid :=
  Claim7.holds_tied_plain_at .later [] [.handle] true Rows.fnExactPlanOkCard.stood.harness true
    lawP_holds (fun _ h => by cases h) (by kernel_rfl) (fun _ h => by cases h) fnExactPlanOk_row_tie rfl ⟨rfl, rfl⟩ (by kernel_rfl) rfl
    (fun f fn hf hfn => by
      obtain rfl : f = 4 := Option.some.inj ((show Tryd.prog.funcNamed Tryd.f4.name = some 4 by kernel_rfl).symm.trans hf) |>.symm
      obtain rfl : fn = Tryd.f4 := (Option.some.inj (Tryd.func4.symm.trans hfn)).symm
      exact ⟨by kernel_rfl, fun j t ht => by
        rw [Tryd.params4] at ht
        have hm : t ∈ [47] := by simpa using Array.mem_of_getElem? ht
        have hall : ([47].all fun u => !Tryd.prog.wantsStandIn u) = true := by kernel_rfl
        exact (show Tryd.prog.wantsStandIn t = false by simpa using List.all_eq_true.1 hall t hm)⟩)
    (by kernel_rfl)
#print axioms fnExactPlanOk_card
end Go.Proofs.YtgenndjegddbiaaDoor

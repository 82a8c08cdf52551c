import Derived.Test.YtdhinkgjiapigaaDoorLiftP
import Derived.Test.YtdhinkgjiapigaaDoorTie
import Derived.Test.YtdhinkgjiapigaaDoorCards
import Derived.SevenTiedAt
namespace Go.Proofs.YtdhinkgjiapigaaDoor
open Go

theorem fnExactPlanOk_card : Rows.FnExactPlanOkCardSaid :=
  Claim7.holds_tied_plain_at .later [] [.handle] true Rows.fnExactPlanOkCard.stood.harness true
    lawP_holds (fun _ h => by cases h) (by kernel_rfl) (fun _ h => by cases h) fnExactPlanOk_row_tie rfl ⟨rfl, rfl⟩ (by kernel_rfl) rfl
    (fun f fn hf hfn => by
      obtain rfl : f = 3 := Option.some.inj ((show Tryd.prog.funcNamed Tryd.f3.name = some 3 by kernel_rfl).symm.trans hf) |>.symm
      obtain rfl : fn = Tryd.f3 := (Option.some.inj (Tryd.func3.symm.trans hfn)).symm
      exact ⟨by kernel_rfl, fun j t ht => by
        rw [Tryd.params3] at ht
        have hm : t ∈ [26] := by simpa using Array.mem_of_getElem? ht
        have hall : ([26].all fun u => !Tryd.prog.wantsStandIn u) = true := by kernel_rfl
        exact (show Tryd.prog.wantsStandIn t = false by simpa using List.all_eq_true.1 hall t hm)⟩)
    (by kernel_rfl)
#print axioms fnExactPlanOk_card
end Go.Proofs.YtdhinkgjiapigaaDoor

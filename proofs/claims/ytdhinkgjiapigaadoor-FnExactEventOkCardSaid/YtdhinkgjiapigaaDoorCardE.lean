import Derived.Test.YtdhinkgjiapigaaDoorLiftE
import Derived.Test.YtdhinkgjiapigaaDoorTie
import Derived.Test.YtdhinkgjiapigaaDoorCards
import Derived.SevenTiedAt
namespace Go.Proofs.YtdhinkgjiapigaaDoor
open Go

theorem fnExactEventOk_card : Rows.FnExactEventOkCardSaid :=
  Claim7.holds_tied_plain_at .later [] [.handle] true Rows.fnExactEventOkCard.stood.harness true
    lawE_holds (fun _ h => by cases h) (by kernel_rfl) (fun _ h => by cases h) fnExactEventOk_row_tie rfl ⟨rfl, rfl⟩ (by kernel_rfl) rfl
    (fun f fn hf hfn => by
      obtain rfl : f = 5 := Option.some.inj ((show Tryd.prog.funcNamed Tryd.f5.name = some 5 by kernel_rfl).symm.trans hf) |>.symm
      obtain rfl : fn = Tryd.f5 := (Option.some.inj (Tryd.func5.symm.trans hfn)).symm
      exact ⟨by kernel_rfl, fun j t ht => by
        rw [Tryd.params5] at ht
        have hm : t ∈ [26, 48] := by simpa using Array.mem_of_getElem? ht
        have hall : ([26, 48].all fun u => !Tryd.prog.wantsStandIn u) = true := by kernel_rfl
        exact (show Tryd.prog.wantsStandIn t = false by simpa using List.all_eq_true.1 hall t hm)⟩)
    (by kernel_rfl)
#print axioms fnExactEventOk_card
end Go.Proofs.YtdhinkgjiapigaaDoor

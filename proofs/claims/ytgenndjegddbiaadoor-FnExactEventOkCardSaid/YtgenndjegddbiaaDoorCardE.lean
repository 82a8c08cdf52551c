import Derived.Test.YtgenndjegddbiaaDoorLiftE
import Derived.Test.YtgenndjegddbiaaDoorTie
import Derived.Test.YtgenndjegddbiaaDoorCards
import Derived.SevenTiedAt
namespace Go.Proofs.YtgenndjegddbiaaDoor
open Go

theorem fnExactEventOk_card : Rows.FnExactEventOkCardSaid :=
  Claim7.holds_tied_plain_at .later [] [.handle] true Rows.fnExactEventOkCard.stood.harness true
    lawE_holds (fun _ h => by cases h) (by kernel_rfl) (fun _ h => by cases h) fnExactEventOk_row_tie rfl ⟨rfl, rfl⟩ (by kernel_rfl) rfl
    (fun f fn hf hfn => by
      obtain rfl : f = 6 := Option.some.inj ((show Tryd.prog.funcNamed Tryd.f6.name = some 6 by kernel_rfl).symm.trans hf) |>.symm
      obtain rfl : fn = Tryd.f6 := (Option.some.inj (Tryd.func6.symm.trans hfn)).symm
      exact ⟨by kernel_rfl, fun j t ht => by
        rw [Tryd.params6] at ht
        have hm : t ∈ [47, 60] := by simpa using Array.mem_of_getElem? ht
        have hall : ([47, 60].all fun u => !Tryd.prog.wantsStandIn u) = true := by kernel_rfl
        exact (show Tryd.prog.wantsStandIn t = false by simpa using List.all_eq_true.1 hall t hm)⟩)
    (by kernel_rfl)
#print axioms fnExactEventOk_card
end Go.Proofs.YtgenndjegddbiaaDoor

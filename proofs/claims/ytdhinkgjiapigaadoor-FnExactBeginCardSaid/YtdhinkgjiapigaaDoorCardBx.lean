import Derived.Test.YtdhinkgjiapigaaDoorLiftBx
import Derived.Test.YtdhinkgjiapigaaDoorTie
import Derived.Test.YtdhinkgjiapigaaDoorCards
import Derived.SevenTiedAt
namespace Go.Proofs.YtdhinkgjiapigaaDoor
open Go

theorem fnExactBegin_card : Rows.FnExactBeginCardSaid :=
  Claim7.holds_tied_plain_at .later [] [.handle] true Rows.fnExactBeginCard.stood.harness true
    lawB_holds (fun _ h => by cases h) (by kernel_rfl) (fun _ h => by cases h) fnExactBegin_row_tie rfl ⟨rfl, rfl⟩ (by kernel_rfl) rfl
    (fun f fn hf hfn => by
      obtain rfl : f = 4 := Option.some.inj ((show Tryd.prog.funcNamed Tryd.f4.name = some 4 by kernel_rfl).symm.trans hf) |>.symm
      obtain rfl : fn = Tryd.f4 := (Option.some.inj (Tryd.func4.symm.trans hfn)).symm
      exact ⟨by kernel_rfl, fun j t ht => by
        rw [Tryd.params4] at ht
        have hm : t ∈ [26] := by simpa using Array.mem_of_getElem? ht
        have hall : ([26].all fun u => !Tryd.prog.wantsStandIn u) = true := by kernel_rfl
        exact (show Tryd.prog.wantsStandIn t = false by simpa using List.all_eq_true.1 hall t hm)⟩)
    (by kernel_rfl)
#print axioms fnExactBegin_card
end Go.Proofs.YtdhinkgjiapigaaDoor

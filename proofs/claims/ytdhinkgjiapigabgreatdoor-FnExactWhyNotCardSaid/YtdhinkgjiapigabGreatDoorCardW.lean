import Derived.Test.YtdhinkgjiapigabGreatDoorLiftW
import Derived.Test.YtdhinkgjiapigabGreatDoorGoW
import Derived.Test.YtdhinkgjiapigabGreatDoorTie
import Derived.Test.YtdhinkgjiapigabGreatDoorCards
import Derived.SevenTiedAt
namespace Go.Proofs.YtdhinkgjiapigabGreatDoor
open Go

theorem fnExactWhyNot_card : Rows.FnExactWhyNotCardSaid :=
  Claim7.holds_tied_plain_at .later [] [.handle] true Rows.fnExactWhyNotCard.stood.harness true
    lawW_holds (fun _ h => by cases h) (by kernel_rfl) (fun _ h => by cases h) fnExactWhyNot_row_tie rfl ⟨rfl, rfl⟩ (by kernel_rfl) rfl
    (fun f fn hf hfn => by
      obtain rfl : f = 9 := Option.some.inj ((show Tryz.prog.funcNamed Tryz.f9.name = some 9 by kernel_rfl).symm.trans hf) |>.symm
      obtain rfl : fn = Tryz.f9 := (Option.some.inj (Tryz.func9.symm.trans hfn)).symm
      exact ⟨Tryz.looksW, fun j t ht => by
        rw [Tryz.params9] at ht
        have hm : t ∈ [26, 31, 3] := by simpa using Array.mem_of_getElem? ht
        have hall : ([26, 31, 3].all fun u => !Tryz.prog.wantsStandIn u) = true := by kernel_rfl
        exact (show Tryz.prog.wantsStandIn t = false by simpa using List.all_eq_true.1 hall t hm)⟩)
    Tryz.goW
#print axioms fnExactWhyNot_card
end Go.Proofs.YtdhinkgjiapigabGreatDoor

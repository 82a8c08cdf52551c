import Derived.Test.YtdhinkgjiapigaaGreatDoorLiftSp
import Derived.Test.YtdhinkgjiapigaaGreatDoorGoSp
import Derived.Test.YtdhinkgjiapigaaGreatDoorTie
import Derived.Test.YtdhinkgjiapigaaGreatDoorCards
import Derived.SevenTiedAt
namespace Go.Proofs.YtdhinkgjiapigaaGreatDoor
open Go

theorem fnSpoilt_card : Rows.FnSpoiltCardSaid :=
  Claim7.holds_tied_plain_at .later [] [.data, .data, .data, .handle, .data] true Rows.fnSpoiltCard.stood.harness true
    zxb (fun _ h => by cases h) (by kernel_rfl) (fun _ h => by cases h) fnSpoilt_row_tie rfl ⟨rfl, rfl⟩ (by kernel_rfl) rfl
    (fun f fn hf hfn => by
      obtain rfl : f = 11 := Option.some.inj ((show Tryz.prog.funcNamed Tryz.f11.name = some 11 by kernel_rfl).symm.trans hf) |>.symm
      obtain rfl : fn = Tryz.f11 := (Option.some.inj (Tryz.func11.symm.trans hfn)).symm
      exact ⟨Tryz.looksSp, fun j t ht => by
        rw [Tryz.params11] at ht
        have hm : t ∈ [22] := by simpa using Array.mem_of_getElem? ht
        have hall : ([22].all fun u => !Tryz.prog.wantsStandIn u) = true := by kernel_rfl
        exact (show Tryz.prog.wantsStandIn t = false by simpa using List.all_eq_true.1 hall t hm)⟩)
    Tryz.goSp
#print axioms fnSpoilt_card
end Go.Proofs.YtdhinkgjiapigaaGreatDoor

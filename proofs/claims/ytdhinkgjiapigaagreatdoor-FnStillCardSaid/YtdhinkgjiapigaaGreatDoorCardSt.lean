import Derived.Test.YtdhinkgjiapigaaGreatDoorLiftSt
import Derived.Test.YtdhinkgjiapigaaGreatDoorGoSt
import Derived.Test.YtdhinkgjiapigaaGreatDoorTie
import Derived.Test.YtdhinkgjiapigaaGreatDoorCards
import Derived.SevenTiedAt
namespace Go.Proofs.YtdhinkgjiapigaaGreatDoor
open Go
theorem fnStill_card:Rows.FnStillCardSaid:=
 Claim7.holds_tied_plain_at .later [] [.handle] true Rows.fnStillCard.stood.harness true
  zvu (fun _ h=>by cases h) (by kernel_rfl) (fun _ h=>by cases h) fnStill_row_tie rfl ⟨rfl,rfl⟩ (by kernel_rfl) rfl
  (fun f fn hf hfn=>by
   obtain rfl:f = 5:=Option.some.inj ((show Tryz.prog.funcNamed Tryz.f5.name = some 5 by kernel_rfl).symm.trans hf) |>.symm
   obtain rfl:fn = Tryz.f5:=(Option.some.inj (Tryz.func5.symm.trans hfn)).symm
   exact ⟨Tryz.looksSt,fun j t ht=>by
    rw [Tryz.params5] at ht
    have hm:t ∈ [22]:=by simpa using Array.mem_of_getElem? ht
    have hall:([22].all fun u=>!Tryz.prog.wantsStandIn u) = true:=by kernel_rfl
    exact (show Tryz.prog.wantsStandIn t = false by simpa using List.all_eq_true.1 hall t hm)⟩)
  Tryz.goSt
#print axioms fnStill_card
end Go.Proofs.YtdhinkgjiapigaaGreatDoor

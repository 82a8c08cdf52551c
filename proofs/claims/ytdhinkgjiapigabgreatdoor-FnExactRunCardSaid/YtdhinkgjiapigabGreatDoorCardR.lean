import Derived.Test.YtdhinkgjiapigabGreatDoorLiftR
import Derived.Test.YtdhinkgjiapigabGreatDoorGoR
import Derived.Test.YtdhinkgjiapigabGreatDoorTie
import Derived.Test.YtdhinkgjiapigabGreatDoorCards
import Derived.SevenTiedAt
namespace Go.Proofs.YtdhinkgjiapigabGreatDoor
open Go
theorem fnExactRun_card:Rows.FnExactRunCardSaid:=
 Claim7.holds_tied_plain_at .later [] [.handle] true Rows.fnExactRunCard.stood.harness true
  lawR_holds (fun _ h=>by cases h) (by kernel_rfl) (fun _ h=>by cases h) fnExactRun_row_tie rfl ⟨rfl,rfl⟩ (by kernel_rfl) rfl
  (fun f fn hf hfn=>by
   obtain rfl:f = 5:=Option.some.inj ((show Tryz.prog.funcNamed Tryz.f5.name = some 5 by kernel_rfl).symm.trans hf) |>.symm
   obtain rfl:fn = Tryz.f5:=(Option.some.inj (Tryz.func5.symm.trans hfn)).symm
   exact ⟨Tryz.looksR,fun j t ht=>by
    rw [Tryz.params5] at ht
    have hm:t ∈ [26,59]:=by simpa using Array.mem_of_getElem? ht
    have hall:([26,59].all fun u=>!Tryz.prog.wantsStandIn u) = true:=by kernel_rfl
    exact (show Tryz.prog.wantsStandIn t = false by simpa using List.all_eq_true.1 hall t hm)⟩)
  Tryz.goR
#print axioms fnExactRun_card
end Go.Proofs.YtdhinkgjiapigabGreatDoor

import Derived.Test.YtdhinkgjiapigabGreatDoorLiftD
import Derived.Test.YtdhinkgjiapigabGreatDoorGoD
import Derived.Test.YtdhinkgjiapigabGreatDoorTie
import Derived.Test.YtdhinkgjiapigabGreatDoorCards
import Derived.SevenTiedAt
namespace Go.Proofs.YtdhinkgjiapigabGreatDoor
open Go
theorem fnExactDo_card:Rows.FnExactDoCardSaid:=
 Claim7.holds_tied_plain_at .later [] [.handle] true Rows.fnExactDoCard.stood.harness true
  lawD_holds (fun _ h=>by cases h) (by kernel_rfl) (fun _ h=>by cases h) fnExactDo_row_tie rfl ⟨rfl,rfl⟩ (by kernel_rfl) rfl
  (fun f fn hf hfn=>by
   obtain rfl:f = 4:=Option.some.inj ((show Tryz.prog.funcNamed Tryz.f4.name = some 4 by kernel_rfl).symm.trans hf) |>.symm
   obtain rfl:fn = Tryz.f4:=(Option.some.inj (Tryz.func4.symm.trans hfn)).symm
   exact ⟨Tryz.looksD,fun j t ht=>by
    rw [Tryz.params4] at ht
    have hm:t ∈ [26,31,48]:=by simpa using Array.mem_of_getElem? ht
    have hall:([26,31,48].all fun u=>!Tryz.prog.wantsStandIn u) = true:=by kernel_rfl
    exact (show Tryz.prog.wantsStandIn t = false by simpa using List.all_eq_true.1 hall t hm)⟩)
  Tryz.goD
#print axioms fnExactDo_card
end Go.Proofs.YtdhinkgjiapigabGreatDoor

import Derived.Test.YtdhinkgjiapigabGreatDoorLiftH
import Derived.Test.YtdhinkgjiapigabGreatDoorTie
import Derived.Test.YtdhinkgjiapigabGreatDoorCards
import Derived.SevenTiedAt
namespace Go.Proofs.YtdhinkgjiapigabGreatDoor
open Go
theorem fnExactShown_card:Rows.FnExactShownCardSaid:=
 Claim7.holds_tied_plain_at .later [] [.handle,.data] true Rows.fnExactShownCard.stood.harness true
  lawH_holds (fun _ h=>by cases h) (by kernel_rfl) (fun _ h=>by cases h) fnExactShown_row_tie rfl ⟨rfl,rfl⟩ (by kernel_rfl) rfl
  (fun f fn hf hfn=>by
   obtain rfl:f = 11:=Option.some.inj ((show Tryz.prog.funcNamed Tryz.f11.name = some 11 by kernel_rfl).symm.trans hf) |>.symm
   obtain rfl:fn = Tryz.f11:=(Option.some.inj (Tryz.func11.symm.trans hfn)).symm
   exact ⟨by kernel_rfl,fun j t ht=>by
    rw [Tryz.params11] at ht
    have hm:t ∈ [26,31]:=by simpa using Array.mem_of_getElem? ht
    have hall:([26,31].all fun u=>!Tryz.prog.wantsStandIn u) = true:=by kernel_rfl
    exact (show Tryz.prog.wantsStandIn t = false by simpa using List.all_eq_true.1 hall t hm)⟩)
  (by kernel_rfl)
#print axioms fnExactShown_card
end Go.Proofs.YtdhinkgjiapigabGreatDoor

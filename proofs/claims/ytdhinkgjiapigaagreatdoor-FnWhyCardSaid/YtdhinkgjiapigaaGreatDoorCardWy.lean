import Derived.Test.YtdhinkgjiapigaaGreatDoorLiftWy
import Derived.Test.YtdhinkgjiapigaaGreatDoorGoWy
import Derived.Test.YtdhinkgjiapigaaGreatDoorTie
import Derived.Test.YtdhinkgjiapigaaGreatDoorCards
import Derived.SevenTiedAt
namespace Go.Proofs.YtdhinkgjiapigaaGreatDoor
open Go
theorem fnWhy_card:Rows.FnWhyCardSaid:=
 Claim7.holds_tied_plain_at .later [] [.handle] true Rows.fnWhyCard.stood.harness true
  zwg (fun _ h=>by cases h) (by kernel_rfl) (fun _ h=>by cases h) fnWhy_row_tie rfl ⟨rfl,rfl⟩ (by kernel_rfl) rfl
  (fun f fn hf hfn=>by
   obtain rfl:f = 10:=Option.some.inj ((show Tryz.prog.funcNamed Tryz.f10.name = some 10 by kernel_rfl).symm.trans hf) |>.symm
   obtain rfl:fn = Tryz.f10:=(Option.some.inj (Tryz.func10.symm.trans hfn)).symm
   exact ⟨Tryz.looksWy,fun j t ht=>by
    rw [Tryz.params10] at ht
    have hm:t ∈ [22]:=by simpa using Array.mem_of_getElem? ht
    have hall:([22].all fun u=>!Tryz.prog.wantsStandIn u) = true:=by kernel_rfl
    exact (show Tryz.prog.wantsStandIn t = false by simpa using List.all_eq_true.1 hall t hm)⟩)
  Tryz.goWy
#print axioms fnWhy_card
end Go.Proofs.YtdhinkgjiapigaaGreatDoor

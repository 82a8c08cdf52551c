import Derived.Test.YtdhinkgjiapigaaGreatDoorLiftBk
import Derived.Test.YtdhinkgjiapigaaGreatDoorTie
import Derived.Test.YtdhinkgjiapigaaGreatDoorCards
import Derived.SevenTiedAt
namespace Go.Proofs.YtdhinkgjiapigaaGreatDoor
open Go
theorem fnBack_card:Rows.FnBackCardSaid:=
 Claim7.holds_tied_plain_at .later [] [.handle] true Rows.fnBackCard.stood.harness true
  lawBk_holds (fun _ h=>by cases h) (by kernel_rfl) (fun _ h=>by cases h) fnBack_row_tie rfl ⟨rfl,rfl⟩ (by kernel_rfl) rfl
  (fun f fn hf hfn=>by
   obtain rfl:f = 9:=Option.some.inj ((show Tryz.prog.funcNamed Tryz.f9.name = some 9 by kernel_rfl).symm.trans hf) |>.symm
   obtain rfl:fn = Tryz.f9:=(Option.some.inj (Tryz.func9.symm.trans hfn)).symm
   exact ⟨Tryz.looksBk,fun j t ht=>by
    rw [Tryz.params9] at ht
    have hm:t ∈ [22]:=by simpa using Array.mem_of_getElem? ht
    have hall:([22].all fun u=>!Tryz.prog.wantsStandIn u) = true:=by kernel_rfl
    exact (show Tryz.prog.wantsStandIn t = false by simpa using List.all_eq_true.1 hall t hm)⟩)
  Tryz.goBk
#print axioms fnBack_card
end Go.Proofs.YtdhinkgjiapigaaGreatDoor

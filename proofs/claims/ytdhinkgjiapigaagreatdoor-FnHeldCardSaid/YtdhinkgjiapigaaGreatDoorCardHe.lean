import Derived.Test.YtdhinkgjiapigaaGreatDoorLiftHe
import Derived.Test.YtdhinkgjiapigaaGreatDoorGoHe
import Derived.Test.YtdhinkgjiapigaaGreatDoorTie
import Derived.Test.YtdhinkgjiapigaaGreatDoorCards
import Derived.SevenTiedAt
namespace Go.Proofs.YtdhinkgjiapigaaGreatDoor
open Go
theorem fnHeld_card:Rows.FnHeldCardSaid:=
 Claim7.holds_tied_plain_at .later [] [.handle] true Rows.fnHeldCard.stood.harness true
  zu9 (fun _ h=>by cases h) (by kernel_rfl) (fun _ h=>by cases h) fnHeld_row_tie rfl ⟨rfl,rfl⟩ (by kernel_rfl) rfl
  (fun f fn hf hfn=>by
   obtain rfl:f = 7:=Option.some.inj ((show Tryz.prog.funcNamed Tryz.f7.name = some 7 by kernel_rfl).symm.trans hf) |>.symm
   obtain rfl:fn = Tryz.f7:=(Option.some.inj (Tryz.func7.symm.trans hfn)).symm
   exact ⟨Tryz.looksHe,fun j t ht=>by
    rw [Tryz.params7] at ht
    have hm:t ∈ [22]:=by simpa using Array.mem_of_getElem? ht
    have hall:([22].all fun u=>!Tryz.prog.wantsStandIn u) = true:=by kernel_rfl
    exact (show Tryz.prog.wantsStandIn t = false by simpa using List.all_eq_true.1 hall t hm)⟩)
  Tryz.goHe
#print axioms fnHeld_card
end Go.Proofs.YtdhinkgjiapigaaGreatDoor

import Derived.Test.YtdhinkgjiapigaaGreatDoorLiftCl
import Derived.Test.YtdhinkgjiapigaaGreatDoorGoCl
import Derived.Test.YtdhinkgjiapigaaGreatDoorTie
import Derived.Test.YtdhinkgjiapigaaGreatDoorCards
import Derived.SevenTiedAt
namespace Go.Proofs.YtdhinkgjiapigaaGreatDoor
open Go
theorem fnClear_card:Rows.FnClearCardSaid:=
 Claim7.holds_tied_plain_at .later [] [.handle] true Rows.fnClearCard.stood.harness true
  zs7 (fun _ h=>by cases h) (by kernel_rfl) (fun _ h=>by cases h) fnClear_row_tie rfl ⟨rfl,rfl⟩ (by kernel_rfl) rfl
  (fun f fn hf hfn=>by
   obtain rfl:f = 6:=Option.some.inj ((show Tryz.prog.funcNamed Tryz.f6.name = some 6 by kernel_rfl).symm.trans hf) |>.symm
   obtain rfl:fn = Tryz.f6:=(Option.some.inj (Tryz.func6.symm.trans hfn)).symm
   exact ⟨Tryz.looksCl,fun j t ht=>by
    rw [Tryz.params6] at ht
    have hm:t ∈ [22]:=by simpa using Array.mem_of_getElem? ht
    have hall:([22].all fun u=>!Tryz.prog.wantsStandIn u) = true:=by kernel_rfl
    exact (show Tryz.prog.wantsStandIn t = false by simpa using List.all_eq_true.1 hall t hm)⟩)
  Tryz.goCl
#print axioms fnClear_card
end Go.Proofs.YtdhinkgjiapigaaGreatDoor

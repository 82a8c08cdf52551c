import Derived.Test.YtdhinkgjiapigaaGreatDoorLiftBa
import Derived.Test.YtdhinkgjiapigaaGreatDoorGoBa
import Derived.Test.YtdhinkgjiapigaaGreatDoorTie
import Derived.Test.YtdhinkgjiapigaaGreatDoorCards
import Derived.SevenTiedAt
namespace Go.Proofs.YtdhinkgjiapigaaGreatDoor
open Go
theorem fnBars_card:Rows.FnBarsCardSaid:=
 Claim7.holds_tied_plain_at .later [] [.handle] true Rows.fnBarsCard.stood.harness true
  zuo (fun _ h=>by cases h) (by kernel_rfl) (fun _ h=>by cases h) fnBars_row_tie rfl ⟨rfl,rfl⟩ (by kernel_rfl) rfl
  (fun f fn hf hfn=>by
   obtain rfl:f = 4:=Option.some.inj ((show Tryz.prog.funcNamed Tryz.f4.name = some 4 by kernel_rfl).symm.trans hf) |>.symm
   obtain rfl:fn = Tryz.f4:=(Option.some.inj (Tryz.func4.symm.trans hfn)).symm
   exact ⟨Tryz.looksBa,fun j t ht=>by
    rw [Tryz.params4] at ht
    have hm:t ∈ [22]:=by simpa using Array.mem_of_getElem? ht
    have hall:([22].all fun u=>!Tryz.prog.wantsStandIn u) = true:=by kernel_rfl
    exact (show Tryz.prog.wantsStandIn t = false by simpa using List.all_eq_true.1 hall t hm)⟩)
  Tryz.goBa
#print axioms fnBars_card
end Go.Proofs.YtdhinkgjiapigaaGreatDoor

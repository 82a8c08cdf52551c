import Derived.Test.YtdhinkgjiapigabGreatDoorLiftA
import Derived.Test.YtdhinkgjiapigabGreatDoorGoA
import Derived.Test.YtdhinkgjiapigabGreatDoorTie
import Derived.Test.YtdhinkgjiapigabGreatDoorCards
import Derived.SevenTiedAt
namespace Go.Proofs.YtdhinkgjiapigabGreatDoor
open Go
theorem fnExactAnswer_card:Rows.FnExactAnswerCardSaid:=
 Claim7.holds_tied_plain_at .later [] [.data,.data,.data,.handle,.data] true Rows.fnExactAnswerCard.stood.harness true
  lawA_holds (fun _ h=>by cases h) (by kernel_rfl) (fun _ h=>by cases h) fnExactAnswer_row_tie rfl ⟨rfl,rfl⟩ (by kernel_rfl) rfl
  (fun f fn hf hfn=>by
   obtain rfl:f = 12:=Option.some.inj ((show Tryz.prog.funcNamed Tryz.f12.name = some 12 by kernel_rfl).symm.trans hf) |>.symm
   obtain rfl:fn = Tryz.f12:=(Option.some.inj (Tryz.func12.symm.trans hfn)).symm
   exact ⟨Tryz.looksA,fun j t ht=>by
    rw [Tryz.params12] at ht
    have hm:t ∈ [26,59]:=by simpa using Array.mem_of_getElem? ht
    have hall:([26,59].all fun u=>!Tryz.prog.wantsStandIn u) = true:=by kernel_rfl
    exact (show Tryz.prog.wantsStandIn t = false by simpa using List.all_eq_true.1 hall t hm)⟩)
  Tryz.goA
#print axioms fnExactAnswer_card
end Go.Proofs.YtdhinkgjiapigabGreatDoor

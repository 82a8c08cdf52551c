import Derived.Test.YtdhinkgjiapigaaGreatDoorLiftTp
import Derived.Test.YtdhinkgjiapigaaGreatDoorTie
import Derived.Test.YtdhinkgjiapigaaGreatDoorCards
namespace Go.Proofs.YtdhinkgjiapigaaGreatDoor
open Go
theorem J9 {P:Program}{c:OpenClaim}{f:FuncId}(e:c.start=.entering) (a:P.funcNamed c.func=some f) (b:((P.closure f).any fun g=>(P.funcs[g]?).any Func.goes)=false) (d:P.funcs.any Func.goes=false):false=c.goesBy P:=by
 unfold OpenClaim.goesBy Program.goesAt Program.goesFrom;rw[e,a];show false=(P.goes f || false);unfold Program.goes;rw[b,d,Bool.and_false];rfl
theorem Tryz.wQ:Tryz.prog.funcNamed Rows.fnTopRow.func=some 3:=by kernel_rfl
theorem Tryz.wR:((Tryz.prog.closure 3).any fun g=>(Tryz.prog.funcs[g]?).any Func.goes)=false:=by kernel_rfl
theorem Tryz.wS:Tryz.prog.funcs.any Func.goes=false:=by kernel_rfl
theorem Tryz.AE:false=Rows.fnTopRow.goesBy Tryz.prog:=J9 rfl Tryz.wQ Tryz.wR Tryz.wS
theorem Tryz.sX:true=Tryz.prog.looks []:=by kernel_rfl
theorem fnTop_card:Rows.FnTopCardSaid:=
 Claim7.holds_tied_plain_at .later [] [.data,.data,.data,.handle,.data] true Rows.fnTopCard.stood.harness true
  lW (fun _ h=>by cases h) (by kernel_rfl) (fun _ h=>by cases h) fnTop_row_tie rfl ⟨rfl,rfl⟩ (by kernel_rfl) rfl
  (fun f fn d b=>by
   obtain rfl:f=3:=Option.some.inj ((show Tryz.prog.funcNamed Tryz.f3.name=some 3 by kernel_rfl).symm.trans d) |>.symm
   obtain rfl:fn=Tryz.f3:=(Option.some.inj (Tryz.func3.symm.trans b)).symm
   exact⟨Tryz.sX,fun j t c=>by
    rw[Tryz.params3] at c
    have e:t∈[22]:=by simpa using Array.mem_of_getElem? c
    have a:([22].all fun u=>!Tryz.prog.wantsStandIn u)=true:=by kernel_rfl
    exact (show Tryz.prog.wantsStandIn t=false by simpa using List.all_eq_true.1 a t e)⟩)
  Tryz.AE
#print axioms fnTop_card
end Go.Proofs.YtdhinkgjiapigaaGreatDoor

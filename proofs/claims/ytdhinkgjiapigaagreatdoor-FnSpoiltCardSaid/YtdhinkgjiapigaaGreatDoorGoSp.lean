import Derived.Test.YtdhinkgjiapigaaGreatDoorRows
import Derived.JoinedOf
import Derived.KernelRfl
import Derived.SevenTiedAt
namespace Go.Proofs.YtdhinkgjiapigaaGreatDoor
open Go
theorem zt1 {P:Program} {c:OpenClaim} {f:FuncId} (hs:c.start = .entering) (h0:P.funcNamed c.func = some f) (h1:((P.closure f).any fun g=>(P.funcs[g]?).any Func.goes) = false) (h2:P.funcs.any Func.goes = false):false = c.goesBy P:=by
 unfold OpenClaim.goesBy Program.goesAt Program.goesFrom;rw [hs,h0];show false = (P.goes f || false);unfold Program.goes;rw [h1,h2,Bool.and_false];rfl
theorem Tryz.goSp0:Tryz.prog.funcNamed Rows.fnSpoiltRow.func = some 11:=by kernel_rfl
theorem Tryz.goSp1:((Tryz.prog.closure 11).any fun g=>(Tryz.prog.funcs[g]?).any Func.goes) = false:=by kernel_rfl
theorem Tryz.goSp2:Tryz.prog.funcs.any Func.goes = false:=by kernel_rfl
theorem Tryz.goSp:false = Rows.fnSpoiltRow.goesBy Tryz.prog:=zt1 rfl Tryz.goSp0 Tryz.goSp1 Tryz.goSp2
theorem Tryz.looksSp:true = Tryz.prog.looks []:=by kernel_rfl
end Go.Proofs.YtdhinkgjiapigaaGreatDoor

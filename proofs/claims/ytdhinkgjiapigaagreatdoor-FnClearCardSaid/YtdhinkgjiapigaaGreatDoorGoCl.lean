import Derived.Test.YtdhinkgjiapigaaGreatDoorRows
import Derived.JoinedOf
import Derived.KernelRfl
import Derived.SevenTiedAt
namespace Go.Proofs.YtdhinkgjiapigaaGreatDoor
open Go
theorem zt1 {P:Program} {c:OpenClaim} {f:FuncId} (hs:c.start = .entering) (h0:P.funcNamed c.func = some f) (h1:((P.closure f).any fun g=>(P.funcs[g]?).any Func.goes) = false) (h2:P.funcs.any Func.goes = false):false = c.goesBy P:=by
 unfold OpenClaim.goesBy Program.goesAt Program.goesFrom
 rw [hs,h0]
 show false = (P.goes f || false)
 unfold Program.goes
 rw [h1,h2,Bool.and_false]
 rfl
theorem Tryz.goCl0:Tryz.prog.funcNamed Rows.fnClearRow.func = some 6:=by kernel_rfl
theorem Tryz.goCl1:((Tryz.prog.closure 6).any fun g=>(Tryz.prog.funcs[g]?).any Func.goes) = false:=by kernel_rfl
theorem Tryz.goCl2:Tryz.prog.funcs.any Func.goes = false:=by kernel_rfl
theorem Tryz.goCl:false = Rows.fnClearRow.goesBy Tryz.prog:=zt1 rfl Tryz.goCl0 Tryz.goCl1 Tryz.goCl2
theorem Tryz.looksCl:true = Tryz.prog.looks []:=by kernel_rfl
end Go.Proofs.YtdhinkgjiapigaaGreatDoor

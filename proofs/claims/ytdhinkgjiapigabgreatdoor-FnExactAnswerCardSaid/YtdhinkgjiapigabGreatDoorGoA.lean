import Derived.Test.YtdhinkgjiapigabGreatDoorRows
import Derived.JoinedOf
import Derived.KernelRfl
import Derived.SevenTiedAt
namespace Go.Proofs.YtdhinkgjiapigabGreatDoor
open Go
theorem zt1 {P:Program} {c:OpenClaim} {f:FuncId} (hs:c.start = .entering) (h0:P.funcNamed c.func = some f) (h1:((P.closure f).any fun g=>(P.funcs[g]?).any Func.goes) = false) (h2:P.funcs.any Func.goes = false):false = c.goesBy P:=by
 unfold OpenClaim.goesBy Program.goesAt Program.goesFrom;rw [hs,h0];show false = (P.goes f || false);unfold Program.goes;rw [h1,h2,Bool.and_false];rfl
theorem Tryz.goA0:Tryz.prog.funcNamed Rows.fnExactAnswerRow.func = some 12:=by kernel_rfl
theorem Tryz.goA1:((Tryz.prog.closure 12).any fun g=>(Tryz.prog.funcs[g]?).any Func.goes) = false:=by kernel_rfl
theorem Tryz.goA2:Tryz.prog.funcs.any Func.goes = false:=by kernel_rfl
theorem Tryz.goA:false = Rows.fnExactAnswerRow.goesBy Tryz.prog:=zt1 rfl Tryz.goA0 Tryz.goA1 Tryz.goA2
theorem Tryz.looksA:true = Tryz.prog.looks []:=by kernel_rfl
end Go.Proofs.YtdhinkgjiapigabGreatDoor

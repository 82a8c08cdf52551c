import Derived.Test.YtdhinkgjiapigaaGreatDoorRows
import Derived.JoinedOf
import Derived.KernelRfl
import Derived.SevenTiedAt
namespace Go.Proofs.YtdhinkgjiapigaaGreatDoor
open Go
theorem jf_and {a b:Bool} (h:a = true) (k:b = true):(a && b) = true:=by rw [h,k]; rfl
theorem Tryz.jf_laidOut:laidOutB Tryz.prog = true:=by kernel_rfl
theorem Tryz.jf_mapsRowed:mapsRowed Tryz.prog = true:=by kernel_rfl
theorem Tryz.jf_stops:(Tryz.prog.stops == []) = true:=by kernel_rfl
theorem Tryz.jf_stopKnobs:(Tryz.prog.stopKnobs == []) = true:=by kernel_rfl
theorem Tryz.jf_heard:Tryz.prog.stopsHeard = true:=by kernel_rfl
theorem Tryz.jf_mayEnter:Tryz.prog.mayEnter = true:=by kernel_rfl
theorem Tryz.jfBk_0:(Rows.fnBackRow.wf (OpenSpec.ofChange Rows.fnBackSpec)) = true:=by kernel_rfl
theorem Tryz.jfBk_3:(Tryz.f9.params.all (Tryz.prog.readableRec ·)) = true:=by kernel_rfl
theorem Tryz.jfBk_4:(namedTie Tryz.prog Rows.fnBackRow.named Rows.fnBackSpec.vars) = true:=by kernel_rfl
theorem Tryz.jfBk_5:((Rows.fnBackRow.stops == [])) = true:=by kernel_rfl
theorem Tryz.jfBk_7:((Rows.fnBackRow.knobs == [])) = true:=by kernel_rfl
theorem Tryz.jfBk_9:((Rows.fnBackRow.inPlace == Tryz.prog.inPlace 9)) = true:=by kernel_rfl
theorem Tryz.jfBk_10:((Rows.fnBackRow.unfollowed == Tryz.prog.unfollowed 9)) = true:=by kernel_rfl
theorem Tryz.jfBk_11:((Rows.fnBackRow.recurses == Tryz.prog.recurses 9)) = true:=by kernel_rfl
theorem Tryz.jfBk_12:((Rows.fnBackRow.named == Tryz.prog.varsNamed 9)) = true:=by kernel_rfl
theorem Tryz.jfBk_13:((Rows.fnBackRow.maps == (Tryz.f9.params.toList ++ Rows.fnBackSpec.plain.varTypes Tryz.prog).any (Tryz.prog.mapsRec ·))) = true:=by kernel_rfl
theorem Tryz.jfBk_14:((Rows.fnBackRow.ifaces == (Tryz.f9.params.toList ++ Rows.fnBackSpec.plain.varTypes Tryz.prog).any (Tryz.prog.ifacesRec ·))) = true:=by kernel_rfl
theorem Tryz.jfBk_15:((Rows.fnBackRow.mapsOut == Tryz.prog.mapsAmong Tryz.f9.resultTypes.toList)) = true:=by kernel_rfl
theorem Tryz.jfBk_16:((Rows.fnBackRow.loops == (Tryz.f9.params.toList ++ Rows.fnBackSpec.plain.varTypes Tryz.prog).any (Tryz.prog.loopsFrom ·))) = true:=by kernel_rfl
theorem Tryz.jfBk_17:((Rows.fnBackRow.wideKeys == (Tryz.f9.params.toList ++ Rows.fnBackSpec.plain.varTypes Tryz.prog ++ Tryz.f9.resultTypes.toList).any (Tryz.prog.wideKeysFrom ·))) = true:=by kernel_rfl
theorem Tryz.jfBk_18:(Rows.fnBackSpec.vars.all (Tryz.prog.varReadable ·)) = true:=by kernel_rfl
theorem Tryz.jfBk_19:(Tryz.f9.resultTypes.all (fun t=>Tryz.prog.readableRec t && decide (t < Tryz.prog.types.size))) = true:=by kernel_rfl
theorem Tryz.jfBk_20:((Rows.fnBackRow.ifacesOut == Tryz.f9.resultTypes.toList.any (Tryz.prog.ifacesRec ·))) = true:=by kernel_rfl
theorem Tryz.jfBk_21:((Rows.fnBackRow.loopsOut == Tryz.f9.resultTypes.toList.any (Tryz.prog.loopsFrom ·))) = true:=by kernel_rfl
theorem Tryz.jfBk_22:((Rows.fnBackRow.plainKeys == Tryz.prog.plainKeys)) = true:=by kernel_rfl
theorem Tryz.jfBk_23:(Rows.fnBackRow.shortTexts.isNone) = true:=by kernel_rfl
theorem Tryz.jfBk_26:((Rows.fnBackRow.lifted == Tryz.prog.liftsFinal)) = true:=by kernel_rfl
theorem Tryz.jfBk_27:((Tryz.prog.make == some Rows.fnBackRow.make)) = true:=by kernel_rfl
theorem Tryz.jfBk_28:((Rows.fnBackRow.kinds == (if Rows.fnBackRow.domain.isEmpty then [] else Tryz.f9.params.toList.map fun t=>match Tryz.prog.underlying t with | some (.int k)=>some k | _=>none))) = true:=by kernel_rfl
theorem Tryz.jfBk_29:((Rows.fnBackRow.pinned == Rows.fnBackRow.pinnedBy)) = true:=by kernel_rfl
theorem Tryz.jfBk_30:((Rows.fnBackRow.veiled == (Tryz.f9.params.toList ++ Rows.fnBackSpec.plain.varTypes Tryz.prog ++ Tryz.f9.resultTypes.toList).any (Tryz.prog.veiledRec ·))) = true:=by kernel_rfl
theorem Tryz.jfBk_31:(Rows.fnBackRow.veiledFits Tryz.prog Tryz.f9.params.toList (Tryz.f9.params.toList ++ Rows.fnBackSpec.plain.varTypes Tryz.prog ++ Tryz.f9.resultTypes.toList)) = true:=by kernel_rfl
end Go.Proofs.YtdhinkgjiapigaaGreatDoor
namespace Go.Proofs.YtdhinkgjiapigaaGreatDoor
open Go
theorem goes_of {P:Program} {c:OpenClaim} {f:FuncId} (hs:c.start = .entering) (h0:P.funcNamed c.func = some f) (h1:((P.closure f).any fun g=>(P.funcs[g]?).any Func.goes) = false) (h2:P.funcs.any Func.goes = false):false = c.goesBy P:=by
 unfold OpenClaim.goesBy Program.goesAt Program.goesFrom
 rw [hs,h0]
 show false = (P.goes f || false)
 unfold Program.goes
 rw [h1,h2,Bool.and_false]
 rfl
theorem Tryz.goBk0:Tryz.prog.funcNamed Rows.fnBackRow.func = some 9:=by kernel_rfl
theorem Tryz.goBk1:((Tryz.prog.closure 9).any fun g=>(Tryz.prog.funcs[g]?).any Func.goes) = false:=by kernel_rfl
theorem Tryz.goBk2:Tryz.prog.funcs.any Func.goes = false:=by kernel_rfl
theorem Tryz.goBk:false = Rows.fnBackRow.goesBy Tryz.prog:=goes_of rfl Tryz.goBk0 Tryz.goBk1 Tryz.goBk2
theorem Tryz.looksBk:true = Tryz.prog.looks []:=by kernel_rfl
end Go.Proofs.YtdhinkgjiapigaaGreatDoor

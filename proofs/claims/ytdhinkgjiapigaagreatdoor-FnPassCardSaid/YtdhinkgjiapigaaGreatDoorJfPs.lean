import Derived.Test.YtdhinkgjiapigaaGreatDoorRows
import Derived.JoinedOf
import Derived.KernelRfl
import Derived.SevenTiedAt
namespace Go.Proofs.YtdhinkgjiapigaaGreatDoor
open Go
theorem jf_and {a b:Bool} (h:a = true) (k:b = true):(a && b) = true:=by rw [h,k]; rfl
theorem Tryz.jf_laidOut:laidOutB Tryz.prog = true:=by kernel_rfl
theorem Tryz.jf_mapsRowed:mapsRowed Tryz.prog = true:=by kernel_rfl
theorem Tryz.jf_stops:(Tryz.prog.stops == []) = true:=by kernel_rfl
theorem Tryz.jf_stopKnobs:(Tryz.prog.stopKnobs == []) = true:=by kernel_rfl
theorem Tryz.jf_heard:Tryz.prog.stopsHeard = true:=by kernel_rfl
theorem Tryz.jf_mayEnter:Tryz.prog.mayEnter = true:=by kernel_rfl
theorem Tryz.jfPs_0:(Rows.fnPassRow.wf (OpenSpec.ofChange Rows.fnPassSpec)) = true:=by kernel_rfl
theorem Tryz.jfPs_3:(Tryz.f8.params.all (Tryz.prog.readableRec ·)) = true:=by kernel_rfl
theorem Tryz.jfPs_4:(namedTie Tryz.prog Rows.fnPassRow.named Rows.fnPassSpec.vars) = true:=by kernel_rfl
theorem Tryz.jfPs_5:((Rows.fnPassRow.stops == [])) = true:=by kernel_rfl
theorem Tryz.jfPs_7:((Rows.fnPassRow.knobs == [])) = true:=by kernel_rfl
theorem Tryz.jfPs_9:((Rows.fnPassRow.inPlace == Tryz.prog.inPlace 8)) = true:=by kernel_rfl
theorem Tryz.jfPs_10:((Rows.fnPassRow.unfollowed == Tryz.prog.unfollowed 8)) = true:=by kernel_rfl
theorem Tryz.jfPs_11:((Rows.fnPassRow.recurses == Tryz.prog.recurses 8)) = true:=by kernel_rfl
theorem Tryz.jfPs_12:((Rows.fnPassRow.named == Tryz.prog.varsNamed 8)) = true:=by kernel_rfl
theorem Tryz.jfPs_13:((Rows.fnPassRow.maps == (Tryz.f8.params.toList ++ Rows.fnPassSpec.plain.varTypes Tryz.prog).any (Tryz.prog.mapsRec ·))) = true:=by kernel_rfl
theorem Tryz.jfPs_14:((Rows.fnPassRow.ifaces == (Tryz.f8.params.toList ++ Rows.fnPassSpec.plain.varTypes Tryz.prog).any (Tryz.prog.ifacesRec ·))) = true:=by kernel_rfl
theorem Tryz.jfPs_15:((Rows.fnPassRow.mapsOut == Tryz.prog.mapsAmong Tryz.f8.resultTypes.toList)) = true:=by kernel_rfl
theorem Tryz.jfPs_16:((Rows.fnPassRow.loops == (Tryz.f8.params.toList ++ Rows.fnPassSpec.plain.varTypes Tryz.prog).any (Tryz.prog.loopsFrom ·))) = true:=by kernel_rfl
theorem Tryz.jfPs_17:((Rows.fnPassRow.wideKeys == (Tryz.f8.params.toList ++ Rows.fnPassSpec.plain.varTypes Tryz.prog ++ Tryz.f8.resultTypes.toList).any (Tryz.prog.wideKeysFrom ·))) = true:=by kernel_rfl
theorem Tryz.jfPs_18:(Rows.fnPassSpec.vars.all (Tryz.prog.varReadable ·)) = true:=by kernel_rfl
theorem Tryz.jfPs_19:(Tryz.f8.resultTypes.all (fun t=>Tryz.prog.readableRec t && decide (t < Tryz.prog.types.size))) = true:=by kernel_rfl
theorem Tryz.jfPs_20:((Rows.fnPassRow.ifacesOut == Tryz.f8.resultTypes.toList.any (Tryz.prog.ifacesRec ·))) = true:=by kernel_rfl
theorem Tryz.jfPs_21:((Rows.fnPassRow.loopsOut == Tryz.f8.resultTypes.toList.any (Tryz.prog.loopsFrom ·))) = true:=by kernel_rfl
theorem Tryz.jfPs_22:((Rows.fnPassRow.plainKeys == Tryz.prog.plainKeys)) = true:=by kernel_rfl
theorem Tryz.jfPs_23:(Rows.fnPassRow.shortTexts.isNone) = true:=by kernel_rfl
theorem Tryz.jfPs_26:((Rows.fnPassRow.lifted == Tryz.prog.liftsFinal)) = true:=by kernel_rfl
theorem Tryz.jfPs_27:((Tryz.prog.make == some Rows.fnPassRow.make)) = true:=by kernel_rfl
theorem Tryz.jfPs_28:((Rows.fnPassRow.kinds == (if Rows.fnPassRow.domain.isEmpty then [] else Tryz.f8.params.toList.map fun t=>match Tryz.prog.underlying t with | some (.int k)=>some k | _=>none))) = true:=by kernel_rfl
theorem Tryz.jfPs_29:((Rows.fnPassRow.pinned == Rows.fnPassRow.pinnedBy)) = true:=by kernel_rfl
theorem Tryz.jfPs_30:((Rows.fnPassRow.veiled == (Tryz.f8.params.toList ++ Rows.fnPassSpec.plain.varTypes Tryz.prog ++ Tryz.f8.resultTypes.toList).any (Tryz.prog.veiledRec ·))) = true:=by kernel_rfl
theorem Tryz.jfPs_31:(Rows.fnPassRow.veiledFits Tryz.prog Tryz.f8.params.toList (Tryz.f8.params.toList ++ Rows.fnPassSpec.plain.varTypes Tryz.prog ++ Tryz.f8.resultTypes.toList)) = true:=by kernel_rfl
end Go.Proofs.YtdhinkgjiapigaaGreatDoor
namespace Go.Proofs.YtdhinkgjiapigaaGreatDoor
open Go
theorem goes_of {P:Program} {c:OpenClaim} {f:FuncId} (hs:c.start = .entering) (h0:P.funcNamed c.func = some f) (h1:((P.closure f).any fun g=>(P.funcs[g]?).any Func.goes) = false) (h2:P.funcs.any Func.goes = false):false = c.goesBy P:=by
 unfold OpenClaim.goesBy Program.goesAt Program.goesFrom
 rw [hs,h0]
 show false = (P.goes f || false)
 unfold Program.goes
 rw [h1,h2,Bool.and_false]
 rfl
theorem Tryz.goPs0:Tryz.prog.funcNamed Rows.fnPassRow.func = some 8:=by kernel_rfl
theorem Tryz.goPs1:((Tryz.prog.closure 8).any fun g=>(Tryz.prog.funcs[g]?).any Func.goes) = false:=by kernel_rfl
theorem Tryz.goPs2:Tryz.prog.funcs.any Func.goes = false:=by kernel_rfl
theorem Tryz.goPs:false = Rows.fnPassRow.goesBy Tryz.prog:=goes_of rfl Tryz.goPs0 Tryz.goPs1 Tryz.goPs2
theorem Tryz.looksPs:true = Tryz.prog.looks []:=by kernel_rfl
end Go.Proofs.YtdhinkgjiapigaaGreatDoor

import Derived.Test.YtdhinkgjiapigabGreatDoorRows
import Derived.JoinedOf
import Derived.KernelRfl
namespace Go.Proofs.YtdhinkgjiapigabGreatDoor
open Go
theorem jf_and {a b:Bool} (h:a = true) (k:b = true):(a && b) = true:=by rw [h,k]; rfl
theorem Tryz.jf_laidOut:laidOutB Tryz.prog = true:=by kernel_rfl
theorem Tryz.jf_mapsRowed:mapsRowed Tryz.prog = true:=by kernel_rfl
theorem Tryz.jf_stops:(Tryz.prog.stops == []) = true:=by kernel_rfl
theorem Tryz.jf_stopKnobs:(Tryz.prog.stopKnobs == []) = true:=by kernel_rfl
theorem Tryz.jf_heard:Tryz.prog.stopsHeard = true:=by kernel_rfl
theorem Tryz.jf_mayEnter:Tryz.prog.mayEnter = true:=by kernel_rfl
theorem Tryz.jfR_0:(Rows.fnExactRunRow.wf (OpenSpec.ofChange Rows.fnExactRunSpec)) = true:=by kernel_rfl
theorem Tryz.jfR_3:(Tryz.f5.params.all (Tryz.prog.readableRec ·)) = true:=by kernel_rfl
theorem Tryz.jfR_4:(namedTie Tryz.prog Rows.fnExactRunRow.named Rows.fnExactRunSpec.vars) = true:=by kernel_rfl
theorem Tryz.jfR_5:((Rows.fnExactRunRow.stops == [])) = true:=by kernel_rfl
theorem Tryz.jfR_7:((Rows.fnExactRunRow.knobs == [])) = true:=by kernel_rfl
theorem Tryz.jfR_9:((Rows.fnExactRunRow.inPlace == Tryz.prog.inPlace 5)) = true:=by kernel_rfl
theorem Tryz.jfR_10:((Rows.fnExactRunRow.unfollowed == Tryz.prog.unfollowed 5)) = true:=by kernel_rfl
theorem Tryz.jfR_11:((Rows.fnExactRunRow.recurses == Tryz.prog.recurses 5)) = true:=by kernel_rfl
theorem Tryz.jfR_12:((Rows.fnExactRunRow.named == Tryz.prog.varsNamed 5)) = true:=by kernel_rfl
theorem Tryz.jfR_13:((Rows.fnExactRunRow.maps == (Tryz.f5.params.toList ++ Rows.fnExactRunSpec.plain.varTypes Tryz.prog).any (Tryz.prog.mapsRec ·))) = true:=by kernel_rfl
theorem Tryz.jfR_14:((Rows.fnExactRunRow.ifaces == (Tryz.f5.params.toList ++ Rows.fnExactRunSpec.plain.varTypes Tryz.prog).any (Tryz.prog.ifacesRec ·))) = true:=by kernel_rfl
theorem Tryz.jfR_15:((Rows.fnExactRunRow.mapsOut == Tryz.prog.mapsAmong Tryz.f5.resultTypes.toList)) = true:=by kernel_rfl
theorem Tryz.jfR_16:((Rows.fnExactRunRow.loops == (Tryz.f5.params.toList ++ Rows.fnExactRunSpec.plain.varTypes Tryz.prog).any (Tryz.prog.loopsFrom ·))) = true:=by kernel_rfl
theorem Tryz.jfR_17:((Rows.fnExactRunRow.wideKeys == (Tryz.f5.params.toList ++ Rows.fnExactRunSpec.plain.varTypes Tryz.prog ++ Tryz.f5.resultTypes.toList).any (Tryz.prog.wideKeysFrom ·))) = true:=by kernel_rfl
theorem Tryz.jfR_18:(Rows.fnExactRunSpec.vars.all (Tryz.prog.varReadable ·)) = true:=by kernel_rfl
theorem Tryz.jfR_19:(Tryz.f5.resultTypes.all (fun t=>Tryz.prog.readableRec t && decide (t < Tryz.prog.types.size))) = true:=by kernel_rfl
theorem Tryz.jfR_20:((Rows.fnExactRunRow.ifacesOut == Tryz.f5.resultTypes.toList.any (Tryz.prog.ifacesRec ·))) = true:=by kernel_rfl
theorem Tryz.jfR_21:((Rows.fnExactRunRow.loopsOut == Tryz.f5.resultTypes.toList.any (Tryz.prog.loopsFrom ·))) = true:=by kernel_rfl
theorem Tryz.jfR_22:((Rows.fnExactRunRow.plainKeys == Tryz.prog.plainKeys)) = true:=by kernel_rfl
theorem Tryz.jfR_23:(Rows.fnExactRunRow.shortTexts.isNone) = true:=by kernel_rfl
theorem Tryz.jfR_26:((Rows.fnExactRunRow.lifted == Tryz.prog.liftsFinal)) = true:=by kernel_rfl
theorem Tryz.jfR_27:((Tryz.prog.make == some Rows.fnExactRunRow.make)) = true:=by kernel_rfl
theorem Tryz.jfR_28:((Rows.fnExactRunRow.kinds == (if Rows.fnExactRunRow.domain.isEmpty then [] else Tryz.f5.params.toList.map fun t=>match Tryz.prog.underlying t with | some (.int k)=>some k | _=>none))) = true:=by kernel_rfl
theorem Tryz.jfR_29:((Rows.fnExactRunRow.pinned == Rows.fnExactRunRow.pinnedBy)) = true:=by kernel_rfl
theorem Tryz.jfR_30:((Rows.fnExactRunRow.veiled == (Tryz.f5.params.toList ++ Rows.fnExactRunSpec.plain.varTypes Tryz.prog ++ Tryz.f5.resultTypes.toList).any (Tryz.prog.veiledRec ·))) = true:=by kernel_rfl
theorem Tryz.jfR_31:(Rows.fnExactRunRow.veiledFits Tryz.prog Tryz.f5.params.toList (Tryz.f5.params.toList ++ Rows.fnExactRunSpec.plain.varTypes Tryz.prog ++ Tryz.f5.resultTypes.toList)) = true:=by kernel_rfl
end Go.Proofs.YtdhinkgjiapigabGreatDoor

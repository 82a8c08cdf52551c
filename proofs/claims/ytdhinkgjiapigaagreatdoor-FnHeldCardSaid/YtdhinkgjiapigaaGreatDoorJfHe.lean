import Derived.Test.YtdhinkgjiapigaaGreatDoorRows
import Derived.JoinedOf
import Derived.KernelRfl
namespace Go.Proofs.YtdhinkgjiapigaaGreatDoor
open Go
theorem zr8 {a b:Bool} (h:a = true) (k:b = true):(a && b) = true:=by rw [h,k]; rfl
theorem Tryz.jf_laidOut:laidOutB Tryz.prog = true:=by kernel_rfl
theorem Tryz.jf_mapsRowed:mapsRowed Tryz.prog = true:=by kernel_rfl
theorem Tryz.jf_stops:(Tryz.prog.stops == []) = true:=by kernel_rfl
theorem Tryz.jf_stopKnobs:(Tryz.prog.stopKnobs == []) = true:=by kernel_rfl
theorem Tryz.jf_heard:Tryz.prog.stopsHeard = true:=by kernel_rfl
theorem Tryz.jf_mayEnter:Tryz.prog.mayEnter = true:=by kernel_rfl
theorem Tryz.jfHe_0:(Rows.fnHeldRow.wf (OpenSpec.ofChange Rows.fnHeldSpec)) = true:=by kernel_rfl
theorem Tryz.jfHe_3:(Tryz.f7.params.all (Tryz.prog.readableRec ·)) = true:=by kernel_rfl
theorem Tryz.jfHe_4:(namedTie Tryz.prog Rows.fnHeldRow.named Rows.fnHeldSpec.vars) = true:=by kernel_rfl
theorem Tryz.jfHe_5:((Rows.fnHeldRow.stops == [])) = true:=by kernel_rfl
theorem Tryz.jfHe_7:((Rows.fnHeldRow.knobs == [])) = true:=by kernel_rfl
theorem Tryz.jfHe_9:((Rows.fnHeldRow.inPlace == Tryz.prog.inPlace 7)) = true:=by kernel_rfl
theorem Tryz.jfHe_10:((Rows.fnHeldRow.unfollowed == Tryz.prog.unfollowed 7)) = true:=by kernel_rfl
theorem Tryz.jfHe_11:((Rows.fnHeldRow.recurses == Tryz.prog.recurses 7)) = true:=by kernel_rfl
theorem Tryz.jfHe_12:((Rows.fnHeldRow.named == Tryz.prog.varsNamed 7)) = true:=by kernel_rfl
theorem Tryz.jfHe_13:((Rows.fnHeldRow.maps == (Tryz.f7.params.toList ++ Rows.fnHeldSpec.plain.varTypes Tryz.prog).any (Tryz.prog.mapsRec ·))) = true:=by kernel_rfl
theorem Tryz.jfHe_14:((Rows.fnHeldRow.ifaces == (Tryz.f7.params.toList ++ Rows.fnHeldSpec.plain.varTypes Tryz.prog).any (Tryz.prog.ifacesRec ·))) = true:=by kernel_rfl
theorem Tryz.jfHe_15:((Rows.fnHeldRow.mapsOut == Tryz.prog.mapsAmong Tryz.f7.resultTypes.toList)) = true:=by kernel_rfl
theorem Tryz.jfHe_16:((Rows.fnHeldRow.loops == (Tryz.f7.params.toList ++ Rows.fnHeldSpec.plain.varTypes Tryz.prog).any (Tryz.prog.loopsFrom ·))) = true:=by kernel_rfl
theorem Tryz.jfHe_17:((Rows.fnHeldRow.wideKeys == (Tryz.f7.params.toList ++ Rows.fnHeldSpec.plain.varTypes Tryz.prog ++ Tryz.f7.resultTypes.toList).any (Tryz.prog.wideKeysFrom ·))) = true:=by kernel_rfl
theorem Tryz.jfHe_18:(Rows.fnHeldSpec.vars.all (Tryz.prog.varReadable ·)) = true:=by kernel_rfl
theorem Tryz.jfHe_19:(Tryz.f7.resultTypes.all (fun t=>Tryz.prog.readableRec t && decide (t < Tryz.prog.types.size))) = true:=by kernel_rfl
theorem Tryz.jfHe_20:((Rows.fnHeldRow.ifacesOut == Tryz.f7.resultTypes.toList.any (Tryz.prog.ifacesRec ·))) = true:=by kernel_rfl
theorem Tryz.jfHe_21:((Rows.fnHeldRow.loopsOut == Tryz.f7.resultTypes.toList.any (Tryz.prog.loopsFrom ·))) = true:=by kernel_rfl
theorem Tryz.jfHe_22:((Rows.fnHeldRow.plainKeys == Tryz.prog.plainKeys)) = true:=by kernel_rfl
theorem Tryz.jfHe_23:(Rows.fnHeldRow.shortTexts.isNone) = true:=by kernel_rfl
theorem Tryz.jfHe_26:((Rows.fnHeldRow.lifted == Tryz.prog.liftsFinal)) = true:=by kernel_rfl
theorem Tryz.jfHe_27:((Tryz.prog.make == some Rows.fnHeldRow.make)) = true:=by kernel_rfl
theorem Tryz.jfHe_28:((Rows.fnHeldRow.kinds == (if Rows.fnHeldRow.domain.isEmpty then [] else Tryz.f7.params.toList.map fun t=>match Tryz.prog.underlying t with | some (.int k)=>some k | _=>none))) = true:=by kernel_rfl
theorem Tryz.jfHe_29:((Rows.fnHeldRow.pinned == Rows.fnHeldRow.pinnedBy)) = true:=by kernel_rfl
theorem Tryz.jfHe_30:((Rows.fnHeldRow.veiled == (Tryz.f7.params.toList ++ Rows.fnHeldSpec.plain.varTypes Tryz.prog ++ Tryz.f7.resultTypes.toList).any (Tryz.prog.veiledRec ·))) = true:=by kernel_rfl
theorem Tryz.jfHe_31:(Rows.fnHeldRow.veiledFits Tryz.prog Tryz.f7.params.toList (Tryz.f7.params.toList ++ Rows.fnHeldSpec.plain.varTypes Tryz.prog ++ Tryz.f7.resultTypes.toList)) = true:=by kernel_rfl
end Go.Proofs.YtdhinkgjiapigaaGreatDoor

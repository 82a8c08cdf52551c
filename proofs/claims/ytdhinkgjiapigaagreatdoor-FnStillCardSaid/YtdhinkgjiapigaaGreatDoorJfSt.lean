import Derived.Test.YtdhinkgjiapigaaGreatDoorRows
import Derived.JoinedOf
import Derived.KernelRfl
namespace Go.Proofs.YtdhinkgjiapigaaGreatDoor
open Go
theorem zr8 {a b:Bool} (h:a = true) (k:b = true):(a && b) = true:=by rw [h,k]; rfl
theorem Tryz.jf_laidOut:laidOutB Tryz.prog = true:=by kernel_rfl
theorem Tryz.jf_mapsRowed:mapsRowed Tryz.prog = true:=by kernel_rfl
theorem Tryz.jf_stops:(Tryz.prog.stops == []) = true:=by kernel_rfl
theorem Tryz.jf_stopKnobs:(Tryz.prog.stopKnobs == []) = true:=by kernel_rfl
theorem Tryz.jf_heard:Tryz.prog.stopsHeard = true:=by kernel_rfl
theorem Tryz.jf_mayEnter:Tryz.prog.mayEnter = true:=by kernel_rfl
theorem Tryz.jfSt_0:(Rows.fnStillRow.wf (OpenSpec.ofChange Rows.fnStillSpec)) = true:=by kernel_rfl
theorem Tryz.jfSt_3:(Tryz.f5.params.all (Tryz.prog.readableRec ·)) = true:=by kernel_rfl
theorem Tryz.jfSt_4:(namedTie Tryz.prog Rows.fnStillRow.named Rows.fnStillSpec.vars) = true:=by kernel_rfl
theorem Tryz.jfSt_5:((Rows.fnStillRow.stops == [])) = true:=by kernel_rfl
theorem Tryz.jfSt_7:((Rows.fnStillRow.knobs == [])) = true:=by kernel_rfl
theorem Tryz.jfSt_9:((Rows.fnStillRow.inPlace == Tryz.prog.inPlace 5)) = true:=by kernel_rfl
theorem Tryz.jfSt_10:((Rows.fnStillRow.unfollowed == Tryz.prog.unfollowed 5)) = true:=by kernel_rfl
theorem Tryz.jfSt_11:((Rows.fnStillRow.recurses == Tryz.prog.recurses 5)) = true:=by kernel_rfl
theorem Tryz.jfSt_12:((Rows.fnStillRow.named == Tryz.prog.varsNamed 5)) = true:=by kernel_rfl
theorem Tryz.jfSt_13:((Rows.fnStillRow.maps == (Tryz.f5.params.toList ++ Rows.fnStillSpec.plain.varTypes Tryz.prog).any (Tryz.prog.mapsRec ·))) = true:=by kernel_rfl
theorem Tryz.jfSt_14:((Rows.fnStillRow.ifaces == (Tryz.f5.params.toList ++ Rows.fnStillSpec.plain.varTypes Tryz.prog).any (Tryz.prog.ifacesRec ·))) = true:=by kernel_rfl
theorem Tryz.jfSt_15:((Rows.fnStillRow.mapsOut == Tryz.prog.mapsAmong Tryz.f5.resultTypes.toList)) = true:=by kernel_rfl
theorem Tryz.jfSt_16:((Rows.fnStillRow.loops == (Tryz.f5.params.toList ++ Rows.fnStillSpec.plain.varTypes Tryz.prog).any (Tryz.prog.loopsFrom ·))) = true:=by kernel_rfl
theorem Tryz.jfSt_17:((Rows.fnStillRow.wideKeys == (Tryz.f5.params.toList ++ Rows.fnStillSpec.plain.varTypes Tryz.prog ++ Tryz.f5.resultTypes.toList).any (Tryz.prog.wideKeysFrom ·))) = true:=by kernel_rfl
theorem Tryz.jfSt_18:(Rows.fnStillSpec.vars.all (Tryz.prog.varReadable ·)) = true:=by kernel_rfl
theorem Tryz.jfSt_19:(Tryz.f5.resultTypes.all (fun t=>Tryz.prog.readableRec t && decide (t < Tryz.prog.types.size))) = true:=by kernel_rfl
theorem Tryz.jfSt_20:((Rows.fnStillRow.ifacesOut == Tryz.f5.resultTypes.toList.any (Tryz.prog.ifacesRec ·))) = true:=by kernel_rfl
theorem Tryz.jfSt_21:((Rows.fnStillRow.loopsOut == Tryz.f5.resultTypes.toList.any (Tryz.prog.loopsFrom ·))) = true:=by kernel_rfl
theorem Tryz.jfSt_22:((Rows.fnStillRow.plainKeys == Tryz.prog.plainKeys)) = true:=by kernel_rfl
theorem Tryz.jfSt_23:(Rows.fnStillRow.shortTexts.isNone) = true:=by kernel_rfl
theorem Tryz.jfSt_26:((Rows.fnStillRow.lifted == Tryz.prog.liftsFinal)) = true:=by kernel_rfl
theorem Tryz.jfSt_27:((Tryz.prog.make == some Rows.fnStillRow.make)) = true:=by kernel_rfl
theorem Tryz.jfSt_28:((Rows.fnStillRow.kinds == (if Rows.fnStillRow.domain.isEmpty then [] else Tryz.f5.params.toList.map fun t=>match Tryz.prog.underlying t with | some (.int k)=>some k | _=>none))) = true:=by kernel_rfl
theorem Tryz.jfSt_29:((Rows.fnStillRow.pinned == Rows.fnStillRow.pinnedBy)) = true:=by kernel_rfl
theorem Tryz.jfSt_30:((Rows.fnStillRow.veiled == (Tryz.f5.params.toList ++ Rows.fnStillSpec.plain.varTypes Tryz.prog ++ Tryz.f5.resultTypes.toList).any (Tryz.prog.veiledRec ·))) = true:=by kernel_rfl
theorem Tryz.jfSt_31:(Rows.fnStillRow.veiledFits Tryz.prog Tryz.f5.params.toList (Tryz.f5.params.toList ++ Rows.fnStillSpec.plain.varTypes Tryz.prog ++ Tryz.f5.resultTypes.toList)) = true:=by kernel_rfl
end Go.Proofs.YtdhinkgjiapigaaGreatDoor

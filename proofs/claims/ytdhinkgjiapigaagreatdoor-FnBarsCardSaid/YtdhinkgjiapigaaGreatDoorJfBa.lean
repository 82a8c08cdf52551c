import Derived.Test.YtdhinkgjiapigaaGreatDoorRows
import Derived.JoinedOf
import Derived.KernelRfl
namespace Go.Proofs.YtdhinkgjiapigaaGreatDoor
open Go
theorem zr8 {a b:Bool} (h:a = true) (k:b = true):(a && b) = true:=by rw [h,k]; rfl
theorem Tryz.jf_laidOut:laidOutB Tryz.prog = true:=by kernel_rfl
theorem Tryz.jf_mapsRowed:mapsRowed Tryz.prog = true:=by kernel_rfl
theorem Tryz.jf_stops:(Tryz.prog.stops == []) = true:=by kernel_rfl
theorem Tryz.jf_stopKnobs:(Tryz.prog.stopKnobs == []) = true:=by kernel_rfl
theorem Tryz.jf_heard:Tryz.prog.stopsHeard = true:=by kernel_rfl
theorem Tryz.jf_mayEnter:Tryz.prog.mayEnter = true:=by kernel_rfl
theorem Tryz.jfBa_0:(Rows.fnBarsRow.wf (OpenSpec.ofChange Rows.fnBarsSpec)) = true:=by kernel_rfl
theorem Tryz.jfBa_3:(Tryz.f4.params.all (Tryz.prog.readableRec ·)) = true:=by kernel_rfl
theorem Tryz.jfBa_4:(namedTie Tryz.prog Rows.fnBarsRow.named Rows.fnBarsSpec.vars) = true:=by kernel_rfl
theorem Tryz.jfBa_5:((Rows.fnBarsRow.stops == [])) = true:=by kernel_rfl
theorem Tryz.jfBa_7:((Rows.fnBarsRow.knobs == [])) = true:=by kernel_rfl
theorem Tryz.jfBa_9:((Rows.fnBarsRow.inPlace == Tryz.prog.inPlace 4)) = true:=by kernel_rfl
theorem Tryz.jfBa_10:((Rows.fnBarsRow.unfollowed == Tryz.prog.unfollowed 4)) = true:=by kernel_rfl
theorem Tryz.jfBa_11:((Rows.fnBarsRow.recurses == Tryz.prog.recurses 4)) = true:=by kernel_rfl
theorem Tryz.jfBa_12:((Rows.fnBarsRow.named == Tryz.prog.varsNamed 4)) = true:=by kernel_rfl
theorem Tryz.jfBa_13:((Rows.fnBarsRow.maps == (Tryz.f4.params.toList ++ Rows.fnBarsSpec.plain.varTypes Tryz.prog).any (Tryz.prog.mapsRec ·))) = true:=by kernel_rfl
theorem Tryz.jfBa_14:((Rows.fnBarsRow.ifaces == (Tryz.f4.params.toList ++ Rows.fnBarsSpec.plain.varTypes Tryz.prog).any (Tryz.prog.ifacesRec ·))) = true:=by kernel_rfl
theorem Tryz.jfBa_15:((Rows.fnBarsRow.mapsOut == Tryz.prog.mapsAmong Tryz.f4.resultTypes.toList)) = true:=by kernel_rfl
theorem Tryz.jfBa_16:((Rows.fnBarsRow.loops == (Tryz.f4.params.toList ++ Rows.fnBarsSpec.plain.varTypes Tryz.prog).any (Tryz.prog.loopsFrom ·))) = true:=by kernel_rfl
theorem Tryz.jfBa_17:((Rows.fnBarsRow.wideKeys == (Tryz.f4.params.toList ++ Rows.fnBarsSpec.plain.varTypes Tryz.prog ++ Tryz.f4.resultTypes.toList).any (Tryz.prog.wideKeysFrom ·))) = true:=by kernel_rfl
theorem Tryz.jfBa_18:(Rows.fnBarsSpec.vars.all (Tryz.prog.varReadable ·)) = true:=by kernel_rfl
theorem Tryz.jfBa_19:(Tryz.f4.resultTypes.all (fun t=>Tryz.prog.readableRec t && decide (t < Tryz.prog.types.size))) = true:=by kernel_rfl
theorem Tryz.jfBa_20:((Rows.fnBarsRow.ifacesOut == Tryz.f4.resultTypes.toList.any (Tryz.prog.ifacesRec ·))) = true:=by kernel_rfl
theorem Tryz.jfBa_21:((Rows.fnBarsRow.loopsOut == Tryz.f4.resultTypes.toList.any (Tryz.prog.loopsFrom ·))) = true:=by kernel_rfl
theorem Tryz.jfBa_22:((Rows.fnBarsRow.plainKeys == Tryz.prog.plainKeys)) = true:=by kernel_rfl
theorem Tryz.jfBa_23:(Rows.fnBarsRow.shortTexts.isNone) = true:=by kernel_rfl
theorem Tryz.jfBa_26:((Rows.fnBarsRow.lifted == Tryz.prog.liftsFinal)) = true:=by kernel_rfl
theorem Tryz.jfBa_27:((Tryz.prog.make == some Rows.fnBarsRow.make)) = true:=by kernel_rfl
theorem Tryz.jfBa_28:((Rows.fnBarsRow.kinds == (if Rows.fnBarsRow.domain.isEmpty then [] else Tryz.f4.params.toList.map fun t=>match Tryz.prog.underlying t with | some (.int k)=>some k | _=>none))) = true:=by kernel_rfl
theorem Tryz.jfBa_29:((Rows.fnBarsRow.pinned == Rows.fnBarsRow.pinnedBy)) = true:=by kernel_rfl
theorem Tryz.jfBa_30:((Rows.fnBarsRow.veiled == (Tryz.f4.params.toList ++ Rows.fnBarsSpec.plain.varTypes Tryz.prog ++ Tryz.f4.resultTypes.toList).any (Tryz.prog.veiledRec ·))) = true:=by kernel_rfl
theorem Tryz.jfBa_31:(Rows.fnBarsRow.veiledFits Tryz.prog Tryz.f4.params.toList (Tryz.f4.params.toList ++ Rows.fnBarsSpec.plain.varTypes Tryz.prog ++ Tryz.f4.resultTypes.toList)) = true:=by kernel_rfl
end Go.Proofs.YtdhinkgjiapigaaGreatDoor

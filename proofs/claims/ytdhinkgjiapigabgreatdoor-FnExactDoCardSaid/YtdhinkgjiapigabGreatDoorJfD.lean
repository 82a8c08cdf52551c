import Derived.Test.YtdhinkgjiapigabGreatDoorRows
import Derived.JoinedOf
import Derived.KernelRfl
namespace Go.Proofs.YtdhinkgjiapigabGreatDoor
open Go
theorem jf_and {a b:Bool} (h:a = true) (k:b = true):(a && b) = true:=by rw [h,k]; rfl
theorem Tryz.jf_laidOut:laidOutB Tryz.prog = true:=by kernel_rfl
theorem Tryz.jf_mapsRowed:mapsRowed Tryz.prog = true:=by kernel_rfl
theorem Tryz.jf_stops:(Tryz.prog.stops == []) = true:=by kernel_rfl
theorem Tryz.jf_stopKnobs:(Tryz.prog.stopKnobs == []) = true:=by kernel_rfl
theorem Tryz.jf_heard:Tryz.prog.stopsHeard = true:=by kernel_rfl
theorem Tryz.jf_mayEnter:Tryz.prog.mayEnter = true:=by kernel_rfl
theorem Tryz.jfD_0:(Rows.fnExactDoRow.wf (OpenSpec.ofChange Rows.fnExactDoSpec)) = true:=by kernel_rfl
theorem Tryz.jfD_3:(Tryz.f4.params.all (Tryz.prog.readableRec ·)) = true:=by kernel_rfl
theorem Tryz.jfD_4:(namedTie Tryz.prog Rows.fnExactDoRow.named Rows.fnExactDoSpec.vars) = true:=by kernel_rfl
theorem Tryz.jfD_5:((Rows.fnExactDoRow.stops == [])) = true:=by kernel_rfl
theorem Tryz.jfD_7:((Rows.fnExactDoRow.knobs == [])) = true:=by kernel_rfl
theorem Tryz.jfD_9:((Rows.fnExactDoRow.inPlace == Tryz.prog.inPlace 4)) = true:=by kernel_rfl
theorem Tryz.jfD_10:((Rows.fnExactDoRow.unfollowed == Tryz.prog.unfollowed 4)) = true:=by kernel_rfl
theorem Tryz.jfD_11:((Rows.fnExactDoRow.recurses == Tryz.prog.recurses 4)) = true:=by kernel_rfl
theorem Tryz.jfD_12:((Rows.fnExactDoRow.named == Tryz.prog.varsNamed 4)) = true:=by kernel_rfl
theorem Tryz.jfD_13:((Rows.fnExactDoRow.maps == (Tryz.f4.params.toList ++ Rows.fnExactDoSpec.plain.varTypes Tryz.prog).any (Tryz.prog.mapsRec ·))) = true:=by kernel_rfl
theorem Tryz.jfD_14:((Rows.fnExactDoRow.ifaces == (Tryz.f4.params.toList ++ Rows.fnExactDoSpec.plain.varTypes Tryz.prog).any (Tryz.prog.ifacesRec ·))) = true:=by kernel_rfl
theorem Tryz.jfD_15:((Rows.fnExactDoRow.mapsOut == Tryz.prog.mapsAmong Tryz.f4.resultTypes.toList)) = true:=by kernel_rfl
theorem Tryz.jfD_16:((Rows.fnExactDoRow.loops == (Tryz.f4.params.toList ++ Rows.fnExactDoSpec.plain.varTypes Tryz.prog).any (Tryz.prog.loopsFrom ·))) = true:=by kernel_rfl
theorem Tryz.jfD_17:((Rows.fnExactDoRow.wideKeys == (Tryz.f4.params.toList ++ Rows.fnExactDoSpec.plain.varTypes Tryz.prog ++ Tryz.f4.resultTypes.toList).any (Tryz.prog.wideKeysFrom ·))) = true:=by kernel_rfl
theorem Tryz.jfD_18:(Rows.fnExactDoSpec.vars.all (Tryz.prog.varReadable ·)) = true:=by kernel_rfl
theorem Tryz.jfD_19:(Tryz.f4.resultTypes.all (fun t=>Tryz.prog.readableRec t && decide (t < Tryz.prog.types.size))) = true:=by kernel_rfl
theorem Tryz.jfD_20:((Rows.fnExactDoRow.ifacesOut == Tryz.f4.resultTypes.toList.any (Tryz.prog.ifacesRec ·))) = true:=by kernel_rfl
theorem Tryz.jfD_21:((Rows.fnExactDoRow.loopsOut == Tryz.f4.resultTypes.toList.any (Tryz.prog.loopsFrom ·))) = true:=by kernel_rfl
theorem Tryz.jfD_22:((Rows.fnExactDoRow.plainKeys == Tryz.prog.plainKeys)) = true:=by kernel_rfl
theorem Tryz.jfD_23:(Rows.fnExactDoRow.shortTexts.isNone) = true:=by kernel_rfl
theorem Tryz.jfD_26:((Rows.fnExactDoRow.lifted == Tryz.prog.liftsFinal)) = true:=by kernel_rfl
theorem Tryz.jfD_27:((Tryz.prog.make == some Rows.fnExactDoRow.make)) = true:=by kernel_rfl
theorem Tryz.jfD_28:((Rows.fnExactDoRow.kinds == (if Rows.fnExactDoRow.domain.isEmpty then [] else Tryz.f4.params.toList.map fun t=>match Tryz.prog.underlying t with | some (.int k)=>some k | _=>none))) = true:=by kernel_rfl
theorem Tryz.jfD_29:((Rows.fnExactDoRow.pinned == Rows.fnExactDoRow.pinnedBy)) = true:=by kernel_rfl
theorem Tryz.jfD_30:((Rows.fnExactDoRow.veiled == (Tryz.f4.params.toList ++ Rows.fnExactDoSpec.plain.varTypes Tryz.prog ++ Tryz.f4.resultTypes.toList).any (Tryz.prog.veiledRec ·))) = true:=by kernel_rfl
theorem Tryz.jfD_31:(Rows.fnExactDoRow.veiledFits Tryz.prog Tryz.f4.params.toList (Tryz.f4.params.toList ++ Rows.fnExactDoSpec.plain.varTypes Tryz.prog ++ Tryz.f4.resultTypes.toList)) = true:=by kernel_rfl
end Go.Proofs.YtdhinkgjiapigabGreatDoor

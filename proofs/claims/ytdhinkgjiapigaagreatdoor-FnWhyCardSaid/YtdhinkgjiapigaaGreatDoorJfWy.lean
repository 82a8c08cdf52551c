import Derived.Test.YtdhinkgjiapigaaGreatDoorRows
import Derived.JoinedOf
import Derived.KernelRfl
namespace Go.Proofs.YtdhinkgjiapigaaGreatDoor
open Go
theorem zr8 {a b:Bool} (h:a = true) (k:b = true):(a && b) = true:=by rw [h,k]; rfl
theorem Tryz.jf_laidOut:laidOutB Tryz.prog = true:=by kernel_rfl
theorem Tryz.jf_mapsRowed:mapsRowed Tryz.prog = true:=by kernel_rfl
theorem Tryz.jf_stops:(Tryz.prog.stops == []) = true:=by kernel_rfl
theorem Tryz.jf_stopKnobs:(Tryz.prog.stopKnobs == []) = true:=by kernel_rfl
theorem Tryz.jf_heard:Tryz.prog.stopsHeard = true:=by kernel_rfl
theorem Tryz.jf_mayEnter:Tryz.prog.mayEnter = true:=by kernel_rfl
theorem Tryz.jfWy_0:(Rows.fnWhyRow.wf (OpenSpec.ofChange Rows.fnWhySpec)) = true:=by kernel_rfl
theorem Tryz.jfWy_3:(Tryz.f10.params.all (Tryz.prog.readableRec ·)) = true:=by kernel_rfl
theorem Tryz.jfWy_4:(namedTie Tryz.prog Rows.fnWhyRow.named Rows.fnWhySpec.vars) = true:=by kernel_rfl
theorem Tryz.jfWy_5:((Rows.fnWhyRow.stops == [])) = true:=by kernel_rfl
theorem Tryz.jfWy_7:((Rows.fnWhyRow.knobs == [])) = true:=by kernel_rfl
theorem Tryz.jfWy_9:((Rows.fnWhyRow.inPlace == Tryz.prog.inPlace 10)) = true:=by kernel_rfl
theorem Tryz.jfWy_10:((Rows.fnWhyRow.unfollowed == Tryz.prog.unfollowed 10)) = true:=by kernel_rfl
theorem Tryz.jfWy_11:((Rows.fnWhyRow.recurses == Tryz.prog.recurses 10)) = true:=by kernel_rfl
theorem Tryz.jfWy_12:((Rows.fnWhyRow.named == Tryz.prog.varsNamed 10)) = true:=by kernel_rfl
theorem Tryz.jfWy_13:((Rows.fnWhyRow.maps == (Tryz.f10.params.toList ++ Rows.fnWhySpec.plain.varTypes Tryz.prog).any (Tryz.prog.mapsRec ·))) = true:=by kernel_rfl
theorem Tryz.jfWy_14:((Rows.fnWhyRow.ifaces == (Tryz.f10.params.toList ++ Rows.fnWhySpec.plain.varTypes Tryz.prog).any (Tryz.prog.ifacesRec ·))) = true:=by kernel_rfl
theorem Tryz.jfWy_15:((Rows.fnWhyRow.mapsOut == Tryz.prog.mapsAmong Tryz.f10.resultTypes.toList)) = true:=by kernel_rfl
theorem Tryz.jfWy_16:((Rows.fnWhyRow.loops == (Tryz.f10.params.toList ++ Rows.fnWhySpec.plain.varTypes Tryz.prog).any (Tryz.prog.loopsFrom ·))) = true:=by kernel_rfl
theorem Tryz.jfWy_17:((Rows.fnWhyRow.wideKeys == (Tryz.f10.params.toList ++ Rows.fnWhySpec.plain.varTypes Tryz.prog ++ Tryz.f10.resultTypes.toList).any (Tryz.prog.wideKeysFrom ·))) = true:=by kernel_rfl
theorem Tryz.jfWy_18:(Rows.fnWhySpec.vars.all (Tryz.prog.varReadable ·)) = true:=by kernel_rfl
theorem Tryz.jfWy_19:(Tryz.f10.resultTypes.all (fun t=>Tryz.prog.readableRec t && decide (t < Tryz.prog.types.size))) = true:=by kernel_rfl
theorem Tryz.jfWy_20:((Rows.fnWhyRow.ifacesOut == Tryz.f10.resultTypes.toList.any (Tryz.prog.ifacesRec ·))) = true:=by kernel_rfl
theorem Tryz.jfWy_21:((Rows.fnWhyRow.loopsOut == Tryz.f10.resultTypes.toList.any (Tryz.prog.loopsFrom ·))) = true:=by kernel_rfl
theorem Tryz.jfWy_22:((Rows.fnWhyRow.plainKeys == Tryz.prog.plainKeys)) = true:=by kernel_rfl
theorem Tryz.jfWy_23:(Rows.fnWhyRow.shortTexts.isNone) = true:=by kernel_rfl
theorem Tryz.jfWy_26:((Rows.fnWhyRow.lifted == Tryz.prog.liftsFinal)) = true:=by kernel_rfl
theorem Tryz.jfWy_27:((Tryz.prog.make == some Rows.fnWhyRow.make)) = true:=by kernel_rfl
theorem Tryz.jfWy_28:((Rows.fnWhyRow.kinds == (if Rows.fnWhyRow.domain.isEmpty then [] else Tryz.f10.params.toList.map fun t=>match Tryz.prog.underlying t with | some (.int k)=>some k | _=>none))) = true:=by kernel_rfl
theorem Tryz.jfWy_29:((Rows.fnWhyRow.pinned == Rows.fnWhyRow.pinnedBy)) = true:=by kernel_rfl
theorem Tryz.jfWy_30:((Rows.fnWhyRow.veiled == (Tryz.f10.params.toList ++ Rows.fnWhySpec.plain.varTypes Tryz.prog ++ Tryz.f10.resultTypes.toList).any (Tryz.prog.veiledRec ·))) = true:=by kernel_rfl
theorem Tryz.jfWy_31:(Rows.fnWhyRow.veiledFits Tryz.prog Tryz.f10.params.toList (Tryz.f10.params.toList ++ Rows.fnWhySpec.plain.varTypes Tryz.prog ++ Tryz.f10.resultTypes.toList)) = true:=by kernel_rfl
end Go.Proofs.YtdhinkgjiapigaaGreatDoor

import Derived.Test.YtdhinkgjiapigabGreatDoorJf
namespace Go.Proofs.YtdhinkgjiapigabGreatDoor
open Go
theorem Tryz.jfH_0:(Rows.fnExactShownRow.wf (OpenSpec.ofChange Rows.fnExactShownSpec)) = true:=by kernel_rfl
theorem Tryz.jfH_3:(Tryz.f11.params.all (Tryz.prog.readableRec ·)) = true:=by kernel_rfl
theorem Tryz.jfH_4:(namedTie Tryz.prog Rows.fnExactShownRow.named Rows.fnExactShownSpec.vars) = true:=by kernel_rfl
theorem Tryz.jfH_5:((Rows.fnExactShownRow.stops == [])) = true:=by kernel_rfl
theorem Tryz.jfH_7:((Rows.fnExactShownRow.knobs == [])) = true:=by kernel_rfl
theorem Tryz.jfH_9:((Rows.fnExactShownRow.inPlace == Tryz.prog.inPlace 11)) = true:=by kernel_rfl
theorem Tryz.jfH_10:((Rows.fnExactShownRow.unfollowed == Tryz.prog.unfollowed 11)) = true:=by kernel_rfl
theorem Tryz.jfH_11:((Rows.fnExactShownRow.recurses == Tryz.prog.recurses 11)) = true:=by kernel_rfl
theorem Tryz.jfH_12:((Rows.fnExactShownRow.named == Tryz.prog.varsNamed 11)) = true:=by kernel_rfl
theorem Tryz.jfH_13:((Rows.fnExactShownRow.maps == (Tryz.f11.params.toList ++ Rows.fnExactShownSpec.plain.varTypes Tryz.prog).any (Tryz.prog.mapsRec ·))) = true:=by kernel_rfl
theorem Tryz.jfH_14:((Rows.fnExactShownRow.ifaces == (Tryz.f11.params.toList ++ Rows.fnExactShownSpec.plain.varTypes Tryz.prog).any (Tryz.prog.ifacesRec ·))) = true:=by kernel_rfl
theorem Tryz.jfH_15:((Rows.fnExactShownRow.mapsOut == Tryz.prog.mapsAmong Tryz.f11.resultTypes.toList)) = true:=by kernel_rfl
theorem Tryz.jfH_16:((Rows.fnExactShownRow.loops == (Tryz.f11.params.toList ++ Rows.fnExactShownSpec.plain.varTypes Tryz.prog).any (Tryz.prog.loopsFrom ·))) = true:=by kernel_rfl
theorem Tryz.jfH_17:((Rows.fnExactShownRow.wideKeys == (Tryz.f11.params.toList ++ Rows.fnExactShownSpec.plain.varTypes Tryz.prog ++ Tryz.f11.resultTypes.toList).any (Tryz.prog.wideKeysFrom ·))) = true:=by kernel_rfl
theorem Tryz.jfH_18:(Rows.fnExactShownSpec.vars.all (Tryz.prog.varReadable ·)) = true:=by kernel_rfl
theorem Tryz.jfH_19:(Tryz.f11.resultTypes.all (fun t=>Tryz.prog.readableRec t && decide (t < Tryz.prog.types.size))) = true:=by kernel_rfl
theorem Tryz.jfH_20:((Rows.fnExactShownRow.ifacesOut == Tryz.f11.resultTypes.toList.any (Tryz.prog.ifacesRec ·))) = true:=by kernel_rfl
theorem Tryz.jfH_21:((Rows.fnExactShownRow.loopsOut == Tryz.f11.resultTypes.toList.any (Tryz.prog.loopsFrom ·))) = true:=by kernel_rfl
theorem Tryz.jfH_22:((Rows.fnExactShownRow.plainKeys == Tryz.prog.plainKeys)) = true:=by kernel_rfl
theorem Tryz.jfH_23:(Rows.fnExactShownRow.shortTexts.isNone) = true:=by kernel_rfl
theorem Tryz.jfH_26:((Rows.fnExactShownRow.lifted == Tryz.prog.liftsFinal)) = true:=by kernel_rfl
theorem Tryz.jfH_27:((Tryz.prog.make == some Rows.fnExactShownRow.make)) = true:=by kernel_rfl
theorem Tryz.jfH_28:((Rows.fnExactShownRow.kinds == (if Rows.fnExactShownRow.domain.isEmpty then [] else Tryz.f11.params.toList.map fun t=>match Tryz.prog.underlying t with | some (.int k)=>some k | _=>none))) = true:=by kernel_rfl
theorem Tryz.jfH_29:((Rows.fnExactShownRow.pinned == Rows.fnExactShownRow.pinnedBy)) = true:=by kernel_rfl
theorem Tryz.jfH_30:((Rows.fnExactShownRow.veiled == (Tryz.f11.params.toList ++ Rows.fnExactShownSpec.plain.varTypes Tryz.prog ++ Tryz.f11.resultTypes.toList).any (Tryz.prog.veiledRec ·))) = true:=by kernel_rfl
theorem Tryz.jfH_31:(Rows.fnExactShownRow.veiledFits Tryz.prog Tryz.f11.params.toList (Tryz.f11.params.toList ++ Rows.fnExactShownSpec.plain.varTypes Tryz.prog ++ Tryz.f11.resultTypes.toList)) = true:=by kernel_rfl
end Go.Proofs.YtdhinkgjiapigabGreatDoor

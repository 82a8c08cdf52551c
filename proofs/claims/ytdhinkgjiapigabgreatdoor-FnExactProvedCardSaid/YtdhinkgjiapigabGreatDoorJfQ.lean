import Derived.Test.YtdhinkgjiapigabGreatDoorJf
namespace Go.Proofs.YtdhinkgjiapigabGreatDoor
open Go
theorem Tryz.jfQ_0 : (Rows.fnExactProvedRow.wf (OpenSpec.ofChange Rows.fnExactProvedSpec)) = true := by kernel_rfl
theorem Tryz.jfQ_3 : (Tryz.f6.params.all (Tryz.prog.readableRec ·)) = true := by kernel_rfl
theorem Tryz.jfQ_4 : (namedTie Tryz.prog Rows.fnExactProvedRow.named Rows.fnExactProvedSpec.vars) = true := by kernel_rfl
theorem Tryz.jfQ_5 : ((Rows.fnExactProvedRow.stops == [])) = true := by kernel_rfl
theorem Tryz.jfQ_7 : ((Rows.fnExactProvedRow.knobs == [])) = true := by kernel_rfl
theorem Tryz.jfQ_9 : ((Rows.fnExactProvedRow.inPlace == Tryz.prog.inPlace 6)) = true := by kernel_rfl
theorem Tryz.jfQ_10 : ((Rows.fnExactProvedRow.unfollowed == Tryz.prog.unfollowed 6)) = true := by kernel_rfl
theorem Tryz.jfQ_11 : ((Rows.fnExactProvedRow.recurses == Tryz.prog.recurses 6)) = true := by kernel_rfl
theorem Tryz.jfQ_12 : ((Rows.fnExactProvedRow.named == Tryz.prog.varsNamed 6)) = true := by kernel_rfl
theorem Tryz.jfQ_13 : ((Rows.fnExactProvedRow.maps == (Tryz.f6.params.toList ++ Rows.fnExactProvedSpec.plain.varTypes Tryz.prog).any (Tryz.prog.mapsRec ·))) = true := by kernel_rfl
theorem Tryz.jfQ_14 : ((Rows.fnExactProvedRow.ifaces == (Tryz.f6.params.toList ++ Rows.fnExactProvedSpec.plain.varTypes Tryz.prog).any (Tryz.prog.ifacesRec ·))) = true := by kernel_rfl
theorem Tryz.jfQ_15 : ((Rows.fnExactProvedRow.mapsOut == Tryz.prog.mapsAmong Tryz.f6.resultTypes.toList)) = true := by kernel_rfl
theorem Tryz.jfQ_16 : ((Rows.fnExactProvedRow.loops == (Tryz.f6.params.toList ++ Rows.fnExactProvedSpec.plain.varTypes Tryz.prog).any (Tryz.prog.loopsFrom ·))) = true := by kernel_rfl
theorem Tryz.jfQ_17 : ((Rows.fnExactProvedRow.wideKeys == (Tryz.f6.params.toList ++ Rows.fnExactProvedSpec.plain.varTypes Tryz.prog ++ Tryz.f6.resultTypes.toList).any (Tryz.prog.wideKeysFrom ·))) = true := by kernel_rfl
theorem Tryz.jfQ_18 : (Rows.fnExactProvedSpec.vars.all (Tryz.prog.varReadable ·)) = true := by kernel_rfl
theorem Tryz.jfQ_19 : (Tryz.f6.resultTypes.all (fun t => Tryz.prog.readableRec t && decide (t < Tryz.prog.types.size))) = true := by kernel_rfl
theorem Tryz.jfQ_20 : ((Rows.fnExactProvedRow.ifacesOut == Tryz.f6.resultTypes.toList.any (Tryz.prog.ifacesRec ·))) = true := by kernel_rfl
theorem Tryz.jfQ_21 : ((Rows.fnExactProvedRow.loopsOut == Tryz.f6.resultTypes.toList.any (Tryz.prog.loopsFrom ·))) = true := by kernel_rfl
theorem Tryz.jfQ_22 : ((Rows.fnExactProvedRow.plainKeys == Tryz.prog.plainKeys)) = true := by kernel_rfl
theorem Tryz.jfQ_23 : (Rows.fnExactProvedRow.shortTexts.isNone) = true := by kernel_rfl
theorem Tryz.jfQ_26 : ((Rows.fnExactProvedRow.lifted == Tryz.prog.liftsFinal)) = true := by kernel_rfl
theorem Tryz.jfQ_27 : ((Tryz.prog.make == some Rows.fnExactProvedRow.make)) = true := by kernel_rfl
theorem Tryz.jfQ_28 : ((Rows.fnExactProvedRow.kinds == (if Rows.fnExactProvedRow.domain.isEmpty then [] else Tryz.f6.params.toList.map fun t => match Tryz.prog.underlying t with | some (.int k) => some k | _ => none))) = true := by kernel_rfl
theorem Tryz.jfQ_29 : ((Rows.fnExactProvedRow.pinned == Rows.fnExactProvedRow.pinnedBy)) = true := by kernel_rfl
theorem Tryz.jfQ_30 : ((Rows.fnExactProvedRow.veiled == (Tryz.f6.params.toList ++ Rows.fnExactProvedSpec.plain.varTypes Tryz.prog ++ Tryz.f6.resultTypes.toList).any (Tryz.prog.veiledRec ·))) = true := by kernel_rfl
theorem Tryz.jfQ_31 : (Rows.fnExactProvedRow.veiledFits Tryz.prog Tryz.f6.params.toList (Tryz.f6.params.toList ++ Rows.fnExactProvedSpec.plain.varTypes Tryz.prog ++ Tryz.f6.resultTypes.toList)) = true := by kernel_rfl
end Go.Proofs.YtdhinkgjiapigabGreatDoor

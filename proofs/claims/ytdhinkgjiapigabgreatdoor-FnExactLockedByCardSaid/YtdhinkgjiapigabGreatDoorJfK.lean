import Derived.Test.YtdhinkgjiapigabGreatDoorJf
namespace Go.Proofs.YtdhinkgjiapigabGreatDoor
open Go
theorem Tryz.jfK_0 : (Rows.fnExactLockedByRow.wf (OpenSpec.ofChange Rows.fnExactLockedBySpec)) = true := by kernel_rfl
theorem Tryz.jfK_3 : (Tryz.f7.params.all (Tryz.prog.readableRec ·)) = true := by kernel_rfl
theorem Tryz.jfK_4 : (namedTie Tryz.prog Rows.fnExactLockedByRow.named Rows.fnExactLockedBySpec.vars) = true := by kernel_rfl
theorem Tryz.jfK_5 : ((Rows.fnExactLockedByRow.stops == [])) = true := by kernel_rfl
theorem Tryz.jfK_7 : ((Rows.fnExactLockedByRow.knobs == [])) = true := by kernel_rfl
theorem Tryz.jfK_9 : ((Rows.fnExactLockedByRow.inPlace == Tryz.prog.inPlace 7)) = true := by kernel_rfl
theorem Tryz.jfK_10 : ((Rows.fnExactLockedByRow.unfollowed == Tryz.prog.unfollowed 7)) = true := by kernel_rfl
theorem Tryz.jfK_11 : ((Rows.fnExactLockedByRow.recurses == Tryz.prog.recurses 7)) = true := by kernel_rfl
theorem Tryz.jfK_12 : ((Rows.fnExactLockedByRow.named == Tryz.prog.varsNamed 7)) = true := by kernel_rfl
theorem Tryz.jfK_13 : ((Rows.fnExactLockedByRow.maps == (Tryz.f7.params.toList ++ Rows.fnExactLockedBySpec.plain.varTypes Tryz.prog).any (Tryz.prog.mapsRec ·))) = true := by kernel_rfl
theorem Tryz.jfK_14 : ((Rows.fnExactLockedByRow.ifaces == (Tryz.f7.params.toList ++ Rows.fnExactLockedBySpec.plain.varTypes Tryz.prog).any (Tryz.prog.ifacesRec ·))) = true := by kernel_rfl
theorem Tryz.jfK_15 : ((Rows.fnExactLockedByRow.mapsOut == Tryz.prog.mapsAmong Tryz.f7.resultTypes.toList)) = true := by kernel_rfl
theorem Tryz.jfK_16 : ((Rows.fnExactLockedByRow.loops == (Tryz.f7.params.toList ++ Rows.fnExactLockedBySpec.plain.varTypes Tryz.prog).any (Tryz.prog.loopsFrom ·))) = true := by kernel_rfl
theorem Tryz.jfK_17 : ((Rows.fnExactLockedByRow.wideKeys == (Tryz.f7.params.toList ++ Rows.fnExactLockedBySpec.plain.varTypes Tryz.prog ++ Tryz.f7.resultTypes.toList).any (Tryz.prog.wideKeysFrom ·))) = true := by kernel_rfl
theorem Tryz.jfK_18 : (Rows.fnExactLockedBySpec.vars.all (Tryz.prog.varReadable ·)) = true := by kernel_rfl
theorem Tryz.jfK_19 : (Tryz.f7.resultTypes.all (fun t => Tryz.prog.readableRec t && decide (t < Tryz.prog.types.size))) = true := by kernel_rfl
theorem Tryz.jfK_20 : ((Rows.fnExactLockedByRow.ifacesOut == Tryz.f7.resultTypes.toList.any (Tryz.prog.ifacesRec ·))) = true := by kernel_rfl
theorem Tryz.jfK_21 : ((Rows.fnExactLockedByRow.loopsOut == Tryz.f7.resultTypes.toList.any (Tryz.prog.loopsFrom ·))) = true := by kernel_rfl
theorem Tryz.jfK_22 : ((Rows.fnExactLockedByRow.plainKeys == Tryz.prog.plainKeys)) = true := by kernel_rfl
theorem Tryz.jfK_23 : (Rows.fnExactLockedByRow.shortTexts.isNone) = true := by kernel_rfl
theorem Tryz.jfK_26 : ((Rows.fnExactLockedByRow.lifted == Tryz.prog.liftsFinal)) = true := by kernel_rfl
theorem Tryz.jfK_27 : ((Tryz.prog.make == some Rows.fnExactLockedByRow.make)) = true := by kernel_rfl
theorem Tryz.jfK_28 : ((Rows.fnExactLockedByRow.kinds == (if Rows.fnExactLockedByRow.domain.isEmpty then [] else Tryz.f7.params.toList.map fun t => match Tryz.prog.underlying t with | some (.int k) => some k | _ => none))) = true := by kernel_rfl
theorem Tryz.jfK_29 : ((Rows.fnExactLockedByRow.pinned == Rows.fnExactLockedByRow.pinnedBy)) = true := by kernel_rfl
theorem Tryz.jfK_30 : ((Rows.fnExactLockedByRow.veiled == (Tryz.f7.params.toList ++ Rows.fnExactLockedBySpec.plain.varTypes Tryz.prog ++ Tryz.f7.resultTypes.toList).any (Tryz.prog.veiledRec ·))) = true := by kernel_rfl
theorem Tryz.jfK_31 : (Rows.fnExactLockedByRow.veiledFits Tryz.prog Tryz.f7.params.toList (Tryz.f7.params.toList ++ Rows.fnExactLockedBySpec.plain.varTypes Tryz.prog ++ Tryz.f7.resultTypes.toList)) = true := by kernel_rfl
end Go.Proofs.YtdhinkgjiapigabGreatDoor

import Derived.Test.YtdhinkgjiapigabGreatDoorJf
namespace Go.Proofs.YtdhinkgjiapigabGreatDoor
open Go
theorem Tryz.jfF_0 : (Rows.fnExactFrameOkRow.wf (OpenSpec.ofChange Rows.fnExactFrameOkSpec)) = true := by kernel_rfl
theorem Tryz.jfF_3 : (Tryz.f3.params.all (Tryz.prog.readableRec ·)) = true := by kernel_rfl
theorem Tryz.jfF_4 : (namedTie Tryz.prog Rows.fnExactFrameOkRow.named Rows.fnExactFrameOkSpec.vars) = true := by kernel_rfl
theorem Tryz.jfF_5 : ((Rows.fnExactFrameOkRow.stops == [])) = true := by kernel_rfl
theorem Tryz.jfF_7 : ((Rows.fnExactFrameOkRow.knobs == [])) = true := by kernel_rfl
theorem Tryz.jfF_9 : ((Rows.fnExactFrameOkRow.inPlace == Tryz.prog.inPlace 3)) = true := by kernel_rfl
theorem Tryz.jfF_10 : ((Rows.fnExactFrameOkRow.unfollowed == Tryz.prog.unfollowed 3)) = true := by kernel_rfl
theorem Tryz.jfF_11 : ((Rows.fnExactFrameOkRow.recurses == Tryz.prog.recurses 3)) = true := by kernel_rfl
theorem Tryz.jfF_12 : ((Rows.fnExactFrameOkRow.named == Tryz.prog.varsNamed 3)) = true := by kernel_rfl
theorem Tryz.jfF_13 : ((Rows.fnExactFrameOkRow.maps == (Tryz.f3.params.toList ++ Rows.fnExactFrameOkSpec.plain.varTypes Tryz.prog).any (Tryz.prog.mapsRec ·))) = true := by kernel_rfl
theorem Tryz.jfF_14 : ((Rows.fnExactFrameOkRow.ifaces == (Tryz.f3.params.toList ++ Rows.fnExactFrameOkSpec.plain.varTypes Tryz.prog).any (Tryz.prog.ifacesRec ·))) = true := by kernel_rfl
theorem Tryz.jfF_15 : ((Rows.fnExactFrameOkRow.mapsOut == Tryz.prog.mapsAmong Tryz.f3.resultTypes.toList)) = true := by kernel_rfl
theorem Tryz.jfF_16 : ((Rows.fnExactFrameOkRow.loops == (Tryz.f3.params.toList ++ Rows.fnExactFrameOkSpec.plain.varTypes Tryz.prog).any (Tryz.prog.loopsFrom ·))) = true := by kernel_rfl
theorem Tryz.jfF_17 : ((Rows.fnExactFrameOkRow.wideKeys == (Tryz.f3.params.toList ++ Rows.fnExactFrameOkSpec.plain.varTypes Tryz.prog ++ Tryz.f3.resultTypes.toList).any (Tryz.prog.wideKeysFrom ·))) = true := by kernel_rfl
theorem Tryz.jfF_18 : (Rows.fnExactFrameOkSpec.vars.all (Tryz.prog.varReadable ·)) = true := by kernel_rfl
theorem Tryz.jfF_19 : (Tryz.f3.resultTypes.all (fun t => Tryz.prog.readableRec t && decide (t < Tryz.prog.types.size))) = true := by kernel_rfl
theorem Tryz.jfF_20 : ((Rows.fnExactFrameOkRow.ifacesOut == Tryz.f3.resultTypes.toList.any (Tryz.prog.ifacesRec ·))) = true := by kernel_rfl
theorem Tryz.jfF_21 : ((Rows.fnExactFrameOkRow.loopsOut == Tryz.f3.resultTypes.toList.any (Tryz.prog.loopsFrom ·))) = true := by kernel_rfl
theorem Tryz.jfF_22 : ((Rows.fnExactFrameOkRow.plainKeys == Tryz.prog.plainKeys)) = true := by kernel_rfl
theorem Tryz.jfF_23 : (Rows.fnExactFrameOkRow.shortTexts.isNone) = true := by kernel_rfl
theorem Tryz.jfF_26 : ((Rows.fnExactFrameOkRow.lifted == Tryz.prog.liftsFinal)) = true := by kernel_rfl
theorem Tryz.jfF_27 : ((Tryz.prog.make == some Rows.fnExactFrameOkRow.make)) = true := by kernel_rfl
theorem Tryz.jfF_28 : ((Rows.fnExactFrameOkRow.kinds == (if Rows.fnExactFrameOkRow.domain.isEmpty then [] else Tryz.f3.params.toList.map fun t => match Tryz.prog.underlying t with | some (.int k) => some k | _ => none))) = true := by kernel_rfl
theorem Tryz.jfF_29 : ((Rows.fnExactFrameOkRow.pinned == Rows.fnExactFrameOkRow.pinnedBy)) = true := by kernel_rfl
theorem Tryz.jfF_30 : ((Rows.fnExactFrameOkRow.veiled == (Tryz.f3.params.toList ++ Rows.fnExactFrameOkSpec.plain.varTypes Tryz.prog ++ Tryz.f3.resultTypes.toList).any (Tryz.prog.veiledRec ·))) = true := by kernel_rfl
theorem Tryz.jfF_31 : (Rows.fnExactFrameOkRow.veiledFits Tryz.prog Tryz.f3.params.toList (Tryz.f3.params.toList ++ Rows.fnExactFrameOkSpec.plain.varTypes Tryz.prog ++ Tryz.f3.resultTypes.toList)) = true := by kernel_rfl
end Go.Proofs.YtdhinkgjiapigabGreatDoor

import Derived.Test.YtdhinkgjiapigabGreatDoorRows
import Derived.JoinedOf
import Derived.KernelRfl
namespace Go.Proofs.YtdhinkgjiapigabGreatDoor
open Go
theorem jf_and {a b : Bool} (h : a = true) (k : b = true) : (a && b) = true := by rw [h, k]; rfl
theorem Tryz.jf_laidOut : laidOutB Tryz.prog = true := by kernel_rfl
theorem Tryz.jf_mapsRowed : mapsRowed Tryz.prog = true := by kernel_rfl
theorem Tryz.jf_stops : (Tryz.prog.stops == []) = true := by kernel_rfl
theorem Tryz.jf_stopKnobs : (Tryz.prog.stopKnobs == []) = true := by kernel_rfl
theorem Tryz.jf_heard : Tryz.prog.stopsHeard = true := by kernel_rfl
theorem Tryz.jf_mayEnter : Tryz.prog.mayEnter = true := by kernel_rfl
theorem Tryz.jfL_0 : (Rows.fnExactPointLockRow.wf (OpenSpec.ofChange Rows.fnExactPointLockSpec)) = true := by kernel_rfl
theorem Tryz.jfL_3 : (Tryz.f8.params.all (Tryz.prog.readableRec ·)) = true := by kernel_rfl
theorem Tryz.jfL_4 : (namedTie Tryz.prog Rows.fnExactPointLockRow.named Rows.fnExactPointLockSpec.vars) = true := by kernel_rfl
theorem Tryz.jfL_5 : ((Rows.fnExactPointLockRow.stops == [])) = true := by kernel_rfl
theorem Tryz.jfL_7 : ((Rows.fnExactPointLockRow.knobs == [])) = true := by kernel_rfl
theorem Tryz.jfL_9 : ((Rows.fnExactPointLockRow.inPlace == Tryz.prog.inPlace 8)) = true := by kernel_rfl
theorem Tryz.jfL_10 : ((Rows.fnExactPointLockRow.unfollowed == Tryz.prog.unfollowed 8)) = true := by kernel_rfl
theorem Tryz.jfL_11 : ((Rows.fnExactPointLockRow.recurses == Tryz.prog.recurses 8)) = true := by kernel_rfl
theorem Tryz.jfL_12 : ((Rows.fnExactPointLockRow.named == Tryz.prog.varsNamed 8)) = true := by kernel_rfl
theorem Tryz.jfL_13 : ((Rows.fnExactPointLockRow.maps == (Tryz.f8.params.toList ++ Rows.fnExactPointLockSpec.plain.varTypes Tryz.prog).any (Tryz.prog.mapsRec ·))) = true := by kernel_rfl
theorem Tryz.jfL_14 : ((Rows.fnExactPointLockRow.ifaces == (Tryz.f8.params.toList ++ Rows.fnExactPointLockSpec.plain.varTypes Tryz.prog).any (Tryz.prog.ifacesRec ·))) = true := by kernel_rfl
theorem Tryz.jfL_15 : ((Rows.fnExactPointLockRow.mapsOut == Tryz.prog.mapsAmong Tryz.f8.resultTypes.toList)) = true := by kernel_rfl
theorem Tryz.jfL_16 : ((Rows.fnExactPointLockRow.loops == (Tryz.f8.params.toList ++ Rows.fnExactPointLockSpec.plain.varTypes Tryz.prog).any (Tryz.prog.loopsFrom ·))) = true := by kernel_rfl
theorem Tryz.jfL_17 : ((Rows.fnExactPointLockRow.wideKeys == (Tryz.f8.params.toList ++ Rows.fnExactPointLockSpec.plain.varTypes Tryz.prog ++ Tryz.f8.resultTypes.toList).any (Tryz.prog.wideKeysFrom ·))) = true := by kernel_rfl
theorem Tryz.jfL_18 : (Rows.fnExactPointLockSpec.vars.all (Tryz.prog.varReadable ·)) = true := by kernel_rfl
theorem Tryz.jfL_19 : (Tryz.f8.resultTypes.all (fun t => Tryz.prog.readableRec t && decide (t < Tryz.prog.types.size))) = true := by kernel_rfl
theorem Tryz.jfL_20 : ((Rows.fnExactPointLockRow.ifacesOut == Tryz.f8.resultTypes.toList.any (Tryz.prog.ifacesRec ·))) = true := by kernel_rfl
theorem Tryz.jfL_21 : ((Rows.fnExactPointLockRow.loopsOut == Tryz.f8.resultTypes.toList.any (Tryz.prog.loopsFrom ·))) = true := by kernel_rfl
theorem Tryz.jfL_22 : ((Rows.fnExactPointLockRow.plainKeys == Tryz.prog.plainKeys)) = true := by kernel_rfl
theorem Tryz.jfL_23 : (Rows.fnExactPointLockRow.shortTexts.isNone) = true := by kernel_rfl
theorem Tryz.jfL_26 : ((Rows.fnExactPointLockRow.lifted == Tryz.prog.liftsFinal)) = true := by kernel_rfl
theorem Tryz.jfL_27 : ((Tryz.prog.make == some Rows.fnExactPointLockRow.make)) = true := by kernel_rfl
theorem Tryz.jfL_28 : ((Rows.fnExactPointLockRow.kinds == (if Rows.fnExactPointLockRow.domain.isEmpty then [] else Tryz.f8.params.toList.map fun t => match Tryz.prog.underlying t with | some (.int k) => some k | _ => none))) = true := by kernel_rfl
theorem Tryz.jfL_29 : ((Rows.fnExactPointLockRow.pinned == Rows.fnExactPointLockRow.pinnedBy)) = true := by kernel_rfl
theorem Tryz.jfL_30 : ((Rows.fnExactPointLockRow.veiled == (Tryz.f8.params.toList ++ Rows.fnExactPointLockSpec.plain.varTypes Tryz.prog ++ Tryz.f8.resultTypes.toList).any (Tryz.prog.veiledRec ·))) = true := by kernel_rfl
theorem Tryz.jfL_31 : (Rows.fnExactPointLockRow.veiledFits Tryz.prog Tryz.f8.params.toList (Tryz.f8.params.toList ++ Rows.fnExactPointLockSpec.plain.varTypes Tryz.prog ++ Tryz.f8.resultTypes.toList)) = true := by kernel_rfl
end Go.Proofs.YtdhinkgjiapigabGreatDoor

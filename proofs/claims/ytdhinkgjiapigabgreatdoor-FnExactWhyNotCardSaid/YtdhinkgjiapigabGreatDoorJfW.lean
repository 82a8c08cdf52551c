import Derived.Test.YtdhinkgjiapigabGreatDoorRows
import Derived.JoinedOf
import Derived.KernelRfl
namespace Go.Proofs.YtdhinkgjiapigabGreatDoor
open Go
theorem jf_and {a b : Bool} (h : a = true) (k : b = true) : (a && b) = true := by rw [h, k]; rfl
theorem Tryz.jf_laidOut : laidOutB Tryz.prog = true := by kernel_rfl
theorem Tryz.jf_mapsRowed : mapsRowed Tryz.prog = true := by kernel_rfl
theorem Tryz.jf_stops : (Tryz.prog.stops == []) = true := by kernel_rfl
theorem Tryz.jf_stopKnobs : (Tryz.prog.stopKnobs == []) = true := by kernel_rfl
theorem Tryz.jf_heard : Tryz.prog.stopsHeard = true := by kernel_rfl
theorem Tryz.jf_mayEnter : Tryz.prog.mayEnter = true := by kernel_rfl
theorem Tryz.jfW_0 : (Rows.fnExactWhyNotRow.wf (OpenSpec.ofChange Rows.fnExactWhyNotSpec)) = true := by kernel_rfl
theorem Tryz.jfW_3 : (Tryz.f9.params.all (Tryz.prog.readableRec ·)) = true := by kernel_rfl
theorem Tryz.jfW_4 : (namedTie Tryz.prog Rows.fnExactWhyNotRow.named Rows.fnExactWhyNotSpec.vars) = true := by kernel_rfl
theorem Tryz.jfW_5 : ((Rows.fnExactWhyNotRow.stops == [])) = true := by kernel_rfl
theorem Tryz.jfW_7 : ((Rows.fnExactWhyNotRow.knobs == [])) = true := by kernel_rfl
theorem Tryz.jfW_9 : ((Rows.fnExactWhyNotRow.inPlace == Tryz.prog.inPlace 9)) = true := by kernel_rfl
theorem Tryz.jfW_10 : ((Rows.fnExactWhyNotRow.unfollowed == Tryz.prog.unfollowed 9)) = true := by kernel_rfl
theorem Tryz.jfW_11 : ((Rows.fnExactWhyNotRow.recurses == Tryz.prog.recurses 9)) = true := by kernel_rfl
theorem Tryz.jfW_12 : ((Rows.fnExactWhyNotRow.named == Tryz.prog.varsNamed 9)) = true := by kernel_rfl
theorem Tryz.jfW_13 : ((Rows.fnExactWhyNotRow.maps == (Tryz.f9.params.toList ++ Rows.fnExactWhyNotSpec.plain.varTypes Tryz.prog).any (Tryz.prog.mapsRec ·))) = true := by kernel_rfl
theorem Tryz.jfW_14 : ((Rows.fnExactWhyNotRow.ifaces == (Tryz.f9.params.toList ++ Rows.fnExactWhyNotSpec.plain.varTypes Tryz.prog).any (Tryz.prog.ifacesRec ·))) = true := by kernel_rfl
theorem Tryz.jfW_15 : ((Rows.fnExactWhyNotRow.mapsOut == Tryz.prog.mapsAmong Tryz.f9.resultTypes.toList)) = true := by kernel_rfl
theorem Tryz.jfW_16 : ((Rows.fnExactWhyNotRow.loops == (Tryz.f9.params.toList ++ Rows.fnExactWhyNotSpec.plain.varTypes Tryz.prog).any (Tryz.prog.loopsFrom ·))) = true := by kernel_rfl
theorem Tryz.jfW_17 : ((Rows.fnExactWhyNotRow.wideKeys == (Tryz.f9.params.toList ++ Rows.fnExactWhyNotSpec.plain.varTypes Tryz.prog ++ Tryz.f9.resultTypes.toList).any (Tryz.prog.wideKeysFrom ·))) = true := by kernel_rfl
theorem Tryz.jfW_18 : (Rows.fnExactWhyNotSpec.vars.all (Tryz.prog.varReadable ·)) = true := by kernel_rfl
theorem Tryz.jfW_19 : (Tryz.f9.resultTypes.all (fun t => Tryz.prog.readableRec t && decide (t < Tryz.prog.types.size))) = true := by kernel_rfl
theorem Tryz.jfW_20 : ((Rows.fnExactWhyNotRow.ifacesOut == Tryz.f9.resultTypes.toList.any (Tryz.prog.ifacesRec ·))) = true := by kernel_rfl
theorem Tryz.jfW_21 : ((Rows.fnExactWhyNotRow.loopsOut == Tryz.f9.resultTypes.toList.any (Tryz.prog.loopsFrom ·))) = true := by kernel_rfl
theorem Tryz.jfW_22 : ((Rows.fnExactWhyNotRow.plainKeys == Tryz.prog.plainKeys)) = true := by kernel_rfl
theorem Tryz.jfW_23 : (Rows.fnExactWhyNotRow.shortTexts.isNone) = true := by kernel_rfl
theorem Tryz.jfW_26 : ((Rows.fnExactWhyNotRow.lifted == Tryz.prog.liftsFinal)) = true := by kernel_rfl
theorem Tryz.jfW_27 : ((Tryz.prog.make == some Rows.fnExactWhyNotRow.make)) = true := by kernel_rfl
theorem Tryz.jfW_28 : ((Rows.fnExactWhyNotRow.kinds == (if Rows.fnExactWhyNotRow.domain.isEmpty then [] else Tryz.f9.params.toList.map fun t => match Tryz.prog.underlying t with | some (.int k) => some k | _ => none))) = true := by kernel_rfl
theorem Tryz.jfW_29 : ((Rows.fnExactWhyNotRow.pinned == Rows.fnExactWhyNotRow.pinnedBy)) = true := by kernel_rfl
theorem Tryz.jfW_30 : ((Rows.fnExactWhyNotRow.veiled == (Tryz.f9.params.toList ++ Rows.fnExactWhyNotSpec.plain.varTypes Tryz.prog ++ Tryz.f9.resultTypes.toList).any (Tryz.prog.veiledRec ·))) = true := by kernel_rfl
theorem Tryz.jfW_31 : (Rows.fnExactWhyNotRow.veiledFits Tryz.prog Tryz.f9.params.toList (Tryz.f9.params.toList ++ Rows.fnExactWhyNotSpec.plain.varTypes Tryz.prog ++ Tryz.f9.resultTypes.toList)) = true := by kernel_rfl
end Go.Proofs.YtdhinkgjiapigabGreatDoor

import Derived.Test.YtdhinkgjiapigaaGreatDoorRows
import Derived.JoinedOf
import Derived.KernelRfl
namespace Go.Proofs.YtdhinkgjiapigaaGreatDoor
open Go
theorem zr8 {a b:Bool} (h:a = true) (k:b = true):(a && b) = true:=by rw [h,k]; rfl
theorem Tryz.jf_laidOut:laidOutB Tryz.prog = true:=by kernel_rfl
theorem Tryz.jf_mapsRowed:mapsRowed Tryz.prog = true:=by kernel_rfl
theorem Tryz.jf_stops:(Tryz.prog.stops == []) = true:=by kernel_rfl
theorem Tryz.jf_stopKnobs:(Tryz.prog.stopKnobs == []) = true:=by kernel_rfl
theorem Tryz.jf_heard:Tryz.prog.stopsHeard = true:=by kernel_rfl
theorem Tryz.jf_mayEnter:Tryz.prog.mayEnter = true:=by kernel_rfl
theorem Tryz.jfSp_0:(Rows.fnSpoiltRow.wf (OpenSpec.ofChange Rows.fnSpoiltSpec)) = true:=by kernel_rfl
theorem Tryz.jfSp_3:(Tryz.f11.params.all (Tryz.prog.readableRec ·)) = true:=by kernel_rfl
theorem Tryz.jfSp_4:(namedTie Tryz.prog Rows.fnSpoiltRow.named Rows.fnSpoiltSpec.vars) = true:=by kernel_rfl
theorem Tryz.jfSp_5:((Rows.fnSpoiltRow.stops == [])) = true:=by kernel_rfl
theorem Tryz.jfSp_7:((Rows.fnSpoiltRow.knobs == [])) = true:=by kernel_rfl
theorem Tryz.jfSp_9:((Rows.fnSpoiltRow.inPlace == Tryz.prog.inPlace 11)) = true:=by kernel_rfl
theorem Tryz.jfSp_10:((Rows.fnSpoiltRow.unfollowed == Tryz.prog.unfollowed 11)) = true:=by kernel_rfl
theorem Tryz.jfSp_11:((Rows.fnSpoiltRow.recurses == Tryz.prog.recurses 11)) = true:=by kernel_rfl
theorem Tryz.jfSp_12:((Rows.fnSpoiltRow.named == Tryz.prog.varsNamed 11)) = true:=by kernel_rfl
theorem Tryz.jfSp_13:((Rows.fnSpoiltRow.maps == (Tryz.f11.params.toList ++ Rows.fnSpoiltSpec.plain.varTypes Tryz.prog).any (Tryz.prog.mapsRec ·))) = true:=by kernel_rfl
theorem Tryz.jfSp_14:((Rows.fnSpoiltRow.ifaces == (Tryz.f11.params.toList ++ Rows.fnSpoiltSpec.plain.varTypes Tryz.prog).any (Tryz.prog.ifacesRec ·))) = true:=by kernel_rfl
theorem Tryz.jfSp_15:((Rows.fnSpoiltRow.mapsOut == Tryz.prog.mapsAmong Tryz.f11.resultTypes.toList)) = true:=by kernel_rfl
theorem Tryz.jfSp_16:((Rows.fnSpoiltRow.loops == (Tryz.f11.params.toList ++ Rows.fnSpoiltSpec.plain.varTypes Tryz.prog).any (Tryz.prog.loopsFrom ·))) = true:=by kernel_rfl
theorem Tryz.jfSp_17:((Rows.fnSpoiltRow.wideKeys == (Tryz.f11.params.toList ++ Rows.fnSpoiltSpec.plain.varTypes Tryz.prog ++ Tryz.f11.resultTypes.toList).any (Tryz.prog.wideKeysFrom ·))) = true:=by kernel_rfl
theorem Tryz.jfSp_18:(Rows.fnSpoiltSpec.vars.all (Tryz.prog.varReadable ·)) = true:=by kernel_rfl
theorem Tryz.jfSp_19:(Tryz.f11.resultTypes.all (fun t=>Tryz.prog.readableRec t && decide (t < Tryz.prog.types.size))) = true:=by kernel_rfl
theorem Tryz.jfSp_20:((Rows.fnSpoiltRow.ifacesOut == Tryz.f11.resultTypes.toList.any (Tryz.prog.ifacesRec ·))) = true:=by kernel_rfl
theorem Tryz.jfSp_21:((Rows.fnSpoiltRow.loopsOut == Tryz.f11.resultTypes.toList.any (Tryz.prog.loopsFrom ·))) = true:=by kernel_rfl
theorem Tryz.jfSp_22:((Rows.fnSpoiltRow.plainKeys == Tryz.prog.plainKeys)) = true:=by kernel_rfl
theorem Tryz.jfSp_23:(Rows.fnSpoiltRow.shortTexts.isNone) = true:=by kernel_rfl
theorem Tryz.jfSp_26:((Rows.fnSpoiltRow.lifted == Tryz.prog.liftsFinal)) = true:=by kernel_rfl
theorem Tryz.jfSp_27:((Tryz.prog.make == some Rows.fnSpoiltRow.make)) = true:=by kernel_rfl
theorem Tryz.jfSp_28:((Rows.fnSpoiltRow.kinds == (if Rows.fnSpoiltRow.domain.isEmpty then [] else Tryz.f11.params.toList.map fun t=>match Tryz.prog.underlying t with | some (.int k)=>some k | _=>none))) = true:=by kernel_rfl
theorem Tryz.jfSp_29:((Rows.fnSpoiltRow.pinned == Rows.fnSpoiltRow.pinnedBy)) = true:=by kernel_rfl
theorem Tryz.jfSp_30:((Rows.fnSpoiltRow.veiled == (Tryz.f11.params.toList ++ Rows.fnSpoiltSpec.plain.varTypes Tryz.prog ++ Tryz.f11.resultTypes.toList).any (Tryz.prog.veiledRec ·))) = true:=by kernel_rfl
theorem Tryz.jfSp_31:(Rows.fnSpoiltRow.veiledFits Tryz.prog Tryz.f11.params.toList (Tryz.f11.params.toList ++ Rows.fnSpoiltSpec.plain.varTypes Tryz.prog ++ Tryz.f11.resultTypes.toList)) = true:=by kernel_rfl
end Go.Proofs.YtdhinkgjiapigaaGreatDoor

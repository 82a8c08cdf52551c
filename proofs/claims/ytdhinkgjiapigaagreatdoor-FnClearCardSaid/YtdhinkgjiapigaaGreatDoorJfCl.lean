import Derived.Test.YtdhinkgjiapigaaGreatDoorRows
import Derived.JoinedOf
import Derived.KernelRfl
namespace Go.Proofs.YtdhinkgjiapigaaGreatDoor
open Go
theorem zr8 {a b:Bool} (h:a = true) (k:b = true):(a && b) = true:=by rw [h,k]; rfl
theorem Tryz.jf_laidOut:laidOutB Tryz.prog = true:=by kernel_rfl
theorem Tryz.jf_mapsRowed:mapsRowed Tryz.prog = true:=by kernel_rfl
theorem Tryz.jf_stops:(Tryz.prog.stops == []) = true:=by kernel_rfl
theorem Tryz.jf_stopKnobs:(Tryz.prog.stopKnobs == []) = true:=by kernel_rfl
theorem Tryz.jf_heard:Tryz.prog.stopsHeard = true:=by kernel_rfl
theorem Tryz.jf_mayEnter:Tryz.prog.mayEnter = true:=by kernel_rfl
theorem Tryz.jfCl_0:(Rows.fnClearRow.wf (OpenSpec.ofChange Rows.fnClearSpec)) = true:=by kernel_rfl
theorem Tryz.jfCl_3:(Tryz.f6.params.all (Tryz.prog.readableRec ·)) = true:=by kernel_rfl
theorem Tryz.jfCl_4:(namedTie Tryz.prog Rows.fnClearRow.named Rows.fnClearSpec.vars) = true:=by kernel_rfl
theorem Tryz.jfCl_5:((Rows.fnClearRow.stops == [])) = true:=by kernel_rfl
theorem Tryz.jfCl_7:((Rows.fnClearRow.knobs == [])) = true:=by kernel_rfl
theorem Tryz.jfCl_9:((Rows.fnClearRow.inPlace == Tryz.prog.inPlace 6)) = true:=by kernel_rfl
theorem Tryz.jfCl_10:((Rows.fnClearRow.unfollowed == Tryz.prog.unfollowed 6)) = true:=by kernel_rfl
theorem Tryz.jfCl_11:((Rows.fnClearRow.recurses == Tryz.prog.recurses 6)) = true:=by kernel_rfl
theorem Tryz.jfCl_12:((Rows.fnClearRow.named == Tryz.prog.varsNamed 6)) = true:=by kernel_rfl
theorem Tryz.jfCl_13:((Rows.fnClearRow.maps == (Tryz.f6.params.toList ++ Rows.fnClearSpec.plain.varTypes Tryz.prog).any (Tryz.prog.mapsRec ·))) = true:=by kernel_rfl
theorem Tryz.jfCl_14:((Rows.fnClearRow.ifaces == (Tryz.f6.params.toList ++ Rows.fnClearSpec.plain.varTypes Tryz.prog).any (Tryz.prog.ifacesRec ·))) = true:=by kernel_rfl
theorem Tryz.jfCl_15:((Rows.fnClearRow.mapsOut == Tryz.prog.mapsAmong Tryz.f6.resultTypes.toList)) = true:=by kernel_rfl
theorem Tryz.jfCl_16:((Rows.fnClearRow.loops == (Tryz.f6.params.toList ++ Rows.fnClearSpec.plain.varTypes Tryz.prog).any (Tryz.prog.loopsFrom ·))) = true:=by kernel_rfl
theorem Tryz.jfCl_17:((Rows.fnClearRow.wideKeys == (Tryz.f6.params.toList ++ Rows.fnClearSpec.plain.varTypes Tryz.prog ++ Tryz.f6.resultTypes.toList).any (Tryz.prog.wideKeysFrom ·))) = true:=by kernel_rfl
theorem Tryz.jfCl_18:(Rows.fnClearSpec.vars.all (Tryz.prog.varReadable ·)) = true:=by kernel_rfl
theorem Tryz.jfCl_19:(Tryz.f6.resultTypes.all (fun t=>Tryz.prog.readableRec t && decide (t < Tryz.prog.types.size))) = true:=by kernel_rfl
theorem Tryz.jfCl_20:((Rows.fnClearRow.ifacesOut == Tryz.f6.resultTypes.toList.any (Tryz.prog.ifacesRec ·))) = true:=by kernel_rfl
theorem Tryz.jfCl_21:((Rows.fnClearRow.loopsOut == Tryz.f6.resultTypes.toList.any (Tryz.prog.loopsFrom ·))) = true:=by kernel_rfl
theorem Tryz.jfCl_22:((Rows.fnClearRow.plainKeys == Tryz.prog.plainKeys)) = true:=by kernel_rfl
theorem Tryz.jfCl_23:(Rows.fnClearRow.shortTexts.isNone) = true:=by kernel_rfl
theorem Tryz.jfCl_26:((Rows.fnClearRow.lifted == Tryz.prog.liftsFinal)) = true:=by kernel_rfl
theorem Tryz.jfCl_27:((Tryz.prog.make == some Rows.fnClearRow.make)) = true:=by kernel_rfl
theorem Tryz.jfCl_28:((Rows.fnClearRow.kinds == (if Rows.fnClearRow.domain.isEmpty then [] else Tryz.f6.params.toList.map fun t=>match Tryz.prog.underlying t with | some (.int k)=>some k | _=>none))) = true:=by kernel_rfl
theorem Tryz.jfCl_29:((Rows.fnClearRow.pinned == Rows.fnClearRow.pinnedBy)) = true:=by kernel_rfl
theorem Tryz.jfCl_30:((Rows.fnClearRow.veiled == (Tryz.f6.params.toList ++ Rows.fnClearSpec.plain.varTypes Tryz.prog ++ Tryz.f6.resultTypes.toList).any (Tryz.prog.veiledRec ·))) = true:=by kernel_rfl
theorem Tryz.jfCl_31:(Rows.fnClearRow.veiledFits Tryz.prog Tryz.f6.params.toList (Tryz.f6.params.toList ++ Rows.fnClearSpec.plain.varTypes Tryz.prog ++ Tryz.f6.resultTypes.toList)) = true:=by kernel_rfl
end Go.Proofs.YtdhinkgjiapigaaGreatDoor

import Derived.Test.YtdhinkgjiapigabGreatDoorJf
import Derived.Test.YtdhinkgjiapigabGreatDoorReadF
import Derived.Test.YtdhinkgjiapigabGreatDoorLawA
import Derived.Test.YtdhinkgjiapigabGreatDoorShK
import Derived.OpenVars
import Derived.Lay
import Derived.LaidSub
namespace Go.Proofs.YtdhinkgjiapigabGreatDoor
open Go
theorem Tryz.jfA_0:(Rows.fnExactAnswerRow.wf (OpenSpec.ofChange Rows.fnExactAnswerSpec)) = true:=by kernel_rfl
theorem Tryz.jfA_3:(Tryz.f12.params.all (Tryz.prog.readableRec ·)) = true:=by kernel_rfl
theorem Tryz.jfA_4:(namedTie Tryz.prog Rows.fnExactAnswerRow.named Rows.fnExactAnswerSpec.vars) = true:=by kernel_rfl
theorem Tryz.jfA_5:((Rows.fnExactAnswerRow.stops == [])) = true:=by kernel_rfl
theorem Tryz.jfA_7:((Rows.fnExactAnswerRow.knobs == [])) = true:=by kernel_rfl
theorem Tryz.jfA_9:((Rows.fnExactAnswerRow.inPlace == Tryz.prog.inPlace 12)) = true:=by kernel_rfl
theorem Tryz.jfA_10:((Rows.fnExactAnswerRow.unfollowed == Tryz.prog.unfollowed 12)) = true:=by kernel_rfl
theorem Tryz.jfA_11:((Rows.fnExactAnswerRow.recurses == Tryz.prog.recurses 12)) = true:=by kernel_rfl
theorem Tryz.jfA_12:((Rows.fnExactAnswerRow.named == Tryz.prog.varsNamed 12)) = true:=by kernel_rfl
theorem Tryz.jfA_13:((Rows.fnExactAnswerRow.maps == (Tryz.f12.params.toList ++ Rows.fnExactAnswerSpec.plain.varTypes Tryz.prog).any (Tryz.prog.mapsRec ·))) = true:=by kernel_rfl
theorem Tryz.jfA_14:((Rows.fnExactAnswerRow.ifaces == (Tryz.f12.params.toList ++ Rows.fnExactAnswerSpec.plain.varTypes Tryz.prog).any (Tryz.prog.ifacesRec ·))) = true:=by kernel_rfl
theorem Tryz.jfA_15:((Rows.fnExactAnswerRow.mapsOut == Tryz.prog.mapsAmong Tryz.f12.resultTypes.toList)) = true:=by kernel_rfl
theorem Tryz.jfA_16:((Rows.fnExactAnswerRow.loops == (Tryz.f12.params.toList ++ Rows.fnExactAnswerSpec.plain.varTypes Tryz.prog).any (Tryz.prog.loopsFrom ·))) = true:=by kernel_rfl
theorem Tryz.jfA_17:((Rows.fnExactAnswerRow.wideKeys == (Tryz.f12.params.toList ++ Rows.fnExactAnswerSpec.plain.varTypes Tryz.prog ++ Tryz.f12.resultTypes.toList).any (Tryz.prog.wideKeysFrom ·))) = true:=by kernel_rfl
theorem Tryz.jfA_18:(Rows.fnExactAnswerSpec.vars.all (Tryz.prog.varReadable ·)) = true:=by kernel_rfl
theorem Tryz.jfA_19:(Tryz.f12.resultTypes.all (fun t=>Tryz.prog.readableRec t && decide (t < Tryz.prog.types.size))) = true:=by kernel_rfl
theorem Tryz.jfA_20:((Rows.fnExactAnswerRow.ifacesOut == Tryz.f12.resultTypes.toList.any (Tryz.prog.ifacesRec ·))) = true:=by kernel_rfl
theorem Tryz.jfA_21:((Rows.fnExactAnswerRow.loopsOut == Tryz.f12.resultTypes.toList.any (Tryz.prog.loopsFrom ·))) = true:=by kernel_rfl
theorem Tryz.jfA_22:((Rows.fnExactAnswerRow.plainKeys == Tryz.prog.plainKeys)) = true:=by kernel_rfl
theorem Tryz.jfA_23:(Rows.fnExactAnswerRow.shortTexts.isNone) = true:=by kernel_rfl
theorem Tryz.jfA_26:((Rows.fnExactAnswerRow.lifted == Tryz.prog.liftsFinal)) = true:=by kernel_rfl
theorem Tryz.jfA_27:((Tryz.prog.make == some Rows.fnExactAnswerRow.make)) = true:=by kernel_rfl
theorem Tryz.jfA_28:((Rows.fnExactAnswerRow.kinds == (if Rows.fnExactAnswerRow.domain.isEmpty then [] else Tryz.f12.params.toList.map fun t=>match Tryz.prog.underlying t with | some (.int k)=>some k | _=>none))) = true:=by kernel_rfl
theorem Tryz.jfA_29:((Rows.fnExactAnswerRow.pinned == Rows.fnExactAnswerRow.pinnedBy)) = true:=by kernel_rfl
theorem Tryz.jfA_30:((Rows.fnExactAnswerRow.veiled == (Tryz.f12.params.toList ++ Rows.fnExactAnswerSpec.plain.varTypes Tryz.prog ++ Tryz.f12.resultTypes.toList).any (Tryz.prog.veiledRec ·))) = true:=by kernel_rfl
theorem Tryz.jfA_31:(Rows.fnExactAnswerRow.veiledFits Tryz.prog Tryz.f12.params.toList (Tryz.f12.params.toList ++ Rows.fnExactAnswerSpec.plain.varTypes Tryz.prog ++ Tryz.f12.resultTypes.toList)) = true:=by kernel_rfl
end Go.Proofs.YtdhinkgjiapigabGreatDoor
namespace Go.Proofs.YtdhinkgjiapigabGreatDoor
open Go.ChangeShapes Go.WideShapes Go.RowKit Go.Joins
theorem Tryz.cellsEvent:Tryz.prog.cellsOf 48 = 3:=by kernel_rfl
theorem list3 {l:List Value} (h:l.length = 3):∃ a b c,l = [a,b,c]:=by
 match l,h with
 | [a,b,c],_=>exact ⟨a,b,c,rfl⟩
section
variable {H : Type} {enc : TypeId × Value → H} {w : World} {base : Nat} {spare : Nat → Bool} {held : Bool}
theorem read_event {fuel:Nat} {a b c:Value} {x:DataW H × List MemPlace} (h:DataW.trod enc Tryz.prog w base spare held fuel 48 [a,b,c] = some x):∃ op of lie:Int,a = .int .i64 op ∧ b = .int .i64 of ∧ c = .int .i64 lie:=by
 obtain ⟨xs,n,-,-,-,hlen,hf⟩:=DataW.trod_struct Tryz.underlying48 h;have hl:xs.length = 3:=hlen;have h0:=hf 0 _ rfl;have h1:=hf 1 _ rfl;have h2:=hf 2 _ rfl;rw [List.getElem?_eq_getElem (by omega)] at h0 h1 h2;obtain ⟨z0,e0,-⟩:=DataW.trod_int Tryz.underlying3 (show DataW.trod enc Tryz.prog w base spare held n 3 ([a,b,c].drop 0 |>.take (Tryz.prog.cellsOf 3)) = _ from h0);obtain ⟨z1,e1,-⟩:=DataW.trod_int Tryz.underlying3 (show DataW.trod enc Tryz.prog w base spare held n 3 ([a,b,c].drop 1 |>.take (Tryz.prog.cellsOf 3)) = _ from h1);obtain ⟨z2,e2,-⟩:=DataW.trod_int Tryz.underlying3 (show DataW.trod enc Tryz.prog w base spare held n 3 ([a,b,c].drop 2 |>.take (Tryz.prog.cellsOf 3)) = _ from h2);rw [Tryz.cellsInt] at e0 e1 e2
 cases e0
 cases e1
 cases e2
 exact ⟨z0,z1,z2,rfl,rfl,rfl⟩
theorem read_events {fuel:Nat} {v:Value} {x:DataW H × List MemPlace} (h:DataW.trod enc Tryz.prog w base spare held fuel 59 [v] = some x):∃ l,l.length ≤ 9223372036854775807 ∧ Evs (In w) w v l:=by
 obtain ⟨l,hl,hs⟩:=readk (R:=fun cs (z:Int × Int × Int)=>cs = [.int .i64 z.1,.int .i64 z.2.1,.int .i64 z.2.2]) Tryz.underlying59 Tryz.cellsEvent (by omega) h fun n cs y hcl hy=>by
  obtain ⟨a,b,c,rfl⟩:=list3 hcl;obtain ⟨op,of,lie,rfl,rfl,rfl⟩:=read_event hy;exact ⟨(op,of,lie),rfl⟩
 refine ⟨l,hl,Sl.imp hs (fun _ h=>h) fun b off i _ _ hE z hz=>?_⟩;obtain ⟨cs,-,rfl,hc⟩:=hE z hz;exact ⟨hc 0 (by omega),hc 1 (by omega),hc 2 (by omega)⟩
end
abbrev laidA:List (String × DataW Unit):=Rows.fnExactAnswerRow.laid
abbrev dataA:List (String × DataW Unit):=laidA.filter fun x=>x.2.handleName?.isNone
theorem handle_of_laidA {W:World} (h:laidMetH Tryz.prog laidA W):W.cell? ⟨1,0,none⟩ = some zrv:=by
 have k:=h.filter (fun x=>x.2.handleName?.isSome);rw [show (laidA.filter fun x=>x.2.handleName?.isSome) = ztj by kernel_rfl] at k;exact zsl k
theorem laid_layA {P:Program} {w0:World} {l:List (String × DataW Unit)} (hf:w0.layFits P l [] = true) (hi:w0.layIfaces P l (w0.layVars P l) = true):laidMet P l (w0.layVars P l):=by
 have e1:(l.filter fun x=>(l.map Prod.fst).contains x.1) = l:=List.filter_eq_self.2 fun x hx=>List.contains_iff_mem.2 (List.mem_map.2 ⟨x,hx,rfl⟩)
 have e2:(l.filter fun x=>!(l.map Prod.fst).contains x.1) = []:=List.filter_eq_nil_iff.2 fun x hx=>by rw [List.contains_iff_mem.2 (List.mem_map.2 ⟨x,hx,rfl⟩)]; simp
 refine laidMet_layVars (w0:=w0) (l.map Prod.fst) [] ?_ ?_ ?_ ?_
 ·rw [e1]
 ·rw [e1]; exact hf
 ·rw [e1]; exact hi
 ·rw [e2]; exact LaidIn.none
theorem laidWorldA (os:Os) (args:Array Value):laidMetH Tryz.prog laidA ((({ World.holding Tryz.prog os ⟨#[],#[],[]⟩ with heap:=(World.holding Tryz.prog os ⟨#[],#[],[]⟩).heap.modify 1 zto }:World).layVars Tryz.prog dataA).forCall (fun _ _=>0) ⟨#[],args,[]⟩).memory:=
 laidMetH_of_parts ((laid_layA (w0:=({ World.holding Tryz.prog os ⟨#[],#[],[]⟩ with heap:=(World.holding Tryz.prog os ⟨#[],#[],[]⟩).heap.modify 1 zto }:World)) (by kernel_rfl) (by kernel_rfl)).of_heap (by simp [World.memory,World.forCall,Input.heap])) (by kernel_rfl)
theorem signs_of_laidA {W:World} (h:laidMetH Tryz.prog laidA W):SignsAt W ∧ 0 < W.heap.size:=by
 have h':laidMet Tryz.prog dataA W ∧ handlesMet Tryz.prog ztj W:=h;refine zza h'.1 ?_
 have e : dataA[3]? = some ("loop.example/tappet/impl.signs", zzi) := by kernel_rfl
 exact List.mem_of_getElem? e
set_option maxRecDepth 100000 in
theorem lawA_lifted (os:Os) (started:os.Started) (H:Type) (enc:TypeId × Value → H) :
  ReturnsInHanded {} Tryz.checked os 12 .any (fun w args=>(Rows.fnExactAnswerSpec.pre enc Tryz.prog Tryz.f12 [] false w args ∧ laidMetH Tryz.prog laidA w) ∧ sizedMet enc Tryz.prog Tryz.f12 (OpenSpec.ofChange Rows.fnExactAnswerSpec) false w args)
   (Rows.fnExactAnswerSpec.post enc Tryz.prog Tryz.f12 false true false false):=by
 refine returnsInHanded_of_change_and (C:=Tryz.checked) (X:=fun w _=>laidMetH Tryz.prog laidA w) (fun _ _ _ hh h=>h.of_heap hh) Tryz.own started (by kernel_rfl) Tryz.func12
  (ChangeSpec.witness_at (enc:=enc) (C:=Tryz.checked) (os:=os) (X:=fun w _=>laidMetH Tryz.prog laidA w) false (({ World.holding Tryz.prog os ⟨#[],#[],[]⟩ with heap:=(World.holding Tryz.prog os ⟨#[],#[],[]⟩).heap.modify 1 zto }:World).layVars Tryz.prog dataA) #[.agg #[.int .i64 0,.slice none 0 0,.slice none 0 0,.slice none 0 0,.int .i64 0],.slice none 0 0] 8 ((World.layVars_os _ _ _).trans rfl) (by kernel_rfl) (by kernel_rfl) (by kernel_rfl) (by kernel_rfl) (by kernel_rfl) (laidWorldA os _)) ?_
 intro W base args ds gs before hval0 hW _ _ hL _;have hval:∀ (j:Nat) t v,Tryz.f12.params[j]? = some t → args[j]? = some v → Value.okWide Tryz.prog W .any base t v:=hval0;have hW':=hW;obtain ⟨p,q,hA0,hV0,rfl,hfz,hnd⟩:=hW;have hA:DataW.TrodAll enc Tryz.prog W 0 (fun _=>true) true Tryz.f12.params.toList args.toList ds p:=hA0;have hV:DataW.TrodVars enc Tryz.prog W (fun _=>true) Rows.fnExactAnswerSpec.vars gs q:=hV0;rw [Tryz.params12] at hA hval;obtain ⟨v0,v1,d0,d1,p0,p1,rfl,rfl,rfl,h0,h1⟩:=trodAll_two hA;obtain ⟨gg,tt,cg,fg,dg,pg,rfl,-⟩:=trodVars_one (show DataW.TrodVars enc Tryz.prog W (fun _=>true) [_] gs q from hV);obtain ⟨cs,rfl,hsz⟩:=okWide_struct Tryz.underlying26 (hval 0 26 v0 rfl rfl);obtain ⟨sa,sl,sc,rfl⟩:=okWide_slice Tryz.underlying59 (hval 1 59 v1 rfl rfl);have h0k:=h0;have h1k:=h1;obtain ⟨fuel,hf⟩:=h0;obtain ⟨fuel1,hf1⟩:=h1;obtain ⟨a,b,c,d,e,hcs⟩:=list5 (show cs.toList.length = 5 by rw [Array.length_toList,hsz,Tryz.cellsPlan])
 have hcs':cs = #[a,b,c,d,e]:=by rw [← Array.toArray_toList (xs:=cs),hcs]
 subst hcs';obtain ⟨pl,rfl,rfl,hsm,hpl⟩:=read_plan (show DataW.trod enc Tryz.prog W 0 (fun _=>true) true fuel 26 [a,b,c,d,e] = some (d0,p0) from hf);obtain ⟨es,hes,hev⟩:=read_events (show DataW.trod enc Tryz.prog W 0 (fun _=>true) true fuel1 59 [.slice sa sl sc] = some (d1,p1) from hf1);have hg:=handle_of_laidA hL;obtain ⟨hsg,hsb⟩:=signs_of_laidA hL;clear hA0 hval0;have hlt:∀ x ∈ p0 ++ p1,x.block < W.heap.size:=fun x hx=>hW'.lt x (List.mem_append_left _ hx)
 have e1:Rows.fnExactAnswerSpec.fn H ([d0,d1] ++ [dg]) = { results:=[.lit (.bool true)],args:=[d0,d1],vars:=[dg] }:=by simp [Rows.fnExactAnswerSpec]
 refine (lawA_any b c d _ pl es W hpl hev hsm hes hg hsg hsb).mono fun e W' ⟨he,hb⟩=>?_;subst he;refine ⟨_,rfl,_,_,_,[],p0 ++ p1,q,hW',?_,?_,?_,hb.frame _,fun h=>by cases h⟩
 ·rw [e1]; exact trodAll_mk1 (shut_bool Tryz.underlying4 true)
 ·rw [e1]; exact trodAll_mk2 (Below.trod Tryz.laidOut (by kernel_rfl) (of_decide_eq_true (by kernel_rfl)) h0k hb fun x hx=>hlt x (List.mem_append_left _ hx)) (Below.trod Tryz.laidOut (by kernel_rfl) (of_decide_eq_true (by kernel_rfl)) h1k hb fun x hx=>hlt x (List.mem_append_right _ hx))
 ·rw [e1]; exact Below.trodVars Tryz.laidOut hb (by kernel_rfl) hV
set_option maxRecDepth 100000 in
theorem Tryz.jfA:joinedFacts Tryz.prog 12 Tryz.f12 Rows.fnExactAnswerSpec Rows.fnExactAnswerRow = true:=by
 unfold joinedFacts;exact (zr8 (zr8 (zr8 (zr8 (zr8 (zr8 (zr8 (zr8 (zr8 (zr8 (zr8 (zr8 (zr8 (zr8 (zr8 (zr8 (zr8 (zr8 (zr8 (zr8 (zr8 (zr8 (zr8 (zr8 (zr8 (zr8 (zr8 (zr8 (zr8 (zr8 (zr8 Tryz.jfA_0 Tryz.jf_laidOut) Tryz.jf_mapsRowed) Tryz.jfA_3) Tryz.jfA_4) Tryz.jfA_5) Tryz.jf_stops) Tryz.jfA_7) Tryz.jf_stopKnobs) Tryz.jfA_9) Tryz.jfA_10) Tryz.jfA_11) Tryz.jfA_12) Tryz.jfA_13) Tryz.jfA_14) Tryz.jfA_15) Tryz.jfA_16) Tryz.jfA_17) Tryz.jfA_18) Tryz.jfA_19) Tryz.jfA_20) Tryz.jfA_21) Tryz.jfA_22) Tryz.jfA_23) Tryz.jf_heard) Tryz.jf_mayEnter) Tryz.jfA_26) Tryz.jfA_27) Tryz.jfA_28) Tryz.jfA_29) Tryz.jfA_30) Tryz.jfA_31)
theorem lawA_holds:Rows.FnExactAnswerSaid:=
 OpenClaim.holds_of_wide 12 Tryz.f12 rfl rfl rfl rfl rfl rfl rfl ⟨rfl,rfl,rfl,rfl,rfl⟩ rfl rfl rfl rfl rfl (by kernel_rfl) Tryz.func12 Tryz.jfA
  (of_decide_eq_true (by kernel_rfl)) (by unfold Func.isWrapper; rw [if_neg (of_decide_eq_false (by kernel_rfl))]; exact ⟨rfl,rfl⟩)
  (fun os started H enc _=>lawA_lifted os started H enc)
end Go.Proofs.YtdhinkgjiapigabGreatDoor

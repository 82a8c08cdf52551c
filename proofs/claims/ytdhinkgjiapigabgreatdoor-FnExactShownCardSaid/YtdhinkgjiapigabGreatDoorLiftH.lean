import Derived.Test.YtdhinkgjiapigabGreatDoorReadF
import Derived.Test.YtdhinkgjiapigabGreatDoorLawH
import Derived.Test.YtdhinkgjiapigabGreatDoorJfH
import Derived.Test.YtdhinkgjiapigabGreatDoorShK
import Derived.OpenVars
import Derived.Lay
import Derived.LaidSub
namespace Go.Proofs.YtdhinkgjiapigabGreatDoor
open Go.ChangeShapes Go.WideShapes Go.RowKit Go.Joins
abbrev laidH:List (String × DataW Unit):=Rows.fnExactShownRow.laid
abbrev dataH:List (String × DataW Unit):=laidH.filter fun x=>x.2.handleName?.isNone
theorem zyq {W:World} (h:laidMetH Tryz.prog laidH W):W.cell? ⟨1,0,none⟩ = some zrv:=by
 have k:=h.filter (fun x=>x.2.handleName?.isSome);rw [show (laidH.filter fun x=>x.2.handleName?.isSome) = ztj by kernel_rfl] at k;exact zsl k
theorem laid_layH {P:Program} {w0:World} {l:List (String × DataW Unit)} (hf:w0.layFits P l [] = true) (hi:w0.layIfaces P l (w0.layVars P l) = true):laidMet P l (w0.layVars P l):=by
 have e1:(l.filter fun x=>(l.map Prod.fst).contains x.1) = l:=List.filter_eq_self.2 fun x hx=>List.contains_iff_mem.2 (List.mem_map.2 ⟨x,hx,rfl⟩)
 have e2:(l.filter fun x=>!(l.map Prod.fst).contains x.1) = []:=List.filter_eq_nil_iff.2 fun x hx=>by rw [List.contains_iff_mem.2 (List.mem_map.2 ⟨x,hx,rfl⟩)]; simp
 refine laidMet_layVars (w0:=w0) (l.map Prod.fst) [] ?_ ?_ ?_ ?_
 ·rw [e1]
 ·rw [e1]; exact hf
 ·rw [e1]; exact hi
 ·rw [e2]; exact LaidIn.none
theorem laidWorldH (os:Os) (args:Array Value):laidMetH Tryz.prog laidH ((({ World.holding Tryz.prog os ⟨#[],#[],[]⟩ with heap:=(World.holding Tryz.prog os ⟨#[],#[],[]⟩).heap.modify 1 zto }:World).layVars Tryz.prog dataH).forCall (fun _ _=>0) ⟨#[],args,[]⟩).memory:=
 laidMetH_of_parts ((laid_layH (w0:=({ World.holding Tryz.prog os ⟨#[],#[],[]⟩ with heap:=(World.holding Tryz.prog os ⟨#[],#[],[]⟩).heap.modify 1 zto }:World)) (by kernel_rfl) (by kernel_rfl)).of_heap (by simp [World.memory,World.forCall,Input.heap])) (by kernel_rfl)
theorem zyy {W:World} (h:laidMetH Tryz.prog laidH W):SignsAt W ∧ 0 < W.heap.size:=by
 have h':laidMet Tryz.prog dataH W ∧ handlesMet Tryz.prog ztj W:=h;refine zza h'.1 ?_
 rw [show dataH = [("loop.example/tappet/impl.signs", zzi)] by kernel_rfl]
 exact List.mem_singleton.2 rfl
set_option maxRecDepth 100000 in
theorem zzt (os:Os) (started:os.Started) (H:Type) (enc:TypeId × Value → H) :
  ReturnsInHanded {} Tryz.checked os 11 .any (fun w args=>(Rows.fnExactShownSpec.pre enc Tryz.prog Tryz.f11 [] false w args ∧ laidMetH Tryz.prog laidH w) ∧ sizedMet enc Tryz.prog Tryz.f11 (OpenSpec.ofChange Rows.fnExactShownSpec) false w args)
   (Rows.fnExactShownSpec.post enc Tryz.prog Tryz.f11 false true false false):=by
 refine returnsInHanded_of_change_and (C:=Tryz.checked) (X:=fun w _=>laidMetH Tryz.prog laidH w) (fun _ _ _ hh h=>h.of_heap hh) Tryz.own started (by kernel_rfl) Tryz.func11
  (ChangeSpec.witness_at (enc:=enc) (C:=Tryz.checked) (os:=os) (X:=fun w _=>laidMetH Tryz.prog laidH w) false (({ World.holding Tryz.prog os ⟨#[],#[],[]⟩ with heap:=(World.holding Tryz.prog os ⟨#[],#[],[]⟩).heap.modify 1 zto }:World).layVars Tryz.prog dataH) #[.agg #[.int .i64 0,.slice none 0 0,.slice none 0 0,.slice none 0 0,.int .i64 0],.agg #[.bool false,.slice none 0 0,.slice none 0 0,.slice none 0 0]] 8 ((World.layVars_os _ _ _).trans rfl) (by kernel_rfl) (by kernel_rfl) (by kernel_rfl) (by kernel_rfl) (by kernel_rfl) (laidWorldH os _)) ?_
 intro W base args ds gs before hval0 hW _ _ hL _;have hval:∀ (j:Nat) t v,Tryz.f11.params[j]? = some t → args[j]? = some v → Value.okWide Tryz.prog W .any base t v:=hval0;have hW':=hW;obtain ⟨p,q,hA0,hV0,rfl,hfz,hnd⟩:=hW;have hA:DataW.TrodAll enc Tryz.prog W 0 (fun _=>true) true Tryz.f11.params.toList args.toList ds p:=hA0;have hV:DataW.TrodVars enc Tryz.prog W (fun _=>true) Rows.fnExactShownSpec.vars gs q:=hV0;rw [Tryz.params11] at hA hval;obtain ⟨v0,v1,d0,d1,p0,p1,rfl,rfl,rfl,h0,h1⟩:=trodAll_two hA;obtain ⟨gg,tt,cg,fg,dg,pg,rfl,-⟩:=trodVars_one (show DataW.TrodVars enc Tryz.prog W (fun _=>true) [_] gs q from hV);obtain ⟨cs,rfl,hsz⟩:=okWide_struct Tryz.underlying26 (hval 0 26 v0 rfl rfl);obtain ⟨cs1,rfl,hsz1⟩:=okWide_struct Tryz.underlying31 (hval 1 31 v1 rfl rfl);have h0k:=h0;have h1k:=h1;obtain ⟨fuel,hf⟩:=h0;obtain ⟨fuel1,hf1⟩:=h1;obtain ⟨e0,e1,e2,e3,hcs1⟩:=list4 (show cs1.toList.length = 4 by rw [Array.length_toList,hsz1,Tryz.cellsFrame])
 have hcs1':cs1 = #[e0,e1,e2,e3]:=by rw [← Array.toArray_toList (xs:=cs1),hcs1]
 subst hcs1';obtain ⟨a,b,c,d,e,hcs⟩:=list5 (show cs.toList.length = 5 by rw [Array.length_toList,hsz,Tryz.cellsPlan])
 have hcs':cs = #[a,b,c,d,e]:=by rw [← Array.toArray_toList (xs:=cs),hcs]
 subst hcs';obtain ⟨pl,rfl,rfl,hsm,hpl⟩:=read_plan (show DataW.trod enc Tryz.prog W 0 (fun _=>true) true fuel 26 [a,b,c,d,e] = some (d0,p0) from hf);obtain ⟨fr,rfl,hfs,hfr⟩:=read_frame (show DataW.trod enc Tryz.prog W 0 (fun _=>true) true fuel1 31 [e0,e1,e2,e3] = some (d1,p1) from hf1);have hg:=zyq hL;obtain ⟨hsg,hsb⟩:=zyy hL;clear hA0 hval0;have hlt:∀ x ∈ p0 ++ p1,x.block < W.heap.size:=fun x hx=>hW'.lt x (List.mem_append_left _ hx)
 have er:Rows.fnExactShownSpec.fn H ([d0,d1] ++ [dg]) = { results:=[.lit (.bool true)],args:=[d0,d1],vars:=[dg] }:=by simp [Rows.fnExactShownSpec]
 refine (lawH_any b c d e1 e2 e3 pl fr W hpl hfr hsm hfs hg hsg hsb).mono fun e W' ⟨he,hb⟩=>?_;subst he;refine ⟨_,rfl,_,_,_,[],p0 ++ p1,q,hW',?_,?_,?_,hb.frame _,fun h=>by cases h⟩
 ·rw [er]; exact trodAll_mk1 (shut_bool Tryz.underlying4 true)
 ·rw [er]; exact trodAll_mk2 (Below.trod Tryz.laidOut (by kernel_rfl) (of_decide_eq_true (by kernel_rfl)) h0k hb fun x hx=>hlt x (List.mem_append_left _ hx)) (Below.trod Tryz.laidOut (by kernel_rfl) (of_decide_eq_true (by kernel_rfl)) h1k hb fun x hx=>hlt x (List.mem_append_right _ hx))
 ·rw [er]; exact Below.trodVars Tryz.laidOut hb (by kernel_rfl) hV
set_option maxRecDepth 100000 in
theorem Tryz.jfH:joinedFacts Tryz.prog 11 Tryz.f11 Rows.fnExactShownSpec Rows.fnExactShownRow = true:=by
 unfold joinedFacts;exact (zr8 (zr8 (zr8 (zr8 (zr8 (zr8 (zr8 (zr8 (zr8 (zr8 (zr8 (zr8 (zr8 (zr8 (zr8 (zr8 (zr8 (zr8 (zr8 (zr8 (zr8 (zr8 (zr8 (zr8 (zr8 (zr8 (zr8 (zr8 (zr8 (zr8 (zr8 Tryz.jfH_0 Tryz.jf_laidOut) Tryz.jf_mapsRowed) Tryz.jfH_3) Tryz.jfH_4) Tryz.jfH_5) Tryz.jf_stops) Tryz.jfH_7) Tryz.jf_stopKnobs) Tryz.jfH_9) Tryz.jfH_10) Tryz.jfH_11) Tryz.jfH_12) Tryz.jfH_13) Tryz.jfH_14) Tryz.jfH_15) Tryz.jfH_16) Tryz.jfH_17) Tryz.jfH_18) Tryz.jfH_19) Tryz.jfH_20) Tryz.jfH_21) Tryz.jfH_22) Tryz.jfH_23) Tryz.jf_heard) Tryz.jf_mayEnter) Tryz.jfH_26) Tryz.jfH_27) Tryz.jfH_28) Tryz.jfH_29) Tryz.jfH_30) Tryz.jfH_31)
theorem lawH_holds:Rows.FnExactShownSaid:=
 OpenClaim.holds_of_wide 11 Tryz.f11 rfl rfl rfl rfl rfl rfl rfl ⟨rfl,rfl,rfl,rfl,rfl⟩ rfl rfl rfl rfl rfl (by kernel_rfl) Tryz.func11 Tryz.jfH
  (of_decide_eq_true (by kernel_rfl)) (by unfold Func.isWrapper; rw [if_neg (of_decide_eq_false (by kernel_rfl))]; exact ⟨rfl,rfl⟩)
  (fun os started H enc _=>zzt os started H enc)
end Go.Proofs.YtdhinkgjiapigabGreatDoor

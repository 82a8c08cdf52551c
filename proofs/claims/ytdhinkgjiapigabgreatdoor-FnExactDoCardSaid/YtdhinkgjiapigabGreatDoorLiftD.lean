import Derived.Test.YtdhinkgjiapigabGreatDoorReadF
import Derived.Test.YtdhinkgjiapigabGreatDoorLawD
import Derived.Test.YtdhinkgjiapigabGreatDoorJfD
namespace Go.Proofs.YtdhinkgjiapigabGreatDoor
open Go.ChangeShapes Go.WideShapes Go.RowKit Go.Joins
theorem Tryz.cellsEvent:Tryz.prog.cellsOf 48 = 3:=by kernel_rfl
theorem list3 {l:List Value} (h:l.length = 3):∃ a b c,l = [a,b,c]:=by
 match l,h with
 | [a,b,c],_=>exact ⟨a,b,c,rfl⟩
section
variable {H : Type} {enc : TypeId × Value → H} {w : World} {base : Nat} {spare : Nat → Bool} {held : Bool}
theorem read_event {fuel:Nat} {a b c:Value} {x:DataW H × List MemPlace} (h:DataW.trod enc Tryz.prog w base spare held fuel 48 [a,b,c] = some x):∃ op of lie:Int,a = .int .i64 op ∧ b = .int .i64 of ∧ c = .int .i64 lie:=by
 obtain ⟨xs,n,-,-,-,hlen,hf⟩:=DataW.trod_struct Tryz.underlying48 h
 have hl:xs.length = 3:=hlen
 have h0:=hf 0 _ rfl
 have h1:=hf 1 _ rfl
 have h2:=hf 2 _ rfl
 rw [List.getElem?_eq_getElem (by omega)] at h0 h1 h2
 obtain ⟨z0,e0,-⟩:=DataW.trod_int Tryz.underlying3 (show DataW.trod enc Tryz.prog w base spare held n 3 ([a,b,c].drop 0 |>.take (Tryz.prog.cellsOf 3)) = _ from h0)
 obtain ⟨z1,e1,-⟩:=DataW.trod_int Tryz.underlying3 (show DataW.trod enc Tryz.prog w base spare held n 3 ([a,b,c].drop 1 |>.take (Tryz.prog.cellsOf 3)) = _ from h1)
 obtain ⟨z2,e2,-⟩:=DataW.trod_int Tryz.underlying3 (show DataW.trod enc Tryz.prog w base spare held n 3 ([a,b,c].drop 2 |>.take (Tryz.prog.cellsOf 3)) = _ from h2)
 rw [Tryz.cellsInt] at e0 e1 e2
 cases e0
 cases e1
 cases e2
 exact ⟨z0,z1,z2,rfl,rfl,rfl⟩
end
set_option maxRecDepth 100000 in
theorem lawD_lifted (os:Os) (started:os.Started) (H:Type) (enc:TypeId × Value → H) :
  ReturnsInHanded {} Tryz.checked os 4 .any (fun w args=>(Rows.fnExactDoSpec.pre enc Tryz.prog Tryz.f4 [] false w args ∧ laidMetH Tryz.prog laidL w) ∧ sizedMet enc Tryz.prog Tryz.f4 (OpenSpec.ofChange Rows.fnExactDoSpec) false w args)
   (Rows.fnExactDoSpec.post enc Tryz.prog Tryz.f4 false true false false):=by
 refine returnsInHanded_of_change_and (C:=Tryz.checked) (X:=fun w _=>laidMetH Tryz.prog laidL w) (fun _ _ _ hh h=>h.of_heap hh) Tryz.own started (by kernel_rfl) Tryz.func4
  (ChangeSpec.witness_at (enc:=enc) (C:=Tryz.checked) (os:=os) (X:=fun w _=>laidMetH Tryz.prog laidL w) false { World.holding Tryz.prog os ⟨#[],#[],[]⟩ with heap:=(World.holding Tryz.prog os ⟨#[],#[],[]⟩).heap.modify 1 laidObj } #[.agg #[.int .i64 0,.slice none 0 0,.slice none 0 0,.slice none 0 0,.int .i64 0],.agg #[.bool false,.slice none 0 0,.slice none 0 0,.slice none 0 0],.agg #[.int .i64 0,.int .i64 0,.int .i64 0]] 8 rfl (by kernel_rfl) (by kernel_rfl) (by kernel_rfl) (by kernel_rfl) (by kernel_rfl) (laidWorld_met os _)) ?_
 intro W base args ds gs before hval0 hW _ _ hL _
 have hval:∀ (j:Nat) t v,Tryz.f4.params[j]? = some t → args[j]? = some v → Value.okWide Tryz.prog W .any base t v:=hval0
 have hW':=hW
 obtain ⟨p,q,hA0,hV0,rfl,hfz,hnd⟩:=hW
 have hA:DataW.TrodAll enc Tryz.prog W 0 (fun _=>true) true Tryz.f4.params.toList args.toList ds p:=hA0
 have hV:DataW.TrodVars enc Tryz.prog W (fun _=>true) [] gs q:=hV0
 rw [Tryz.params4] at hA hval
 obtain ⟨v0,v1,v2,d0,d1,d2,p0,p1,p2,rfl,rfl,rfl,h0,h1,h2⟩:=trodAll_three hA
 obtain ⟨cs2,rfl,hsz2⟩:=okWide_struct Tryz.underlying48 (hval 2 48 v2 rfl rfl)
 obtain ⟨rfl,rfl⟩:=trodVars_none hV
 obtain ⟨cs,rfl,hsz⟩:=okWide_struct Tryz.underlying26 (hval 0 26 v0 rfl rfl)
 obtain ⟨cs1,rfl,hsz1⟩:=okWide_struct Tryz.underlying31 (hval 1 31 v1 rfl rfl)
 have h0k:=h0
 have h1k:=h1
 have h2k:=h2
 obtain ⟨fuel,hf⟩:=h0
 obtain ⟨fuel1,hf1⟩:=h1
 obtain ⟨fuel2,hf2⟩:=h2
 obtain ⟨i0,i1,i2,hcs2⟩:=list3 (show cs2.toList.length = 3 by rw [Array.length_toList,hsz2,Tryz.cellsEvent])
 have hcs2':cs2 = #[i0,i1,i2]:=by rw [← Array.toArray_toList (xs:=cs2),hcs2]
 subst hcs2'
 obtain ⟨e0,e1,e2,e3,hcs1⟩:=list4 (show cs1.toList.length = 4 by rw [Array.length_toList,hsz1,Tryz.cellsFrame])
 have hcs1':cs1 = #[e0,e1,e2,e3]:=by rw [← Array.toArray_toList (xs:=cs1),hcs1]
 subst hcs1'
 obtain ⟨a,b,c,d,e,hcs⟩:=list5 (show cs.toList.length = 5 by rw [Array.length_toList,hsz,Tryz.cellsPlan])
 have hcs':cs = #[a,b,c,d,e]:=by rw [← Array.toArray_toList (xs:=cs),hcs]
 subst hcs'
 obtain ⟨pl,rfl,rfl,hsm,hpl⟩:=read_plan (show DataW.trod enc Tryz.prog W 0 (fun _=>true) true fuel 26 [a,b,c,d,e] = some (d0,p0) from hf)
 obtain ⟨fr,rfl,hfs,hfr⟩:=read_frame (show DataW.trod enc Tryz.prog W 0 (fun _=>true) true fuel1 31 [e0,e1,e2,e3] = some (d1,p1) from hf1)
 obtain ⟨op,of,lie,rfl,rfl,rfl⟩:=read_event (show DataW.trod enc Tryz.prog W 0 (fun _=>true) true fuel2 48 [i0,i1,i2] = some (d2,p2) from hf2)
 have hg:=handle_of_laid hL
 clear hA0 hval0
 simp only [List.append_nil] at hW'
 have hlt:∀ x ∈ p0 ++ p1 ++ p2,x.block < W.heap.size:=fun x hx=>by simpa using hW'.lt x hx
 have er:Rows.fnExactDoSpec.fn H ([d0,d1,d2] ++ []) = { results:=[.lit (.bool true)],args:=[d0,d1,d2] }:=by simp [Rows.fnExactDoSpec]
 refine (lawD_any b c d e1 e2 e3 pl fr op of lie W hpl hfr hsm hfs hg).mono fun e W' ⟨he,hb⟩=>?_
 subst he
 refine ⟨_,rfl,_,_,_,[],p0 ++ (p1 ++ p2),[],hW',?_,?_,?_,hb.frame _,fun h=>by cases h⟩
 ·rw [er]; exact trodAll_mk1 (shut_bool Tryz.underlying4 true)
 ·rw [er]; exact trodAll_mk3 (Below.trod Tryz.laidOut (by kernel_rfl) (of_decide_eq_true (by kernel_rfl)) h0k hb fun x hx=>hlt x (List.mem_append_left _ (List.mem_append_left _ hx))) (Below.trod Tryz.laidOut (by kernel_rfl) (of_decide_eq_true (by kernel_rfl)) h1k hb fun x hx=>hlt x (List.mem_append_left _ (List.mem_append_right _ hx))) (Below.trod Tryz.laidOut (by kernel_rfl) (of_decide_eq_true (by kernel_rfl)) h2k hb fun x hx=>hlt x (List.mem_append_right _ hx))
 ·rw [er]; rfl
set_option maxRecDepth 100000 in
theorem Tryz.jfD:joinedFacts Tryz.prog 4 Tryz.f4 Rows.fnExactDoSpec Rows.fnExactDoRow = true:=by
 unfold joinedFacts
 exact (jf_and (jf_and (jf_and (jf_and (jf_and (jf_and (jf_and (jf_and (jf_and (jf_and (jf_and (jf_and (jf_and (jf_and (jf_and (jf_and (jf_and (jf_and (jf_and (jf_and (jf_and (jf_and (jf_and (jf_and (jf_and (jf_and (jf_and (jf_and (jf_and (jf_and (jf_and Tryz.jfD_0 Tryz.jf_laidOut) Tryz.jf_mapsRowed) Tryz.jfD_3) Tryz.jfD_4) Tryz.jfD_5) Tryz.jf_stops) Tryz.jfD_7) Tryz.jf_stopKnobs) Tryz.jfD_9) Tryz.jfD_10) Tryz.jfD_11) Tryz.jfD_12) Tryz.jfD_13) Tryz.jfD_14) Tryz.jfD_15) Tryz.jfD_16) Tryz.jfD_17) Tryz.jfD_18) Tryz.jfD_19) Tryz.jfD_20) Tryz.jfD_21) Tryz.jfD_22) Tryz.jfD_23) Tryz.jf_heard) Tryz.jf_mayEnter) Tryz.jfD_26) Tryz.jfD_27) Tryz.jfD_28) Tryz.jfD_29) Tryz.jfD_30) Tryz.jfD_31)
theorem lawD_holds:Rows.FnExactDoSaid:=
 OpenClaim.holds_of_wide 4 Tryz.f4 rfl rfl rfl rfl rfl rfl rfl ⟨rfl,rfl,rfl,rfl,rfl⟩ rfl rfl rfl rfl rfl (by kernel_rfl) Tryz.func4 Tryz.jfD
  (of_decide_eq_true (by kernel_rfl)) (by unfold Func.isWrapper; rw [if_neg (of_decide_eq_false (by kernel_rfl))]; exact ⟨rfl,rfl⟩)
  (fun os started H enc _=>lawD_lifted os started H enc)
end Go.Proofs.YtdhinkgjiapigabGreatDoor

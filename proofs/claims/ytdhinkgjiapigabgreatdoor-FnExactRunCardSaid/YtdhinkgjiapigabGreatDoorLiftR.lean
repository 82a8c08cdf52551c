import Derived.Test.YtdhinkgjiapigabGreatDoorReadF
import Derived.Test.YtdhinkgjiapigabGreatDoorLawR
import Derived.Test.YtdhinkgjiapigabGreatDoorJfR
namespace Go.Proofs.YtdhinkgjiapigabGreatDoor
open Go.ChangeShapes Go.WideShapes Go.RowKit Go.Joins
theorem Tryz.cellsEvent:Tryz.prog.cellsOf 48 = 3:=by kernel_rfl
theorem list3 {l:List Value} (h:l.length = 3):∃ a b c,l = [a,b,c]:=by
 match l,h with
 | [a,b,c],_=>exact ⟨a,b,c,rfl⟩
section
variable {H : Type} {enc : TypeId × Value → H} {w : World} {base : Nat} {spare : Nat → Bool} {held : Bool}
theorem read_event {fuel:Nat} {a b c:Value} {x:DataW H × List MemPlace} (h:DataW.trod enc Tryz.prog w base spare held fuel 48 [a,b,c] = some x):∃ op of lie:Int,a = .int .i64 op ∧ b = .int .i64 of ∧ c = .int .i64 lie:=by
 obtain ⟨xs,n,-,-,-,hlen,hf⟩:=DataW.trod_struct Tryz.underlying48 h
 have hl:xs.length = 3:=hlen
 have h0:=hf 0 _ rfl
 have h1:=hf 1 _ rfl
 have h2:=hf 2 _ rfl
 rw [List.getElem?_eq_getElem (by omega)] at h0 h1 h2
 obtain ⟨z0,e0,-⟩:=DataW.trod_int Tryz.underlying3 (show DataW.trod enc Tryz.prog w base spare held n 3 ([a,b,c].drop 0 |>.take (Tryz.prog.cellsOf 3)) = _ from h0)
 obtain ⟨z1,e1,-⟩:=DataW.trod_int Tryz.underlying3 (show DataW.trod enc Tryz.prog w base spare held n 3 ([a,b,c].drop 1 |>.take (Tryz.prog.cellsOf 3)) = _ from h1)
 obtain ⟨z2,e2,-⟩:=DataW.trod_int Tryz.underlying3 (show DataW.trod enc Tryz.prog w base spare held n 3 ([a,b,c].drop 2 |>.take (Tryz.prog.cellsOf 3)) = _ from h2)
 rw [Tryz.cellsInt] at e0 e1 e2
 cases e0
 cases e1
 cases e2
 exact ⟨z0,z1,z2,rfl,rfl,rfl⟩
theorem read_events {fuel:Nat} {v:Value} {x:DataW H × List MemPlace} (h:DataW.trod enc Tryz.prog w base spare held fuel 59 [v] = some x):∃ l,l.length ≤ 9223372036854775807 ∧ Evs (In w) w v l:=by
 obtain ⟨l,hl,hs⟩:=readk (R:=fun cs (z:Int × Int × Int)=>cs = [.int .i64 z.1,.int .i64 z.2.1,.int .i64 z.2.2]) Tryz.underlying59 Tryz.cellsEvent (by omega) h fun n cs y hcl hy=>by
  obtain ⟨a,b,c,rfl⟩:=list3 hcl
  obtain ⟨op,of,lie,rfl,rfl,rfl⟩:=read_event hy
  exact ⟨(op,of,lie),rfl⟩
 refine ⟨l,hl,Sl.imp hs (fun _ h=>h) fun b off i _ _ hE z hz=>?_⟩
 obtain ⟨cs,-,rfl,hc⟩:=hE z hz
 exact ⟨hc 0 (by omega),hc 1 (by omega),hc 2 (by omega)⟩
end
set_option maxRecDepth 100000 in
theorem lawR_lifted (os:Os) (started:os.Started) (H:Type) (enc:TypeId × Value → H) :
  ReturnsInHanded {} Tryz.checked os 5 .any (fun w args=>(Rows.fnExactRunSpec.pre enc Tryz.prog Tryz.f5 [] false w args ∧ laidMetH Tryz.prog laidL w) ∧ sizedMet enc Tryz.prog Tryz.f5 (OpenSpec.ofChange Rows.fnExactRunSpec) false w args)
   (Rows.fnExactRunSpec.post enc Tryz.prog Tryz.f5 false true false false):=by
 refine returnsInHanded_of_change_and (C:=Tryz.checked) (X:=fun w _=>laidMetH Tryz.prog laidL w) (fun _ _ _ hh h=>h.of_heap hh) Tryz.own started (by kernel_rfl) Tryz.func5
  (ChangeSpec.witness_at (enc:=enc) (C:=Tryz.checked) (os:=os) (X:=fun w _=>laidMetH Tryz.prog laidL w) false { World.holding Tryz.prog os ⟨#[],#[],[]⟩ with heap:=(World.holding Tryz.prog os ⟨#[],#[],[]⟩).heap.modify 1 laidObj } #[.agg #[.int .i64 0,.slice none 0 0,.slice none 0 0,.slice none 0 0,.int .i64 0],.slice none 0 0] 8 rfl (by kernel_rfl) (by kernel_rfl) (by kernel_rfl) (by kernel_rfl) (by kernel_rfl) (laidWorld_met os _)) ?_
 intro W base args ds gs before hval0 hW _ _ hL _
 have hval:∀ (j:Nat) t v,Tryz.f5.params[j]? = some t → args[j]? = some v → Value.okWide Tryz.prog W .any base t v:=hval0
 have hW':=hW
 obtain ⟨p,q,hA0,hV0,rfl,hfz,hnd⟩:=hW
 have hA:DataW.TrodAll enc Tryz.prog W 0 (fun _=>true) true Tryz.f5.params.toList args.toList ds p:=hA0
 have hV:DataW.TrodVars enc Tryz.prog W (fun _=>true) [] gs q:=hV0
 rw [Tryz.params5] at hA hval
 obtain ⟨v0,v1,d0,d1,p0,p1,rfl,rfl,rfl,h0,h1⟩:=trodAll_two hA
 obtain ⟨rfl,rfl⟩:=trodVars_none hV
 obtain ⟨cs,rfl,hsz⟩:=okWide_struct Tryz.underlying26 (hval 0 26 v0 rfl rfl)
 obtain ⟨sa,sl,sc,rfl⟩:=okWide_slice Tryz.underlying59 (hval 1 59 v1 rfl rfl)
 have h0k:=h0
 have h1k:=h1
 obtain ⟨fuel,hf⟩:=h0
 obtain ⟨fuel1,hf1⟩:=h1
 obtain ⟨a,b,c,d,e,hcs⟩:=list5 (show cs.toList.length = 5 by rw [Array.length_toList,hsz,Tryz.cellsPlan])
 have hcs':cs = #[a,b,c,d,e]:=by rw [← Array.toArray_toList (xs:=cs),hcs]
 subst hcs'
 obtain ⟨pl,rfl,rfl,hsm,hpl⟩:=read_plan (show DataW.trod enc Tryz.prog W 0 (fun _=>true) true fuel 26 [a,b,c,d,e] = some (d0,p0) from hf)
 obtain ⟨es,hes,hev⟩:=read_events (show DataW.trod enc Tryz.prog W 0 (fun _=>true) true fuel1 59 [.slice sa sl sc] = some (d1,p1) from hf1)
 have hg:=handle_of_laid hL
 clear hA0 hval0
 simp only [List.append_nil] at hW'
 have hlt:∀ x ∈ p0 ++ p1,x.block < W.heap.size:=fun x hx=>by simpa using hW'.lt x hx
 have e1:Rows.fnExactRunSpec.fn H ([d0,d1] ++ []) = { results:=[.lit (.bool true)],args:=[d0,d1] }:=by simp [Rows.fnExactRunSpec]
 refine (lawR_any b c d _ pl es W hpl hev hsm hes hg).mono fun e W' ⟨he,hb⟩=>?_
 subst he
 refine ⟨_,rfl,_,_,_,[],p0 ++ p1,[],hW',?_,?_,?_,hb.frame _,fun h=>by cases h⟩
 ·rw [e1]; exact trodAll_mk1 (shut_bool Tryz.underlying4 true)
 ·rw [e1]; exact trodAll_mk2 (Below.trod Tryz.laidOut (by kernel_rfl) (of_decide_eq_true (by kernel_rfl)) h0k hb fun x hx=>hlt x (List.mem_append_left _ hx)) (Below.trod Tryz.laidOut (by kernel_rfl) (of_decide_eq_true (by kernel_rfl)) h1k hb fun x hx=>hlt x (List.mem_append_right _ hx))
 ·rw [e1]; rfl
set_option maxRecDepth 100000 in
theorem Tryz.jfR:joinedFacts Tryz.prog 5 Tryz.f5 Rows.fnExactRunSpec Rows.fnExactRunRow = true:=by
 unfold joinedFacts
 exact (jf_and (jf_and (jf_and (jf_and (jf_and (jf_and (jf_and (jf_and (jf_and (jf_and (jf_and (jf_and (jf_and (jf_and (jf_and (jf_and (jf_and (jf_and (jf_and (jf_and (jf_and (jf_and (jf_and (jf_and (jf_and (jf_and (jf_and (jf_and (jf_and (jf_and (jf_and Tryz.jfR_0 Tryz.jf_laidOut) Tryz.jf_mapsRowed) Tryz.jfR_3) Tryz.jfR_4) Tryz.jfR_5) Tryz.jf_stops) Tryz.jfR_7) Tryz.jf_stopKnobs) Tryz.jfR_9) Tryz.jfR_10) Tryz.jfR_11) Tryz.jfR_12) Tryz.jfR_13) Tryz.jfR_14) Tryz.jfR_15) Tryz.jfR_16) Tryz.jfR_17) Tryz.jfR_18) Tryz.jfR_19) Tryz.jfR_20) Tryz.jfR_21) Tryz.jfR_22) Tryz.jfR_23) Tryz.jf_heard) Tryz.jf_mayEnter) Tryz.jfR_26) Tryz.jfR_27) Tryz.jfR_28) Tryz.jfR_29) Tryz.jfR_30) Tryz.jfR_31)
theorem lawR_holds:Rows.FnExactRunSaid:=
 OpenClaim.holds_of_wide 5 Tryz.f5 rfl rfl rfl rfl rfl rfl rfl ⟨rfl,rfl,rfl,rfl,rfl⟩ rfl rfl rfl rfl rfl (by kernel_rfl) Tryz.func5 Tryz.jfR
  (of_decide_eq_true (by kernel_rfl)) (by unfold Func.isWrapper; rw [if_neg (of_decide_eq_false (by kernel_rfl))]; exact ⟨rfl,rfl⟩)
  (fun os started H enc _=>lawR_lifted os started H enc)
end Go.Proofs.YtdhinkgjiapigabGreatDoor

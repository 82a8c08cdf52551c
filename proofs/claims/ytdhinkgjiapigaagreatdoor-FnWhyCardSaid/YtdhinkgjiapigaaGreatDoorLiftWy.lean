import Derived.Test.YtdhinkgjiapigaaGreatDoorReadB
import Derived.Test.YtdhinkgjiapigaaGreatDoorWhyL
import Derived.Test.YtdhinkgjiapigaaGreatDoorJfWy
namespace Go.Proofs.YtdhinkgjiapigaaGreatDoor
open Go.ChangeShapes Go.WideShapes Go.RowKit Go.Joins
set_option maxRecDepth 100000 in
theorem zwe (os:Os) (started:os.Started) (H:Type) (enc:TypeId × Value → H) :
  ReturnsInHanded {} Tryz.checked os 10 .any (fun w args=>(Rows.fnWhySpec.pre enc Tryz.prog Tryz.f10 [] false w args ∧ laidMetH Tryz.prog ztj w) ∧ sizedMet enc Tryz.prog Tryz.f10 (OpenSpec.ofChange Rows.fnWhySpec) false w args)
   (Rows.fnWhySpec.post enc Tryz.prog Tryz.f10 false true false false):=by
 refine returnsInHanded_of_change_and (C:=Tryz.checked) (X:=fun w _=>laidMetH Tryz.prog ztj w) (fun _ _ _ hh h=>h.of_heap hh) Tryz.own started (by kernel_rfl) Tryz.func10
  (ChangeSpec.witness_at (enc:=enc) (C:=Tryz.checked) (os:=os) (X:=fun w _=>laidMetH Tryz.prog ztj w) false { World.holding Tryz.prog os ⟨#[],#[],[]⟩ with heap:=(World.holding Tryz.prog os ⟨#[],#[],[]⟩).heap.modify 1 zto } #[.slice none 0 0] 8 rfl (by kernel_rfl) (by kernel_rfl) (by kernel_rfl) (by kernel_rfl) (by kernel_rfl) (zsr os _)) ?_
 intro W base args ds gs before hval0 hW _ _ hL _;have hval:∀ (j:Nat) t v,Tryz.f10.params[j]? = some t → args[j]? = some v → Value.okWide Tryz.prog W .any base t v:=hval0;have hW':=hW;obtain ⟨p,q,hA0,hV0,rfl,hfz,hnd⟩:=hW;have hA:DataW.TrodAll enc Tryz.prog W 0 (fun _=>true) true Tryz.f10.params.toList args.toList ds p:=hA0;have hV:DataW.TrodVars enc Tryz.prog W (fun _=>true) [] gs q:=hV0;rw [Tryz.params10] at hA hval;obtain ⟨v0,d0,rfl,rfl,h0⟩:=trodAll_one hA;obtain ⟨rfl,rfl⟩:=trodVars_none hV;obtain ⟨a,l,c,rfl⟩:=okWide_slice Tryz.underlying22 (hval 0 22 v0 rfl rfl);have h0k:=h0;obtain ⟨fuel,hf⟩:=h0;obtain ⟨n,hn,hv⟩:=ztk (show DataW.trod enc Tryz.prog W 0 (fun _=>true) true fuel 22 [.slice a l c] = some (d0,p) from hf)
 obtain rfl:l = n:=by
  obtain ⟨a',c',e,-⟩:=hv
  cases e
  rfl
 have hg:=zsl hL;clear hA0 hval0;simp only [List.append_nil] at hW'
 have hlt:∀ x ∈ p,x.block < W.heap.size:=fun x hx=>by simpa using hW'.lt x hx
 have e1:Rows.fnWhySpec.fn H ([d0] ++ []) = { results:=[.lit (.bool true)],args:=[d0] }:=by simp [Rows.fnWhySpec]
 refine (zwq a l c W hv hn hg).mono fun e W' ⟨he,hb⟩=>?_;subst he;refine ⟨_,rfl,_,_,_,[],p,[],hW',?_,?_,?_,hb.frame _,fun h=>by cases h⟩
 ·rw [e1]; exact trodAll_mk1 (shut_bool Tryz.underlying4 true)
 ·rw [e1]; exact trodAll_mk1 (Below.trod Tryz.laidOut (by kernel_rfl) (of_decide_eq_true (by kernel_rfl)) h0k hb hlt)
 ·rw [e1]; rfl
set_option maxRecDepth 100000 in
theorem Tryz.jfWy:joinedFacts Tryz.prog 10 Tryz.f10 Rows.fnWhySpec Rows.fnWhyRow = true:=by
 unfold joinedFacts;exact (zr8 (zr8 (zr8 (zr8 (zr8 (zr8 (zr8 (zr8 (zr8 (zr8 (zr8 (zr8 (zr8 (zr8 (zr8 (zr8 (zr8 (zr8 (zr8 (zr8 (zr8 (zr8 (zr8 (zr8 (zr8 (zr8 (zr8 (zr8 (zr8 (zr8 (zr8 Tryz.jfWy_0 Tryz.jf_laidOut) Tryz.jf_mapsRowed) Tryz.jfWy_3) Tryz.jfWy_4) Tryz.jfWy_5) Tryz.jf_stops) Tryz.jfWy_7) Tryz.jf_stopKnobs) Tryz.jfWy_9) Tryz.jfWy_10) Tryz.jfWy_11) Tryz.jfWy_12) Tryz.jfWy_13) Tryz.jfWy_14) Tryz.jfWy_15) Tryz.jfWy_16) Tryz.jfWy_17) Tryz.jfWy_18) Tryz.jfWy_19) Tryz.jfWy_20) Tryz.jfWy_21) Tryz.jfWy_22) Tryz.jfWy_23) Tryz.jf_heard) Tryz.jf_mayEnter) Tryz.jfWy_26) Tryz.jfWy_27) Tryz.jfWy_28) Tryz.jfWy_29) Tryz.jfWy_30) Tryz.jfWy_31)
theorem zwg:Rows.FnWhySaid:=
 OpenClaim.holds_of_wide 10 Tryz.f10 rfl rfl rfl rfl rfl rfl rfl ⟨rfl,rfl,rfl,rfl,rfl⟩ rfl rfl rfl rfl rfl (by kernel_rfl) Tryz.func10 Tryz.jfWy
  (of_decide_eq_true (by kernel_rfl)) (by unfold Func.isWrapper; rw [if_neg (of_decide_eq_false (by kernel_rfl))]; exact ⟨rfl,rfl⟩)
  (fun os started H enc _=>zwe os started H enc)
end Go.Proofs.YtdhinkgjiapigaaGreatDoor

import Derived.Test.YtdhinkgjiapigaaGreatDoorReadB
import Derived.Test.YtdhinkgjiapigaaGreatDoorHeldL
import Derived.Test.YtdhinkgjiapigaaGreatDoorJfHe
namespace Go.Proofs.YtdhinkgjiapigaaGreatDoor
open Go.ChangeShapes Go.WideShapes Go.RowKit Go.Joins
set_option maxRecDepth 100000 in
theorem zu8 (os:Os) (started:os.Started) (H:Type) (enc:TypeId × Value → H) :
  ReturnsInHanded {} Tryz.checked os 7 .any (fun w args=>(Rows.fnHeldSpec.pre enc Tryz.prog Tryz.f7 [] false w args ∧ laidMetH Tryz.prog ztj w) ∧ sizedMet enc Tryz.prog Tryz.f7 (OpenSpec.ofChange Rows.fnHeldSpec) false w args)
   (Rows.fnHeldSpec.post enc Tryz.prog Tryz.f7 false true false false):=by
 refine returnsInHanded_of_change_and (C:=Tryz.checked) (X:=fun w _=>laidMetH Tryz.prog ztj w) (fun _ _ _ hh h=>h.of_heap hh) Tryz.own started (by kernel_rfl) Tryz.func7
  (ChangeSpec.witness_at (enc:=enc) (C:=Tryz.checked) (os:=os) (X:=fun w _=>laidMetH Tryz.prog ztj w) false { World.holding Tryz.prog os ⟨#[],#[],[]⟩ with heap:=(World.holding Tryz.prog os ⟨#[],#[],[]⟩).heap.modify 1 zto } #[.slice none 0 0] 8 rfl (by kernel_rfl) (by kernel_rfl) (by kernel_rfl) (by kernel_rfl) (by kernel_rfl) (zsr os _)) ?_
 intro W base args ds gs before hval0 hW _ _ hL _;have hval:∀ (j:Nat) t v,Tryz.f7.params[j]? = some t → args[j]? = some v → Value.okWide Tryz.prog W .any base t v:=hval0;have hW':=hW;obtain ⟨p,q,hA0,hV0,rfl,hfz,hnd⟩:=hW;have hA:DataW.TrodAll enc Tryz.prog W 0 (fun _=>true) true Tryz.f7.params.toList args.toList ds p:=hA0;have hV:DataW.TrodVars enc Tryz.prog W (fun _=>true) [] gs q:=hV0;rw [Tryz.params7] at hA hval;obtain ⟨v0,d0,rfl,rfl,h0⟩:=trodAll_one hA;obtain ⟨rfl,rfl⟩:=trodVars_none hV;obtain ⟨a,l,c,rfl⟩:=okWide_slice Tryz.underlying22 (hval 0 22 v0 rfl rfl);have h0k:=h0;obtain ⟨fuel,hf⟩:=h0;obtain ⟨n,hn,hv⟩:=ztk (show DataW.trod enc Tryz.prog W 0 (fun _=>true) true fuel 22 [.slice a l c] = some (d0,p) from hf)
 obtain rfl:l = n:=by
  obtain ⟨a',c',e,-⟩:=hv
  cases e
  rfl
 have hg:=zsl hL;clear hA0 hval0;simp only [List.append_nil] at hW'
 have hlt:∀ x ∈ p,x.block < W.heap.size:=fun x hx=>by simpa using hW'.lt x hx
 have e1:Rows.fnHeldSpec.fn H ([d0] ++ []) = { results:=[.lit (.bool true)],args:=[d0] }:=by simp [Rows.fnHeldSpec]
 refine (zva a l c W hv hn hg).mono fun e W' ⟨he,hb⟩=>?_;subst he;refine ⟨_,rfl,_,_,_,[],p,[],hW',?_,?_,?_,hb.frame _,fun h=>by cases h⟩
 ·rw [e1]; exact trodAll_mk1 (shut_bool Tryz.underlying4 true)
 ·rw [e1]; exact trodAll_mk1 (Below.trod Tryz.laidOut (by kernel_rfl) (of_decide_eq_true (by kernel_rfl)) h0k hb hlt)
 ·rw [e1]; rfl
set_option maxRecDepth 100000 in
theorem Tryz.jfHe:joinedFacts Tryz.prog 7 Tryz.f7 Rows.fnHeldSpec Rows.fnHeldRow = true:=by
 unfold joinedFacts;exact (zr8 (zr8 (zr8 (zr8 (zr8 (zr8 (zr8 (zr8 (zr8 (zr8 (zr8 (zr8 (zr8 (zr8 (zr8 (zr8 (zr8 (zr8 (zr8 (zr8 (zr8 (zr8 (zr8 (zr8 (zr8 (zr8 (zr8 (zr8 (zr8 (zr8 (zr8 Tryz.jfHe_0 Tryz.jf_laidOut) Tryz.jf_mapsRowed) Tryz.jfHe_3) Tryz.jfHe_4) Tryz.jfHe_5) Tryz.jf_stops) Tryz.jfHe_7) Tryz.jf_stopKnobs) Tryz.jfHe_9) Tryz.jfHe_10) Tryz.jfHe_11) Tryz.jfHe_12) Tryz.jfHe_13) Tryz.jfHe_14) Tryz.jfHe_15) Tryz.jfHe_16) Tryz.jfHe_17) Tryz.jfHe_18) Tryz.jfHe_19) Tryz.jfHe_20) Tryz.jfHe_21) Tryz.jfHe_22) Tryz.jfHe_23) Tryz.jf_heard) Tryz.jf_mayEnter) Tryz.jfHe_26) Tryz.jfHe_27) Tryz.jfHe_28) Tryz.jfHe_29) Tryz.jfHe_30) Tryz.jfHe_31)
theorem zu9:Rows.FnHeldSaid:=
 OpenClaim.holds_of_wide 7 Tryz.f7 rfl rfl rfl rfl rfl rfl rfl ⟨rfl,rfl,rfl,rfl,rfl⟩ rfl rfl rfl rfl rfl (by kernel_rfl) Tryz.func7 Tryz.jfHe
  (of_decide_eq_true (by kernel_rfl)) (by unfold Func.isWrapper; rw [if_neg (of_decide_eq_false (by kernel_rfl))]; exact ⟨rfl,rfl⟩)
  (fun os started H enc _=>zu8 os started H enc)
end Go.Proofs.YtdhinkgjiapigaaGreatDoor

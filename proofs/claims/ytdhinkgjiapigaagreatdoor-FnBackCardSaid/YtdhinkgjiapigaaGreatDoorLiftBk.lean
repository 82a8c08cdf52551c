import Derived.Test.YtdhinkgjiapigaaGreatDoorReadB
import Derived.Test.YtdhinkgjiapigaaGreatDoorBackL
import Derived.Test.YtdhinkgjiapigaaGreatDoorJfBk
namespace Go.Proofs.YtdhinkgjiapigaaGreatDoor
open Go.ChangeShapes Go.WideShapes Go.RowKit Go.Joins
set_option maxRecDepth 100000 in
theorem lawBk_lifted (os:Os) (started:os.Started) (H:Type) (enc:TypeId × Value → H) :
  ReturnsInHanded {} Tryz.checked os 9 .any (fun w args=>(Rows.fnBackSpec.pre enc Tryz.prog Tryz.f9 [] false w args ∧ laidMetH Tryz.prog laidL w) ∧ sizedMet enc Tryz.prog Tryz.f9 (OpenSpec.ofChange Rows.fnBackSpec) false w args)
   (Rows.fnBackSpec.post enc Tryz.prog Tryz.f9 false true false false):=by
 refine returnsInHanded_of_change_and (C:=Tryz.checked) (X:=fun w _=>laidMetH Tryz.prog laidL w) (fun _ _ _ hh h=>h.of_heap hh) Tryz.own started (by kernel_rfl) Tryz.func9
  (ChangeSpec.witness_at (enc:=enc) (C:=Tryz.checked) (os:=os) (X:=fun w _=>laidMetH Tryz.prog laidL w) false { World.holding Tryz.prog os ⟨#[],#[],[]⟩ with heap:=(World.holding Tryz.prog os ⟨#[],#[],[]⟩).heap.modify 1 laidObj } #[.slice none 0 0] 8 rfl (by kernel_rfl) (by kernel_rfl) (by kernel_rfl) (by kernel_rfl) (by kernel_rfl) (laidWorld_met os _)) ?_
 intro W base args ds gs before hval0 hW _ _ hL _
 have hval:∀ (j:Nat) t v,Tryz.f9.params[j]? = some t → args[j]? = some v → Value.okWide Tryz.prog W .any base t v:=hval0
 have hW':=hW
 obtain ⟨p,q,hA0,hV0,rfl,hfz,hnd⟩:=hW
 have hA:DataW.TrodAll enc Tryz.prog W 0 (fun _=>true) true Tryz.f9.params.toList args.toList ds p:=hA0
 have hV:DataW.TrodVars enc Tryz.prog W (fun _=>true) [] gs q:=hV0
 rw [Tryz.params9] at hA hval
 obtain ⟨v0,d0,rfl,rfl,h0⟩:=trodAll_one hA
 obtain ⟨rfl,rfl⟩:=trodVars_none hV
 obtain ⟨a,l,c,rfl⟩:=okWide_slice Tryz.underlying22 (hval 0 22 v0 rfl rfl)
 have h0k:=h0
 obtain ⟨fuel,hf⟩:=h0
 obtain ⟨n,hn,hv⟩:=read_bytes (show DataW.trod enc Tryz.prog W 0 (fun _=>true) true fuel 22 [.slice a l c] = some (d0,p) from hf)
 obtain rfl:l = n:=by
  obtain ⟨a',c',e,-⟩:=hv
  cases e
  rfl
 have hg:=handle_of_laid hL
 clear hA0 hval0
 simp only [List.append_nil] at hW'
 have hlt:∀ x ∈ p,x.block < W.heap.size:=fun x hx=>by simpa using hW'.lt x hx
 have e1:Rows.fnBackSpec.fn H ([d0] ++ []) = { results:=[.lit (.bool true)],args:=[d0] }:=by simp [Rows.fnBackSpec]
 refine (lawBk_any a l c W hv hn hg).mono fun e W' ⟨he,hb⟩=>?_
 subst he
 refine ⟨_,rfl,_,_,_,[],p,[],hW',?_,?_,?_,hb.frame _,fun h=>by cases h⟩
 ·rw [e1]; exact trodAll_mk1 (shut_bool Tryz.underlying4 true)
 ·rw [e1]; exact trodAll_mk1 (Below.trod Tryz.laidOut (by kernel_rfl) (of_decide_eq_true (by kernel_rfl)) h0k hb hlt)
 ·rw [e1]; rfl
set_option maxRecDepth 100000 in
theorem Tryz.jfBk:joinedFacts Tryz.prog 9 Tryz.f9 Rows.fnBackSpec Rows.fnBackRow = true:=by
 unfold joinedFacts
 exact (jf_and (jf_and (jf_and (jf_and (jf_and (jf_and (jf_and (jf_and (jf_and (jf_and (jf_and (jf_and (jf_and (jf_and (jf_and (jf_and (jf_and (jf_and (jf_and (jf_and (jf_and (jf_and (jf_and (jf_and (jf_and (jf_and (jf_and (jf_and (jf_and (jf_and (jf_and Tryz.jfBk_0 Tryz.jf_laidOut) Tryz.jf_mapsRowed) Tryz.jfBk_3) Tryz.jfBk_4) Tryz.jfBk_5) Tryz.jf_stops) Tryz.jfBk_7) Tryz.jf_stopKnobs) Tryz.jfBk_9) Tryz.jfBk_10) Tryz.jfBk_11) Tryz.jfBk_12) Tryz.jfBk_13) Tryz.jfBk_14) Tryz.jfBk_15) Tryz.jfBk_16) Tryz.jfBk_17) Tryz.jfBk_18) Tryz.jfBk_19) Tryz.jfBk_20) Tryz.jfBk_21) Tryz.jfBk_22) Tryz.jfBk_23) Tryz.jf_heard) Tryz.jf_mayEnter) Tryz.jfBk_26) Tryz.jfBk_27) Tryz.jfBk_28) Tryz.jfBk_29) Tryz.jfBk_30) Tryz.jfBk_31)
theorem lawBk_holds:Rows.FnBackSaid:=
 OpenClaim.holds_of_wide 9 Tryz.f9 rfl rfl rfl rfl rfl rfl rfl ⟨rfl,rfl,rfl,rfl,rfl⟩ rfl rfl rfl rfl rfl (by kernel_rfl) Tryz.func9 Tryz.jfBk
  (of_decide_eq_true (by kernel_rfl)) (by unfold Func.isWrapper; rw [if_neg (of_decide_eq_false (by kernel_rfl))]; exact ⟨rfl,rfl⟩)
  (fun os started H enc _=>lawBk_lifted os started H enc)
end Go.Proofs.YtdhinkgjiapigaaGreatDoor

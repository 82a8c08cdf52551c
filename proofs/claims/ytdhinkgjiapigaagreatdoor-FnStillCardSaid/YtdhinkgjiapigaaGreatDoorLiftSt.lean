import Derived.Test.YtdhinkgjiapigaaGreatDoorReadBs
import Derived.Test.YtdhinkgjiapigaaGreatDoorStillL
import Derived.Test.YtdhinkgjiapigaaGreatDoorJfSt
namespace Go.Proofs.YtdhinkgjiapigaaGreatDoor
open Go.ChangeShapes Go.WideShapes Go.RowKit Go.Joins
set_option maxRecDepth 100000 in
theorem zvr (os:Os) (started:os.Started) (H:Type) (enc:TypeId × Value → H) :
  ReturnsInHanded {} Tryz.checked os 5 .any (fun w args=>(Rows.fnStillSpec.pre enc Tryz.prog Tryz.f5 [] false w args ∧ laidMetH Tryz.prog ztj w) ∧ sizedMet enc Tryz.prog Tryz.f5 (OpenSpec.ofChange Rows.fnStillSpec) false w args)
   (Rows.fnStillSpec.post enc Tryz.prog Tryz.f5 false true false false):=by
 refine returnsInHanded_of_change_and (C:=Tryz.checked) (X:=fun w _=>laidMetH Tryz.prog ztj w) (fun _ _ _ hh h=>h.of_heap hh) Tryz.own started (by kernel_rfl) Tryz.func5
  (ChangeSpec.witness_at (enc:=enc) (C:=Tryz.checked) (os:=os) (X:=fun w _=>laidMetH Tryz.prog ztj w) false { World.holding Tryz.prog os ⟨#[],#[],[]⟩ with heap:=(World.holding Tryz.prog os ⟨#[],#[],[]⟩).heap.modify 1 zto } #[.slice none 0 0] 8 rfl (by kernel_rfl) (by kernel_rfl) (by kernel_rfl) (by kernel_rfl) (by kernel_rfl) (zsr os _)) ?_
 intro W base args ds gs before hval0 hW _ _ hL _;have hval:∀ (j:Nat) t v,Tryz.f5.params[j]? = some t → args[j]? = some v → Value.okWide Tryz.prog W .any base t v:=hval0;have hW':=hW;obtain ⟨p,q,hA0,hV0,rfl,hfz,hnd⟩:=hW;have hA:DataW.TrodAll enc Tryz.prog W 0 (fun _=>true) true Tryz.f5.params.toList args.toList ds p:=hA0;have hV:DataW.TrodVars enc Tryz.prog W (fun _=>true) [] gs q:=hV0;rw [Tryz.params5] at hA hval;obtain ⟨v0,d0,rfl,rfl,h0⟩:=trodAll_one hA;obtain ⟨rfl,rfl⟩:=trodVars_none hV;obtain ⟨a,l,c,rfl⟩:=okWide_slice Tryz.underlying22 (hval 0 22 v0 rfl rfl);have h0k:=h0;obtain ⟨fuel,hf⟩:=h0;obtain ⟨n,hn,hv⟩:=ztk (show DataW.trod enc Tryz.prog W 0 (fun _=>true) true fuel 22 [.slice a l c] = some (d0,p) from hf)
 obtain rfl:l = n:=by
  obtain ⟨a',c',e,-⟩:=hv
  cases e
  rfl
 have hg:=zsl hL;clear hA0 hval0;simp only [List.append_nil] at hW'
 have hlt:∀ x ∈ p,x.block < W.heap.size:=fun x hx=>by simpa using hW'.lt x hx
 have e1:Rows.fnStillSpec.fn H ([d0] ++ []) = { results:=[.lit (.bool true)],args:=[d0] }:=by simp [Rows.fnStillSpec]
 refine (zvz a l c W hv hn hg).mono fun e W' ⟨he,hb⟩=>?_;subst he;refine ⟨_,rfl,_,_,_,[],p,[],hW',?_,?_,?_,hb.frame _,fun h=>by cases h⟩
 ·rw [e1]; exact trodAll_mk1 (shut_bool Tryz.underlying4 true)
 ·rw [e1]; exact trodAll_mk1 (Below.trod Tryz.laidOut (by kernel_rfl) (of_decide_eq_true (by kernel_rfl)) h0k hb hlt)
 ·rw [e1]; rfl
set_option maxRecDepth 100000 in
theorem Tryz.jfSt:joinedFacts Tryz.prog 5 Tryz.f5 Rows.fnStillSpec Rows.fnStillRow = true:=by
 unfold joinedFacts;exact (zr8 (zr8 (zr8 (zr8 (zr8 (zr8 (zr8 (zr8 (zr8 (zr8 (zr8 (zr8 (zr8 (zr8 (zr8 (zr8 (zr8 (zr8 (zr8 (zr8 (zr8 (zr8 (zr8 (zr8 (zr8 (zr8 (zr8 (zr8 (zr8 (zr8 (zr8 Tryz.jfSt_0 Tryz.jf_laidOut) Tryz.jf_mapsRowed) Tryz.jfSt_3) Tryz.jfSt_4) Tryz.jfSt_5) Tryz.jf_stops) Tryz.jfSt_7) Tryz.jf_stopKnobs) Tryz.jfSt_9) Tryz.jfSt_10) Tryz.jfSt_11) Tryz.jfSt_12) Tryz.jfSt_13) Tryz.jfSt_14) Tryz.jfSt_15) Tryz.jfSt_16) Tryz.jfSt_17) Tryz.jfSt_18) Tryz.jfSt_19) Tryz.jfSt_20) Tryz.jfSt_21) Tryz.jfSt_22) Tryz.jfSt_23) Tryz.jf_heard) Tryz.jf_mayEnter) Tryz.jfSt_26) Tryz.jfSt_27) Tryz.jfSt_28) Tryz.jfSt_29) Tryz.jfSt_30) Tryz.jfSt_31)
theorem zvu:Rows.FnStillSaid:=
 OpenClaim.holds_of_wide 5 Tryz.f5 rfl rfl rfl rfl rfl rfl rfl ⟨rfl,rfl,rfl,rfl,rfl⟩ rfl rfl rfl rfl rfl (by kernel_rfl) Tryz.func5 Tryz.jfSt
  (of_decide_eq_true (by kernel_rfl)) (by unfold Func.isWrapper; rw [if_neg (of_decide_eq_false (by kernel_rfl))]; exact ⟨rfl,rfl⟩)
  (fun os started H enc _=>zvr os started H enc)
end Go.Proofs.YtdhinkgjiapigaaGreatDoor

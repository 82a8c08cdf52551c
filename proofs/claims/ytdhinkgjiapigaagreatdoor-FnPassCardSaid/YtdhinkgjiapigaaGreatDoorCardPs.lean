import Derived.Test.YtdhinkgjiapigaaGreatDoorReadB
import Derived.Test.YtdhinkgjiapigaaGreatDoorPassL
import Derived.Test.YtdhinkgjiapigaaGreatDoorJfPs
import Derived.Test.YtdhinkgjiapigaaGreatDoorTie
import Derived.Test.YtdhinkgjiapigaaGreatDoorCards
import Derived.SevenTiedAt
namespace Go.Proofs.YtdhinkgjiapigaaGreatDoor
open Go.ChangeShapes Go.WideShapes Go.RowKit Go.Joins
set_option maxRecDepth 100000 in
theorem lawPs_lifted (os:Os) (started:os.Started) (H:Type) (enc:TypeId × Value → H) :
  ReturnsInHanded {} Tryz.checked os 8 .any (fun w args=>(Rows.fnPassSpec.pre enc Tryz.prog Tryz.f8 [] false w args ∧ laidMetH Tryz.prog laidL w) ∧ sizedMet enc Tryz.prog Tryz.f8 (OpenSpec.ofChange Rows.fnPassSpec) false w args)
   (Rows.fnPassSpec.post enc Tryz.prog Tryz.f8 false true false false):=by
 refine returnsInHanded_of_change_and (C:=Tryz.checked) (X:=fun w _=>laidMetH Tryz.prog laidL w) (fun _ _ _ hh h=>h.of_heap hh) Tryz.own started (by kernel_rfl) Tryz.func8
  (ChangeSpec.witness_at (enc:=enc) (C:=Tryz.checked) (os:=os) (X:=fun w _=>laidMetH Tryz.prog laidL w) false { World.holding Tryz.prog os ⟨#[],#[],[]⟩ with heap:=(World.holding Tryz.prog os ⟨#[],#[],[]⟩).heap.modify 1 laidObj } #[.slice none 0 0] 8 rfl (by kernel_rfl) (by kernel_rfl) (by kernel_rfl) (by kernel_rfl) (by kernel_rfl) (laidWorld_met os _)) ?_
 intro W base args ds gs before hval0 hW _ _ hL _
 have hval:∀ (j:Nat) t v,Tryz.f8.params[j]? = some t → args[j]? = some v → Value.okWide Tryz.prog W .any base t v:=hval0
 have hW':=hW
 obtain ⟨p,q,hA0,hV0,rfl,hfz,hnd⟩:=hW
 have hA:DataW.TrodAll enc Tryz.prog W 0 (fun _=>true) true Tryz.f8.params.toList args.toList ds p:=hA0
 have hV:DataW.TrodVars enc Tryz.prog W (fun _=>true) [] gs q:=hV0
 rw [Tryz.params8] at hA hval
 obtain ⟨v0,d0,rfl,rfl,h0⟩:=trodAll_one hA
 obtain ⟨rfl,rfl⟩:=trodVars_none hV
 obtain ⟨a,l,c,rfl⟩:=okWide_slice Tryz.underlying22 (hval 0 22 v0 rfl rfl)
 have h0k:=h0
 obtain ⟨fuel,hf⟩:=h0
 obtain ⟨n,hn,hv⟩:=read_bytes (show DataW.trod enc Tryz.prog W 0 (fun _=>true) true fuel 22 [.slice a l c] = some (d0,p) from hf)
 obtain rfl:l = n:=by
  obtain ⟨a',c',e,-⟩:=hv
  cases e
  rfl
 have hg:=handle_of_laid hL
 clear hA0 hval0
 simp only [List.append_nil] at hW'
 have hlt:∀ x ∈ p,x.block < W.heap.size:=fun x hx=>by simpa using hW'.lt x hx
 have e1:Rows.fnPassSpec.fn H ([d0] ++ []) = { results:=[.lit (.bool true)],args:=[d0] }:=by simp [Rows.fnPassSpec]
 refine (lawPs_any a l c W hv hn hg).mono fun e W' ⟨he,hb⟩=>?_
 subst he
 refine ⟨_,rfl,_,_,_,[],p,[],hW',?_,?_,?_,hb.frame _,fun h=>by cases h⟩
 ·rw [e1]; exact trodAll_mk1 (shut_bool Tryz.underlying4 true)
 ·rw [e1]; exact trodAll_mk1 (Below.trod Tryz.laidOut (by kernel_rfl) (of_decide_eq_true (by kernel_rfl)) h0k hb hlt)
 ·rw [e1]; rfl
set_option maxRecDepth 100000 in
theorem Tryz.jfPs:joinedFacts Tryz.prog 8 Tryz.f8 Rows.fnPassSpec Rows.fnPassRow = true:=by
 unfold joinedFacts
 exact (jf_and (jf_and (jf_and (jf_and (jf_and (jf_and (jf_and (jf_and (jf_and (jf_and (jf_and (jf_and (jf_and (jf_and (jf_and (jf_and (jf_and (jf_and (jf_and (jf_and (jf_and (jf_and (jf_and (jf_and (jf_and (jf_and (jf_and (jf_and (jf_and (jf_and (jf_and Tryz.jfPs_0 Tryz.jf_laidOut) Tryz.jf_mapsRowed) Tryz.jfPs_3) Tryz.jfPs_4) Tryz.jfPs_5) Tryz.jf_stops) Tryz.jfPs_7) Tryz.jf_stopKnobs) Tryz.jfPs_9) Tryz.jfPs_10) Tryz.jfPs_11) Tryz.jfPs_12) Tryz.jfPs_13) Tryz.jfPs_14) Tryz.jfPs_15) Tryz.jfPs_16) Tryz.jfPs_17) Tryz.jfPs_18) Tryz.jfPs_19) Tryz.jfPs_20) Tryz.jfPs_21) Tryz.jfPs_22) Tryz.jfPs_23) Tryz.jf_heard) Tryz.jf_mayEnter) Tryz.jfPs_26) Tryz.jfPs_27) Tryz.jfPs_28) Tryz.jfPs_29) Tryz.jfPs_30) Tryz.jfPs_31)
theorem lawPs_holds:Rows.FnPassSaid:=
 OpenClaim.holds_of_wide 8 Tryz.f8 rfl rfl rfl rfl rfl rfl rfl ⟨rfl,rfl,rfl,rfl,rfl⟩ rfl rfl rfl rfl rfl (by kernel_rfl) Tryz.func8 Tryz.jfPs
  (of_decide_eq_true (by kernel_rfl)) (by unfold Func.isWrapper; rw [if_neg (of_decide_eq_false (by kernel_rfl))]; exact ⟨rfl,rfl⟩)
  (fun os started H enc _=>lawPs_lifted os started H enc)
end Go.Proofs.YtdhinkgjiapigaaGreatDoor
namespace Go.Proofs.YtdhinkgjiapigaaGreatDoor
open Go
theorem fnPass_card:Rows.FnPassCardSaid:=
 Claim7.holds_tied_plain_at .later [] [.handle] true Rows.fnPassCard.stood.harness true
  lawPs_holds (fun _ h=>by cases h) (by kernel_rfl) (fun _ h=>by cases h) fnPass_row_tie rfl ⟨rfl,rfl⟩ (by kernel_rfl) rfl
  (fun f fn hf hfn=>by
   obtain rfl:f = 8:=Option.some.inj ((show Tryz.prog.funcNamed Tryz.f8.name = some 8 by kernel_rfl).symm.trans hf) |>.symm
   obtain rfl:fn = Tryz.f8:=(Option.some.inj (Tryz.func8.symm.trans hfn)).symm
   exact ⟨Tryz.looksPs,fun j t ht=>by
    rw [Tryz.params8] at ht
    have hm:t ∈ [22]:=by simpa using Array.mem_of_getElem? ht
    have hall:([22].all fun u=>!Tryz.prog.wantsStandIn u) = true:=by kernel_rfl
    exact (show Tryz.prog.wantsStandIn t = false by simpa using List.all_eq_true.1 hall t hm)⟩)
  Tryz.goPs
#print axioms fnPass_card
end Go.Proofs.YtdhinkgjiapigaaGreatDoor

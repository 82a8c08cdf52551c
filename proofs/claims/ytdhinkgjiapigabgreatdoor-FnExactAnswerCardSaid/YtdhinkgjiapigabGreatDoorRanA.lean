import Derived.RangeFuncNested
import Derived.RangeFuncBound
import Derived.RangeFuncCalls
import Derived.RangeFuncLeaves
import Derived.Shelf.Abstract
import Derived.Shelf.RegionOpen
import Derived.WalkKit
import Derived.OwnWalkIn
import Derived.TacticsInMore
import Derived.LoopNIn
import Derived.LoopIn
import Derived.Test.YtdhinkgjiapigabGreatDoorToA
import Derived.Test.YtdhinkgjiapigabGreatDoorFrA
import Derived.Test.YtdhinkgjiapigabGreatDoorBase
namespace Go.Proofs.YtdhinkgjiapigabGreatDoor
open Go.RowKit
theorem zej {β:Type} {B B':Nat} {I:β → World → Prop} (h:OwnFrom B I) (hB:B ≤ B'):OwnFrom B' I:=
 fun s W W' row hs hg hr=>h s W W' row hs hg fun r e=>⟨Nat.le_trans hB (hr r e).1,(hr r e).2⟩
theorem zmy {W W':World} (hb:Below W.heap.size W W') (row:Option Nat):W.grownBy W' row:=⟨hb.os,hb.tape,hb.output,hb.size,fun k hk _=>hb.block k hk⟩
theorem zbh {β:Type} {B:Nat} {I:β → World → Prop} (h:OwnFrom B I) {s:β} {W W':World} (hs:I s W) (hb:Below W.heap.size W W'):I s W':=
 h s W W' none hs (zmy hb none) fun r e=>by cases e
def Mid (a b:Nat) (W W':World):Prop:=∀ k,a ≤ k → k < b → W'.heap[k]? = W.heap[k]?
theorem Mid.trans {a b:Nat} {A B C:World} (h:Mid a b A B) (k:Mid a b B C):Mid a b A C:=fun i h1 h2=>(k i h1 h2).trans (h i h1 h2)
theorem Mid.part {a b a' b':Nat} {A B:World} (h:Mid a b A B) (h1:a ≤ a') (h2:b' ≤ b):Mid a' b' A B:=fun i k1 k2=>h i (by omega) (by omega)
theorem Mid.call {a b:Nat} {W W':World} (h:Below W.heap.size W W') (hb:b ≤ W.heap.size):Mid a b W W':=fun k _ hk=>h.block k (by omega)
def ze4 {α:Type} (P:Program) (g:Nat) (lb:Array Value) (encs:α → Array Value) (n0 c:Nat) (xs:List α) (w:World):Prop:=
 ∀ (l:Nat) (J Jx:List α → World → Prop) (W:World),Below w.heap.size w W → OwnFrom W.heap.size J → OwnFrom W.heap.size Jx →
  (∀ pre x W1,pre ++ [x] <+: xs → W.heap.size + c ≤ W1.heap.size → J pre W1 → YieldAt Fence.wide 0 P l (encs x) W1 fun e W'=>
   (e = .returned (.bool true) ∧ J (pre ++ [x]) W' ∧ Below n0 W1 W' ∧ Mid W.heap.size (W.heap.size + c) W1 W') ∨ (e = .returned (.bool false) ∧ Jx (pre ++ [x]) W' ∧ Mid W.heap.size (W.heap.size + c) W1 W')) →
  J [] W →
  CallsIn Fence.wide 0 P g (#[.func (.yield l) #[] #[]] ++ lb) W fun e W'=>(∃ v,e = .returned v) ∧ (J xs W' ∨ ∃ pre,pre <+: xs ∧ Jx pre W')
def zql {α:Type} (B c n0:Nat) (I Ix:List α → World → Prop) (xs:List α) (W:World):Exit → Act → World → Prop
 | .normal,_,W'=>Mid B (B + 2 + c) W W' ∧ Below n0 W W' ∧ I xs W'
 | .ret,_,W'=>Mid B (B + 2 + c) W W' ∧ Ix xs W'
 | _,_,_=>False
theorem zhe {α:Type} {P:Program} {g:Operand} {ps:Array Tmp} {assign body:Code} {Q:Exit → Act → World → Prop} {a:Act} {w w0:World} {gf:Nat} {lb:Array Value} {encs:α → Array Value} {n0 c:Nat} {xs:List α}
  (hg:a.eval g = .func (.func gf) #[] lb) (eg:∀ args w,(callFunc gf args).run P w = .ok (.enter gf args) w) (hseq:ze4 P gf lb encs n0 c xs w0) (hb0:Below w0.heap.size w0 w) (hn:n0 ≤ w.heap.size) (hps:∀ x,(encs x).size = ps.size)
  (I Ix:List α → World → Prop) (hI:OwnFrom w.heap.size I) (hIx:OwnFrom w.heap.size Ix) (h0:I [] w) (a1:α → Act)
  (hassign:∀ (l:Nat) (x:α) (W:World) (K:Act → World → Prop),K (a1 x) W →
   assign.wpIn (Fence.wide.inRound l) 0 P (Exit.then K (fun _ _ _=>False)) { tmps:=(ps.zip (encs x)).foldl (fun t (p,v)=>t.setIfInBounds p v) a.tmps,defers:=[] } W)
  (hbody:∀ (l:Nat) (pre:List α) (x:α) (W:World),pre ++ [x] <+: xs → w.heap.size + 2 + c ≤ W.heap.size → I pre W → body.wpIn (Fence.wide.inRound l) 0 P (zql w.heap.size c n0 I Ix (pre ++ [x]) W) (a1 x) W)
  (hdone:∀ (D:Nat) (W:World),w.heap.size ≤ D → I xs W → W.heap[D]? = some (.deferred (some [])) → Q .normal { a with defers:={ target:=.collected D,args:=#[] } :: a.defers } W)
  (hstop:∀ (D:Nat) (pre:List α) (W:World),w.heap.size ≤ D → pre <+: xs → Ix pre W → W.heap[D]? = some (.deferred (some [])) → Code.ret.wpIn Fence.wide 0 P Q { a with defers:={ target:=.collected D,args:=#[] } :: a.defers } W) :
  (Code.rangeFunc g ps assign body).wpIn Fence.wide 0 P Q a w:=by
 refine wpIn_rangeFunc fun fn hfn=>?_
 let rec0:Loop:={ state:=.ready,pending:=none,fn,tmps:=a.tmps,params:=ps,assign,body,defers:=w.heap.size }
 let Fact (r:Loop) (W:World):Prop:=W.heap[w.heap.size]? = some (.deferred (some [])) ∧ W.heap[w.heap.size + 1]? = some (.loop r)
 have factOwn:∀ r s W W' row,Fact r W → W.grownBy W' row → (∀ b,row = some b → w.heap.size + 2 ≤ b) → (fun (_:List α)=>Fact r) s W':=fun r s W W' row hf hgr hr=>
  ⟨(hgr.block _ (Array.getElem?_eq_some_iff.1 hf.1).1 fun e=>by have:=hr _ e.symm; omega).trans hf.1,(hgr.block _ (Array.getElem?_eq_some_iff.1 hf.2).1 fun e=>by have:=hr _ e.symm; omega).trans hf.2⟩
 have factPut:∀ r r' W,Fact r W → Fact r' (W.putObj (w.heap.size + 1) (.loop r')):=fun r r' W hf=>
  ⟨(World.putObj_heap_other (by omega)).trans hf.1,World.putObj_heap_same (Array.getElem?_eq_some_iff.1 hf.2).1⟩
 have factKeep:∀ r W W',Fact r W → Mid w.heap.size (w.heap.size + 2 + c) W W' → Fact r W':=fun r W W' hf hk=>⟨(hk _ (Nat.le_refl _) (by omega)).trans hf.1,(hk _ (by omega) (by omega)).trans hf.2⟩;have putMid:∀ W o,Mid (w.heap.size + 2) (w.heap.size + 2 + c) W (W.putObj (w.heap.size + 1) o):=fun W o k h1 _=>World.putObj_heap_other (by omega)
 have putBelow:∀ r W o,Fact r W → Below n0 W (W.putObj (w.heap.size + 1) o):=fun r W o hf=>
  (Below.refl n0 W).grown (grownBy_putObj' _ _ _) (by have:=(Array.getElem?_eq_some_iff.1 hf.2).1; omega) fun k e=>by cases e; omega
 have ownPut:∀ {K:List α → World → Prop},OwnFrom w.heap.size K → ∀ r s W o,Fact r W → K s W → K s (W.putObj (w.heap.size + 1) o):=fun hK r s W o hf hs=>hK.putObj o hs (by omega) hf.2 rfl;obtain ⟨W1,hW1⟩:∃ W1,W1 = (w.alloc (.deferred (some []))).alloc (.loop rec0):=⟨_,rfl⟩
 have hz1:W1.heap.size = w.heap.size + 2:=by rw [hW1]; simp
 have hF1:Fact rec0 W1:=by
  have h1:=World.alloc_heap_new (w.alloc (.deferred (some []))) (.loop rec0);rw [World.size_alloc] at h1;rw [hW1];exact ⟨(Below.heap_alloc _ _ _ (by simp)).trans (World.alloc_heap_new w _),h1⟩
 have hb1:Below w.heap.size w W1:=by rw [hW1]; exact ((Below.refl _ w).alloc (Nat.le_refl _) _).alloc (by simp) _
 refine ⟨w.heap.size + 1,[{ target:=.collected w.heap.size,args:=#[] }],W1,{ target:=.fn (.func gf) lb,args:=#[.func (.yield (w.heap.size + 1)) #[] #[]] },W1,gf,
  #[.func (.yield (w.heap.size + 1)) #[] #[]] ++ lb,W1,?_,?_,fun _ _=>trivial,?_,fun h=>(by cases h),?_⟩
 ·rw [hW1]; exact run_enterLoop_outer _ _ _ _ _
 ·simp only [resolve,hg];simp [go_sem]
 ·simp [invoke,go_sem,eg]
 refine (hseq (w.heap.size + 1) (fun pre W=>I pre W ∧ Fact rec0 W) (fun pre W=>Ix pre W ∧ Fact { rec0 with state:=.done,pending:=some .ret } W) W1 (hb0.trans (hb1.mono hb0.size))
  (fun s A B row hs hgr hr=>⟨zej hI (by omega) s A B row hs.1 hgr hr,factOwn _ s A B row hs.2 hgr fun b e=>by have:=(hr b e).1; omega⟩)
  (fun s A B row hs hgr hr=>⟨zej hIx (by omega) s A B row hs.1 hgr hr,factOwn _ s A B row hs.2 hgr fun b e=>by have:=(hr b e).1; omega⟩) ?_ ⟨zbh hI h0 hb1,hF1⟩).mono ?_
 ·rintro pre x W hpre hsz ⟨hi,hf⟩;rw [hz1] at hsz ⊢;refine ⟨fn,_,assign,body,run_yield hf.2 (hps x),roundIn_of_wpIn hfn (hassign _ x W _ ⟨_,run_beginRound hf.2 rfl,?_⟩)⟩;have hf2:=factPut _ { rec0 with state:=.busy } W hf;refine wpIn_mono (hbody _ pre x _ hpre (by simpa using hsz) (ownPut hI _ _ _ _ hf hi)) ?_;rintro e a3 W3 hp
  have fin:∀ (jump:Option Code),Mid w.heap.size (w.heap.size + 2 + c) (W.putObj (w.heap.size + 1) (.loop { rec0 with state:=.busy })) W3 →
    Fact { rec0 with state:=.busy } W3 ∧ (Instr.endRound (w.heap.size + 1) jump).run P W3 = .ok (.bool jump.isNone) (W3.putObj (w.heap.size + 1) (.loop { rec0 with state:=if jump.isNone then .ready else .done,pending:=jump })) ∧
    Mid (w.heap.size + 2) (w.heap.size + 2 + c) W (W3.putObj (w.heap.size + 1) (.loop { rec0 with state:=if jump.isNone then .ready else .done,pending:=jump })):=fun jump hk=>by
   have hf3:=factKeep _ _ _ hf2 hk;exact ⟨hf3,run_endRound (r:={ rec0 with state:=.busy }) jump hf3.2,((putMid _ _).trans (hk.part (by omega) (by omega))).trans (putMid _ _)⟩
  cases e with
  | normal=>
   obtain ⟨hk,hb,hi3⟩:=hp;obtain ⟨hf3,hr,hk4⟩:=fin none hk;exact ⟨_,_,hr,.inl ⟨rfl,⟨ownPut hI _ _ _ _ hf3 hi3,factPut _ _ _ hf3⟩,((putBelow _ _ _ hf).trans hb).trans (putBelow _ _ _ hf3),hk4⟩⟩
  | ret=>
   obtain ⟨hk,hi3⟩:=hp;obtain ⟨hf3,hr,hk4⟩:=fin (some .ret) hk;exact ⟨_,_,hr,.inr ⟨rfl,⟨ownPut hIx _ _ _ _ hf3 hi3,factPut _ _ _ hf3⟩,hk4⟩⟩
  | exit id=>exact hp.elim
  | goto t=>exact hp.elim
  | panic ch=>exact hp.elim
  | outgrown=>exact hp.elim
 ·rintro e W2 ⟨⟨v,rfl⟩,⟨hi,hf⟩ | ⟨pre,hpre,hi,hf⟩⟩
  ·exact ⟨none,_,run_endLoop hf.2 (by simp [rec0]),hdone _ _ (Nat.le_refl _) (ownPut hI _ _ _ _ hf hi) (factPut _ _ _ hf).1⟩
  ·exact ⟨some .ret,_,run_endLoop hf.2 (by simp),hstop _ pre _ (Nat.le_refl _) hpre (ownPut hIx _ _ _ _ hf hi) (factPut _ _ _ hf).1⟩
end Go.Proofs.YtdhinkgjiapigabGreatDoor
namespace Go.Proofs.YtdhinkgjiapigabGreatDoor
open Go.RowKit Go.Shelf
open Classical
attribute [local go_sem] Oper.semAt_some
def zmz (helds:List HeldD) (i:Nat):Bool:=(helds[i]?.map fun h=>h.state != 0).getD false
def za6 (helds:List HeldD) (k:Nat):List Nat:=(List.range k).filter (zmz helds)
theorem zd2 {helds:List HeldD} {i:Nat} {h:HeldD} (hi:helds[i]? = some h):zmz helds i = (h.state != 0):=by rw [zmz,hi]; rfl
theorem zf4 (helds:List HeldD) (k:Nat):za6 helds (k + 1) = za6 helds k ++ if zmz helds k then [k] else []:=by
 rw [za6,List.range_succ,List.filter_append];by_cases h:zmz helds k = true
 ·simp [h,za6]
 ·simp [h,za6]
theorem zhu (helds:List HeldD) {k n:Nat} (h:k ≤ n):za6 helds k <+: za6 helds n:=by
 induction n with
 | zero=>
  obtain rfl:k = 0:=by omega
  exact List.prefix_rfl
 | succ n ih=>
  rcases Nat.lt_or_ge n k with hk | hk
  ·obtain rfl:k = n + 1:=by omega
   exact List.prefix_rfl
  ·rw [zf4]; exact (ih hk).trans (List.prefix_append _ _)
theorem zeu {helds:List HeldD} {k i:Nat} (h:i ∈ za6 helds k):i < k ∧ zmz helds i = true:=by
 simp only [za6,List.mem_filter,List.mem_range] at h; exact h
theorem zq4 {n0:Nat} {w W:World} (h:Below n0 w W):Same (fun b=>b < n0) w W:=fun b hb o=>h.cell (p:=⟨b,o,none⟩) hb
set_option maxHeartbeats 2000000 in
theorem zf5 (ok f1 f2 f3:Value) (w:World) :
  Calls Tryz.prog 112 #[.agg #[ok,f1,f2,f3]] w fun e w'=>e = .returned (.func (.func 153) #[] #[.pointer (some ⟨w.heap.size,0,none⟩)]) ∧ w' = w.alloc (.cells #[ok,f1,f2,f3] 42):=by
 go_enter Tryz.func112,Tryz.ntmps112;go_wp2;go_ret;exact ⟨rfl,rfl⟩
set_option maxRecDepth 100000 in
set_option maxHeartbeats 4000000 in
theorem zd3 (ok f1 f2 f3:Value) (helds:List HeldD) (n0 bF:Nat) (w:World) (hbF:bF < n0) (hn0:n0 ≤ w.heap.size)
  (c0:w.cell? ⟨bF,0,none⟩ = some ok) (c1:w.cell? ⟨bF,1,none⟩ = some f1) (c2:w.cell? ⟨bF,2,none⟩ = some f2) (c3:w.cell? ⟨bF,3,none⟩ = some f3)
  (hf:Helds (fun b=>b < n0) w f3 helds) (hl:helds.length ≤ 1048576) :
  ze4 Tryz.prog 153 #[.pointer (some ⟨bF,0,none⟩)] (fun i:Nat=>#[.int .i64 (i:Int)]) n0 0 (za6 helds helds.length) w:=fun l J Jx W hW hJ hJx hY h0=>by
 have hWn:Below n0 w W:=hW.mono hn0
 have hWs:n0 ≤ W.heap.size:=Nat.le_trans hn0 hW.size
 have KF:=zaa fun (W':World) (h:Below n0 W W')=>hf.keep (Q:=In W') (zq4 (hWn.trans h)) fun b hb=>Nat.lt_of_lt_of_le hb (Nat.le_trans hWs h.size)
 have KC:=zaa fun (W':World) (h:Below n0 W W')=>(⟨((hWn.trans h).cell (p:=⟨bF,0,none⟩) hbF).trans c0,((hWn.trans h).cell (p:=⟨bF,1,none⟩) hbF).trans c1,((hWn.trans h).cell (p:=⟨bF,2,none⟩) hbF).trans c2,((hWn.trans h).cell (p:=⟨bF,3,none⟩) hbF).trans c3⟩:W'.cell? ⟨bF,0,none⟩ = some ok ∧ W'.cell? ⟨bF,1,none⟩ = some f1 ∧ W'.cell? ⟨bF,2,none⟩ = some f2 ∧ W'.cell? ⟨bF,3,none⟩ = some f3)
 obtain ⟨af,cf,hv,-⟩:=hf
 subst hv
 obtain ⟨k0,k1,k2,k3⟩:=KC.out W (Below.refl _ _)
 have HY:=zaa hY
 clear hY c0 c1 c2 c3
 refine callsIn_of_wp Tryz.func153 rfl trivial ?_ rfl
 simp only [Tryz.ntmps153,List.size_toArray,List.length_cons,List.length_nil,Nat.reduceAdd,Nat.reduceSub,Array.replicate_succ,Array.replicate_zero,List.push_toArray,List.append_toArray,List.nil_append,List.cons_append]
 gi_wp2
 gi_loopw [7] (fun i wr=>∃ k:Nat,k ≤ helds.length ∧ i = .int .i64 k ∧ J (za6 helds k) wr ∧ Below n0 W wr) (fun i _=>helds.length - (intOf i).toNat)
 case atStart=>exact ⟨0,Nat.zero_le _,rfl,h0,Below.refl _ _⟩
 case round=>
  obtain ⟨k,hk,rfl,hJs,hnx⟩:=hrel
  by_cases hlt:k < helds.length
  ·obtain ⟨h,hi⟩:=zb4 helds hlt
   obtain ⟨k0,k1,k2,k3⟩:=KC.out wr hnx
   have HI:=zaa (zia ok f1 f2 _ helds k h wr (KF.out wr hnx) hi hl)
   have hB:=zd2 hi
   have hsucc:=zf4 helds k
   rw [hB] at hsucc
   have hlt':(k:Int) < (helds.length:Int):=by omega
   have hJc:=zaa fun (w1:World) (h:Below wr.heap.size wr w1)=>zbh hJ hJs h
   have hnc:=zaa fun (w1:World) (h:Below wr.heap.size wr w1)=>hnx.trans (h.mono (Nat.le_trans hWs hnx.size))
   have hnb:=zaa hnx.size
   clear hJs
   cases hst:(h.state != 0)
   ·rw [hst] at HI hsucc
    have hsucc':za6 helds (k + 1) = za6 helds k:=by rw [hsucc]; simp
    clear hsucc hB hst hi
    gi_wp2_with (refine ⟨trivial,rfl,?_⟩; gi_at_call 139; refine (callsIn_wide.2 HI.out).mono ?_; rintro e w1 ⟨rfl,hb1⟩)
    refine ⟨fun _ h=>(by cases h),?_⟩
    gi_wp2
    go_roundw
    case rel=>exact ⟨k + 1,by omega,by simp,by rw [hsucc']; exact hJc.out _ hb1,hnc.out _ hb1⟩
    case measure=>simp [intOf]; omega
   ·rw [hst] at HI hsucc
    have hsucc':za6 helds (k + 1) = za6 helds k ++ [k]:=by rw [hsucc]; simp
    have hpre:za6 helds k ++ [k] <+: za6 helds helds.length:=by rw [← hsucc']; exact zhu helds hlt
    clear hsucc hB hst hi
    gi_wp2_with (refine ⟨trivial,rfl,?_⟩; gi_at_call 139; refine (callsIn_wide.2 HI.out).mono ?_; rintro e w1 ⟨rfl,hb1⟩; obtain ⟨fn,tmps,assign,body,hy,hR⟩:=HY.out _ k w1 hpre (Nat.le_trans (hnb.out) hb1.size) (hJc.out _ hb1))
    refine ⟨rfl,hR.mono ?_⟩
    rintro e W3 (⟨rfl,hJ3,hk3,-⟩ | ⟨rfl,hJx3,-⟩)
    ·gi_wp2
     go_roundw
     case rel=>exact ⟨k + 1,by omega,by simp,by rw [hsucc']; exact hJ3,(hnc.out _ hb1).trans hk3⟩
     case measure=>simp [intOf]; omega
    ·gi_wp2
     refine bodyPost_ret (results_none rfl _ _ _) rfl ?_
     exact ⟨⟨_,rfl⟩,.inr ⟨_,hpre,hJx3⟩⟩
  ·obtain rfl:k = helds.length:=by omega
   gi_wp2
   go_end0
   exact ⟨⟨_,rfl⟩,.inl hJs⟩
end Go.Proofs.YtdhinkgjiapigabGreatDoor
namespace Go.Proofs.YtdhinkgjiapigabGreatDoor
open Go.RowKit Go.Shelf
attribute [local go_sem] Oper.semAt_some
set_option maxHeartbeats 2000000 in
theorem zeb (gf kf:Nat) (lb recv:Array Value) (w:World) :
  Calls Tryz.prog 111 #[.func (.func gf) #[] lb,.func (.func kf) recv #[]] w fun e w'=>e = .returned (.func (.func 152) #[] #[.pointer (some ⟨w.heap.size,0,none⟩),.pointer (some ⟨w.heap.size + 1,0,none⟩)]) ∧
   w' = (w.alloc (.cells #[.func (.func gf) #[] lb] 125)).alloc (.cells #[.func (.func kf) recv #[]] 128):=by
 go_enter Tryz.func111,Tryz.ntmps111;go_wp2;go_ret;exact ⟨rfl,rfl⟩
theorem Mid.cell {a b:Nat} {W W':World} (h:Mid a b W W') {k o:Nat} (h1:a ≤ k) (h2:k < b):W'.cell? ⟨k,o,none⟩ = W.cell? ⟨k,o,none⟩:=by
 unfold World.cell?;rw [show W'.heap[(⟨k,o,none⟩:Addr).block]? = W.heap[(⟨k,o,none⟩:Addr).block]? from h k h1 h2]
theorem zg4 {α:Type} (p:α → Bool) (l:List α) (x:α):(l ++ [x]).filter p = l.filter p ++ if p x then [x] else []:=by
 rw [List.filter_append];by_cases h:p x = true
 ·simp [h]
 ·simp [h]
theorem zcu {α:Type} (p:α → Bool) {l r:List α} (h:l <+: r):l.filter p <+: r.filter p:=by
 obtain ⟨t,rfl⟩:=h;rw [List.filter_append];exact List.prefix_append _ _
set_option maxRecDepth 100000 in
set_option maxHeartbeats 4000000 in
theorem zc9 (gf kf:Nat) (lb recv:Array Value) (n0 c bV bK:Nat) (xs:List Nat) (keep:Nat → Bool) (w:World) (hbV:bV < n0) (hbK:bK < n0) (hn0:n0 ≤ w.heap.size)
  (eg:∀ args w,(callFunc gf args).run Tryz.prog w = .ok (.enter gf args) w) (ek:∀ args w,(callFunc kf args).run Tryz.prog w = .ok (.enter kf args) w)
  (cV:w.cell? ⟨bV,0,none⟩ = some (.func (.func gf) #[] lb)) (cK:w.cell? ⟨bK,0,none⟩ = some (.func (.func kf) recv #[]))
  (hin:ze4 Tryz.prog gf lb (fun i:Nat=>#[.int .i64 (i:Int)]) n0 c xs w)
  (hkeep:∀ x W,x ∈ xs → Below n0 w W → Calls Tryz.prog kf (recv.push (.int .i64 (x:Int))) W fun e W'=>e = .returned (.bool (keep x)) ∧ Below W.heap.size W W') :
  ze4 Tryz.prog 152 #[.pointer (some ⟨bV,0,none⟩),.pointer (some ⟨bK,0,none⟩)] (fun i:Nat=>#[.int .i64 (i:Int)]) n0 (3 + c) (xs.filter keep) w:=fun l J Jx W hW hJ hJx hY h0=>by
 have hWn:Below n0 w W:=hW.mono hn0
 have hWs:n0 ≤ W.heap.size:=Nat.le_trans hn0 hW.size
 have cV':=(hWn.cell (p:=⟨bV,0,none⟩) hbV).trans cV
 have KK:=zaa fun (W':World) (h:Below n0 w W')=>(h.cell (p:=⟨bK,0,none⟩) hbK).trans cK
 have HY:=zaa hY
 have HK:=zaa hkeep
 have HN:=zaa hin
 clear hY cV cK hkeep hin
 refine callsIn_of_wp_marks Tryz.func152 rfl trivial ?_ rfl
 simp only [Tryz.ntmps152,List.size_toArray,List.length_cons,List.length_nil,Nat.reduceAdd,Nat.reduceSub,Array.replicate_succ,Array.replicate_zero,List.push_toArray,List.append_toArray,List.nil_append,List.cons_append]
 have T1:=zaw W 128 #[.func (.yield l) #[] #[]]
 have cV2:=(T1.below.cell (p:=⟨bV,0,none⟩) (by show bV < _; omega)).trans cV'
 have cY:=T1.cell (j:=0) (i:=0) rfl rfl
 rw [Nat.add_zero] at cY
 have hz:(W.alloc (.cells #[.func (.yield l) #[] #[]] 128)).heap.size = W.heap.size + 1:=by simp
 gi_wp2
 refine zhe (w0:=w) (n0:=n0) (c:=c) rfl eg HN.out (hW.trans (T1.below.mono hW.size)) (by omega) (fun _=>rfl)
  (fun pre Wr=>J (pre.filter keep) Wr ∧ Wr.cell? ⟨W.heap.size,0,none⟩ = some (.func (.yield l) #[] #[]) ∧ Below n0 w Wr) (fun pre Wr=>Jx (pre.filter keep) Wr)
  (fun s A B row hs hg hr=>⟨hJ _ A B row hs.1 hg fun r e=>⟨by have:=(hr r e).1; omega,(hr r e).2⟩,cell_kept hs.2.1 hg fun r e=>(hr r e).2,hs.2.2.grown hg (Nat.le_trans hn0 hs.2.2.size) fun r e=>by have:=(hr r e).1; omega⟩)
  (fun s A B row hs hg hr=>hJx _ A B row hs hg fun r e=>⟨by have:=(hr r e).1; omega,(hr r e).2⟩)
  ⟨zbh hJ h0 T1.below,cY,hWn.trans (T1.below.mono hWs)⟩
  (fun x=>{ tmps:=#[.func (.yield l) #[] #[],.pointer (some ⟨bV,0,none⟩),.pointer (some ⟨bK,0,none⟩),.pointer (some ⟨W.heap.size,0,none⟩),.int .i64 (x:Int),.func (.func gf) #[] lb,.int .i64 (x:Int),undef,undef,undef,undef,undef,undef,undef,undef,undef],defers:=[] }) ?assign ?body ?done ?stop
 case assign=>
  intro lr x Wr K hK
  gi_wp2
  exact hK
 case body=>
  rintro lr pre x Wr hpre hsz ⟨hj,hc,hb⟩
  rw [hz] at hsz
  have kK:=KK.out _ hb
  have hmem:x ∈ xs:=hpre.subset (by simp)
  have hI:=HK.out x Wr hmem hb
  have hfs:=zg4 keep pre x
  have hfp:=zcu keep hpre
  have HJc:=zaa fun (w1:World) (h:Below Wr.heap.size Wr w1)=>zbh hJ hj h
  have Hb:=zaa hb
  have Hc:=zaa hc
  clear hj
  cases hkx:keep x
  ·rw [hkx] at hI hfs
   have HI:=zaa hI
   have hfs':(pre ++ [x]).filter keep = pre.filter keep:=by rw [hfs]; simp
   have HFS:=zaa hfs'
   clear hI hfs hfs' hfp hkx
   gi_wp2
   refine ⟨trivial,rfl,CallsIn.inRound lr ((callsIn_wide.2 HI.out).mono ?_)⟩
   rintro e w1 ⟨rfl,hb1⟩
   gi_wp2
   refine ⟨fun _ h=>(by cases h),?_⟩
   gi_wp2
   have hb1n:Below n0 Wr w1:=hb1.mono (Nat.le_trans hn0 Hb.out.size)
   exact ⟨Mid.call hb1 (by omega),hb1n,by rw [HFS.out]; exact HJc.out _ hb1,(hb1.cell (p:=⟨W.heap.size,0,none⟩) (by show W.heap.size < _; omega)).trans Hc.out,Hb.out.trans hb1n⟩
  ·rw [hkx] at hI hfs
   have HI:=zaa hI
   have hfs':(pre ++ [x]).filter keep = pre.filter keep ++ [x]:=by rw [hfs]; simp
   rw [hfs'] at hfp
   have HFS:=zaa hfs'
   have HFP:=zaa hfp
   clear hI hfs hfs' hfp hkx
   gi_wp2
   refine ⟨trivial,rfl,CallsIn.inRound lr ((callsIn_wide.2 HI.out).mono ?_)⟩
   rintro e w1 ⟨rfl,hb1⟩
   have hb1n:Below n0 Wr w1:=hb1.mono (Nat.le_trans hn0 Hb.out.size)
   have hs1:=hb1.size
   have cY1:=(hb1.cell (p:=⟨W.heap.size,0,none⟩) (by show W.heap.size < _; omega)).trans Hc.out
   obtain ⟨fn,tmps,assign,body,hy,hR⟩:=HY.out _ x w1 HFP.out (by omega) (HJc.out _ hb1)
   gi_wp2
   refine ⟨rfl,RoundIn.mono (F:=Fence.wide.inRound lr) hR ?_⟩
   rintro e W3 (⟨rfl,hJ3,hk3,hm3⟩ | ⟨rfl,hJx3,hm3⟩)
   ·gi_wp2
    exact ⟨(Mid.call hb1 (by omega)).trans (hm3.part (by omega) (by omega)),hb1n.trans hk3,by rw [HFS.out]; exact hJ3,(hm3.cell (Nat.le_refl _) (by omega)).trans cY1,(Hb.out.trans hb1n).trans hk3⟩
   ·gi_wp2
    exact ⟨(Mid.call hb1 (by omega)).trans (hm3.part (by omega) (by omega)),by show Jx _ _; rw [HFS.out]; exact hJx3⟩
 case done=>
  rintro D Wr hD ⟨hj,-,-⟩ hK
  gi_wp2
  refine ⟨by simp,.inl ⟨_,_,rfl,run_takeDeferred hK,?_⟩⟩
  exact ⟨_,results_none rfl _ _ _,⟨_,rfl⟩,.inl (hJ.putObj _ hj (by omega) hK rfl)⟩
 case stop=>
  intro D pre Wr hD hpre hj hK
  gi_wp2
  refine ⟨by simp,.inl ⟨_,_,rfl,run_takeDeferred hK,?_⟩⟩
  exact ⟨_,results_none rfl _ _ _,⟨_,rfl⟩,.inr ⟨_,zcu keep hpre,hJx.putObj _ hj (by omega) hK rfl⟩⟩
end Go.Proofs.YtdhinkgjiapigabGreatDoor

import Derived.Test.YtdhinkgjiapigabGreatDoorRanA
import Derived.Test.YtdhinkgjiapigabGreatDoorCopyA
import Derived.Test.YtdhinkgjiapigabGreatDoorColl
import Derived.RangeFuncBox
import Derived.Maps.AppendAt
import Derived.Lib.AppendZerosOnto
import Derived.Lib.Walk
import Derived.Lib.SliceRun
import Derived.Test.YtdhinkgjiapigabGreatDoorLocksA
import Derived.Test.YtdhinkgjiapigabGreatDoorSpA
namespace Go.Proofs.YtdhinkgjiapigabGreatDoor
open Go.RowKit
theorem zgb {α:Type} {P:Program} {g:Operand} {ps:Array Tmp} {assign body:Code} {Q:Exit → Act → World → Prop} {a:Act} {w w0:World} {gf:Nat} {lb:Array Value} {encs:α → Array Value} {n0 c:Nat} {xs:List α}
  (hg:a.eval g = .func (.func gf) #[] lb) (eg:∀ args w,(callFunc gf args).run P w = .ok (.enter gf args) w) (hseq:ze4 P gf lb encs n0 c xs w0) (hb0:Below w0.heap.size w0 w) (hn:n0 ≤ w.heap.size) (hps:∀ x,(encs x).size = ps.size)
  (I Ix:List α → World → Prop) (hI:OwnFrom w.heap.size I) (hIx:OwnFrom w.heap.size Ix) (h0:I [] w) (Ax:α → Act → World → Prop) (hAx:∀ x a' W o,w.heap.size + 2 ≤ W.heap.size → Ax x a' W → Ax x a' (W.putObj (w.heap.size + 1) o))
  (hassign:∀ (l:Nat) (x:α) (W:World) (K:Act → World → Prop),w.heap.size + 2 + c ≤ W.heap.size → (∀ a' W',Below W.heap.size W W' → Ax x a' W' → K a' W') →
   assign.wpIn (Fence.wide.inRound l) 0 P (Exit.then K (fun _ _ _=>False)) { tmps:=(ps.zip (encs x)).foldl (fun t (p,v)=>t.setIfInBounds p v) a.tmps,defers:=[] } W)
  (hbody:∀ (l:Nat) (pre:List α) (x:α) (W:World),pre ++ [x] <+: xs → w.heap.size + 2 + c ≤ W.heap.size → I pre W → ∀ a',Ax x a' W → body.wpIn (Fence.wide.inRound l) 0 P (zql w.heap.size c n0 I Ix (pre ++ [x]) W) a' W)
  (hdone:∀ (D:Nat) (W:World),w.heap.size ≤ D → I xs W → W.heap[D]? = some (.deferred (some [])) → Q .normal { a with defers:={ target:=.collected D,args:=#[] } :: a.defers } W)
  (hstop:∀ (D:Nat) (pre:List α) (W:World),w.heap.size ≤ D → pre <+: xs → Ix pre W → W.heap[D]? = some (.deferred (some [])) → Code.ret.wpIn Fence.wide 0 P Q { a with defers:={ target:=.collected D,args:=#[] } :: a.defers } W) :
  (Code.rangeFunc g ps assign body).wpIn Fence.wide 0 P Q a w:=by
 refine wpIn_rangeFunc fun fn hfn=>?_
 let rec0:Loop:={ state:=.ready,pending:=none,fn,tmps:=a.tmps,params:=ps,assign,body,defers:=w.heap.size }
 let Fact (r:Loop) (W:World):Prop:=W.heap[w.heap.size]? = some (.deferred (some [])) ∧ W.heap[w.heap.size + 1]? = some (.loop r)
 have factOwn:∀ r s W W' row,Fact r W → W.grownBy W' row → (∀ b,row = some b → w.heap.size + 2 ≤ b) → (fun (_:List α)=>Fact r) s W':=fun r s W W' row hf hgr hr=>
  ⟨(hgr.block _ (Array.getElem?_eq_some_iff.1 hf.1).1 fun e=>by have:=hr _ e.symm; omega).trans hf.1,(hgr.block _ (Array.getElem?_eq_some_iff.1 hf.2).1 fun e=>by have:=hr _ e.symm; omega).trans hf.2⟩
 have factPut:∀ r r' W,Fact r W → Fact r' (W.putObj (w.heap.size + 1) (.loop r')):=fun r r' W hf=>
  ⟨(World.putObj_heap_other (by omega)).trans hf.1,World.putObj_heap_same (Array.getElem?_eq_some_iff.1 hf.2).1⟩
 have factKeep:∀ r W W',Fact r W → Mid w.heap.size (w.heap.size + 2 + c) W W' → Fact r W':=fun r W W' hf hk=>⟨(hk _ (Nat.le_refl _) (by omega)).trans hf.1,(hk _ (by omega) (by omega)).trans hf.2⟩;have putMid:∀ W o,Mid (w.heap.size + 2) (w.heap.size + 2 + c) W (W.putObj (w.heap.size + 1) o):=fun W o k h1 _=>World.putObj_heap_other (by omega)
 have putBelow:∀ r W o,Fact r W → Below n0 W (W.putObj (w.heap.size + 1) o):=fun r W o hf=>
  (Below.refl n0 W).grown (grownBy_putObj' _ _ _) (by have:=(Array.getElem?_eq_some_iff.1 hf.2).1; omega) fun k e=>by cases e; omega
 have ownPut:∀ {K:List α → World → Prop},OwnFrom w.heap.size K → ∀ r s W o,Fact r W → K s W → K s (W.putObj (w.heap.size + 1) o):=fun hK r s W o hf hs=>hK.putObj o hs (by omega) hf.2 rfl;obtain ⟨W1,hW1⟩:∃ W1,W1 = (w.alloc (.deferred (some []))).alloc (.loop rec0):=⟨_,rfl⟩
 have hz1:W1.heap.size = w.heap.size + 2:=by rw [hW1]; simp
 have hF1:Fact rec0 W1:=by
  have h1:=World.alloc_heap_new (w.alloc (.deferred (some []))) (.loop rec0);rw [World.size_alloc] at h1;rw [hW1];exact ⟨(Below.heap_alloc _ _ _ (by simp)).trans (World.alloc_heap_new w _),h1⟩
 have hb1:Below w.heap.size w W1:=by rw [hW1]; exact ((Below.refl _ w).alloc (Nat.le_refl _) _).alloc (by simp) _
 refine ⟨w.heap.size + 1,[{ target:=.collected w.heap.size,args:=#[] }],W1,{ target:=.fn (.func gf) lb,args:=#[.func (.yield (w.heap.size + 1)) #[] #[]] },W1,gf,
  #[.func (.yield (w.heap.size + 1)) #[] #[]] ++ lb,W1,?_,?_,fun _ _=>trivial,?_,fun h=>(by cases h),?_⟩
 ·rw [hW1]; exact run_enterLoop_outer _ _ _ _ _
 ·simp only [resolve,hg];simp [go_sem]
 ·simp [invoke,go_sem,eg]
 refine (hseq (w.heap.size + 1) (fun pre W=>I pre W ∧ Fact rec0 W) (fun pre W=>Ix pre W ∧ Fact { rec0 with state:=.done,pending:=some .ret } W) W1 (hb0.trans (hb1.mono hb0.size))
  (fun s A B row hs hgr hr=>⟨zej hI (by omega) s A B row hs.1 hgr hr,factOwn _ s A B row hs.2 hgr fun b e=>by have:=(hr b e).1; omega⟩)
  (fun s A B row hs hgr hr=>⟨zej hIx (by omega) s A B row hs.1 hgr hr,factOwn _ s A B row hs.2 hgr fun b e=>by have:=(hr b e).1; omega⟩) ?_ ⟨zbh hI h0 hb1,hF1⟩).mono ?_
 ·rintro pre x W hpre hsz ⟨hi,hf⟩;rw [hz1] at hsz ⊢;refine ⟨fn,_,assign,body,run_yield hf.2 (hps x),roundIn_of_wpIn hfn (hassign _ x W _ hsz fun a' Wa hba hax=>?_)⟩;have hfa:Fact rec0 Wa:=⟨(hba.block _ (Array.getElem?_eq_some_iff.1 hf.1).1).trans hf.1,(hba.block _ (Array.getElem?_eq_some_iff.1 hf.2).1).trans hf.2⟩;have hia:=zbh hI hi hba;have hsa:w.heap.size + 2 + c ≤ Wa.heap.size:=Nat.le_trans hsz hba.size;refine ⟨_,run_beginRound hfa.2 rfl,?_⟩;have hf2:=factPut _ { rec0 with state:=.busy } Wa hfa;refine wpIn_mono (hbody _ pre x _ hpre (by simpa using hsa) (ownPut hI _ _ _ _ hfa hia) a' (hAx x a' Wa _ (by omega) hax)) ?_;rintro e a3 W3 hp
  have fin:∀ (jump:Option Code),Mid w.heap.size (w.heap.size + 2 + c) (Wa.putObj (w.heap.size + 1) (.loop { rec0 with state:=.busy })) W3 →
    Fact { rec0 with state:=.busy } W3 ∧ (Instr.endRound (w.heap.size + 1) jump).run P W3 = .ok (.bool jump.isNone) (W3.putObj (w.heap.size + 1) (.loop { rec0 with state:=if jump.isNone then .ready else .done,pending:=jump })) ∧
    Mid (w.heap.size + 2) (w.heap.size + 2 + c) W (W3.putObj (w.heap.size + 1) (.loop { rec0 with state:=if jump.isNone then .ready else .done,pending:=jump })):=fun jump hk=>by
   have hf3:=factKeep _ _ _ hf2 hk;exact ⟨hf3,run_endRound (r:={ rec0 with state:=.busy }) jump hf3.2,(((Mid.call hba hsz).trans (putMid _ _)).trans (hk.part (by omega) (by omega))).trans (putMid _ _)⟩
  cases e with
  | normal=>
   obtain ⟨hk,hb,hi3⟩:=hp;obtain ⟨hf3,hr,hk4⟩:=fin none hk;exact ⟨_,_,hr,.inl ⟨rfl,⟨ownPut hI _ _ _ _ hf3 hi3,factPut _ _ _ hf3⟩,(((hba.mono (by omega)).trans (putBelow _ _ _ hfa)).trans hb).trans (putBelow _ _ _ hf3),hk4⟩⟩
  | ret=>
   obtain ⟨hk,hi3⟩:=hp;obtain ⟨hf3,hr,hk4⟩:=fin (some .ret) hk;exact ⟨_,_,hr,.inr ⟨rfl,⟨ownPut hIx _ _ _ _ hf3 hi3,factPut _ _ _ hf3⟩,hk4⟩⟩
  | exit id=>exact hp.elim
  | goto t=>exact hp.elim
  | panic ch=>exact hp.elim
  | outgrown=>exact hp.elim
 ·rintro e W2 ⟨⟨v,rfl⟩,⟨hi,hf⟩ | ⟨pre,hpre,hi,hf⟩⟩
  ·exact ⟨none,_,run_endLoop hf.2 (by simp [rec0]),hdone _ _ (Nat.le_refl _) (ownPut hI _ _ _ _ hf hi) (factPut _ _ _ hf).1⟩
  ·exact ⟨some .ret,_,run_endLoop hf.2 (by simp),hstop _ pre _ (Nat.le_refl _) hpre (ownPut hIx _ _ _ _ hf hi) (factPut _ _ _ hf).1⟩
end Go.Proofs.YtdhinkgjiapigabGreatDoor
namespace Go.Proofs.YtdhinkgjiapigabGreatDoor
open Go.RowKit Go.Shelf
attribute [local go_sem] Oper.semAt_some
set_option maxHeartbeats 2000000 in
theorem zkv (gf kf:Nat) (lb recv:Array Value) (w:World) :
  Calls Tryz.prog 198 #[.func (.func gf) #[] lb,.func (.func kf) recv #[]] w fun e w'=>e = .returned (.func (.func 228) #[] #[.pointer (some ⟨w.heap.size,0,none⟩),.pointer (some ⟨w.heap.size + 1,0,none⟩)]) ∧
   w' = (w.alloc (.cells #[.func (.func gf) #[] lb] 226)).alloc (.cells #[.func (.func kf) recv #[]] 194):=by
 go_enter Tryz.func198,Tryz.ntmps198;go_wp2;go_ret;exact ⟨rfl,rfl⟩
set_option maxRecDepth 100000 in
set_option maxHeartbeats 4000000 in
theorem zhl (gf kf:Nat) (lb recv:Array Value) (n0 c bV bK:Nat) (xs:List (Int × Int)) (keep:Int × Int → Bool) (w:World) (hbV:bV < n0) (hbK:bK < n0) (hn0:n0 ≤ w.heap.size)
  (eg:∀ args w,(callFunc gf args).run Tryz.prog w = .ok (.enter gf args) w) (ek:∀ args w,(callFunc kf args).run Tryz.prog w = .ok (.enter kf args) w)
  (cV:w.cell? ⟨bV,0,none⟩ = some (.func (.func gf) #[] lb)) (cK:w.cell? ⟨bK,0,none⟩ = some (.func (.func kf) recv #[]))
  (hin:ze4 Tryz.prog gf lb (fun i:Int × Int=>#[.agg #[.int .i64 i.1,.int .i64 i.2]]) n0 c xs w)
  (hkeep:∀ x W,x ∈ xs → Below n0 w W → Calls Tryz.prog kf (recv.push (.agg #[.int .i64 x.1,.int .i64 x.2])) W fun e W'=>e = .returned (.bool (keep x)) ∧ Below W.heap.size W W') :
  ze4 Tryz.prog 228 #[.pointer (some ⟨bV,0,none⟩),.pointer (some ⟨bK,0,none⟩)] (fun i:Int × Int=>#[.agg #[.int .i64 i.1,.int .i64 i.2]]) n0 (3 + c) (xs.filter keep) w:=fun l J Jx W hW hJ hJx hY h0=>by
 have hWn:Below n0 w W:=hW.mono hn0
 have hWs:n0 ≤ W.heap.size:=Nat.le_trans hn0 hW.size
 have cV':=(hWn.cell (p:=⟨bV,0,none⟩) hbV).trans cV
 have KK:=zaa fun (W':World) (h:Below n0 w W')=>(h.cell (p:=⟨bK,0,none⟩) hbK).trans cK
 have HY:=zaa hY
 have HK:=zaa hkeep
 have HN:=zaa hin
 clear hY cV cK hkeep hin
 refine callsIn_of_wp_marks Tryz.func228 rfl trivial ?_ rfl
 simp only [Tryz.ntmps228,List.size_toArray,List.length_cons,List.length_nil,Nat.reduceAdd,Nat.reduceSub,Array.replicate_succ,Array.replicate_zero,List.push_toArray,List.append_toArray,List.nil_append,List.cons_append]
 have T1:=zaw W 194 #[.func (.yield l) #[] #[]]
 have cV2:=(T1.below.cell (p:=⟨bV,0,none⟩) (by show bV < _; omega)).trans cV'
 have cY:=T1.cell (j:=0) (i:=0) rfl rfl
 rw [Nat.add_zero] at cY
 have hz:(W.alloc (.cells #[.func (.yield l) #[] #[]] 194)).heap.size = W.heap.size + 1:=by simp
 gi_wp2
 refine zgb (w0:=w) (n0:=n0) (c:=c) rfl eg HN.out (hW.trans (T1.below.mono hW.size)) (by omega) (fun _=>rfl)
  (fun pre Wr=>J (pre.filter keep) Wr ∧ Wr.cell? ⟨W.heap.size,0,none⟩ = some (.func (.yield l) #[] #[]) ∧ Below n0 w Wr) (fun pre Wr=>Jx (pre.filter keep) Wr)
  (fun s A B row hs hg hr=>⟨hJ _ A B row hs.1 hg fun r e=>⟨by have:=(hr r e).1; omega,(hr r e).2⟩,cell_kept hs.2.1 hg fun r e=>(hr r e).2,hs.2.2.grown hg (Nat.le_trans hn0 hs.2.2.size) fun r e=>by have:=(hr r e).1; omega⟩)
  (fun s A B row hs hg hr=>hJx _ A B row hs hg fun r e=>⟨by have:=(hr r e).1; omega,(hr r e).2⟩)
  ⟨zbh hJ h0 T1.below,cY,hWn.trans (T1.below.mono hWs)⟩
  (fun x a' Wr=>∃ Bx,W.heap.size + 1 + 2 ≤ Bx ∧ Bx < Wr.heap.size ∧ Wr.cell? ⟨Bx,0,none⟩ = some (.int .i64 x.1) ∧ Wr.cell? ⟨Bx,1,none⟩ = some (.int .i64 x.2) ∧
   a' = { tmps:=#[.func (.yield l) #[] #[],.pointer (some ⟨bV,0,none⟩),.pointer (some ⟨bK,0,none⟩),.pointer (some ⟨W.heap.size,0,none⟩),.pointer (some ⟨Bx,0,none⟩),.func (.func gf) #[] lb,.agg #[.int .i64 x.1,.int .i64 x.2],undef,undef,undef,undef,undef,undef,undef,undef,undef],defers:=[] })
  (fun x a' Wr o hsz ⟨Bx,h1,h2,h3,h4,h5⟩=>by
   rw [hz] at hsz
   have hm:Mid Bx (Bx + 1) Wr (Wr.putObj ((W.alloc (.cells #[.func (.yield l) #[] #[]] 194)).heap.size + 1) o):=fun k k1 k2=>World.putObj_heap_other (by omega)
   exact ⟨Bx,h1,by simpa using h2,(hm.cell (Nat.le_refl _) (by omega)).trans h3,(hm.cell (Nat.le_refl _) (by omega)).trans h4,h5⟩)
  ?assign ?body ?done ?stop
 case assign=>
  intro lr x Wr K hsz hK
  rw [hz] at hsz
  have TX:=zaw Wr 175 #[.int .i64 x.1,.int .i64 x.2]
  have x0:=TX.cell (j:=0) (i:=0) rfl rfl
  have x1:=TX.cell (j:=0) (i:=1) rfl rfl
  rw [Nat.add_zero] at x0 x1
  have HTX:=zaa TX.below
  have X0:=zaa x0
  have X1:=zaa x1
  clear TX x0 x1
  gi_wp2
  exact hK _ _ HTX.out ⟨Wr.heap.size,by omega,by simp,X0.out,X1.out,rfl⟩
 case body=>
  rintro lr pre x Wr hpre hsz ⟨hj,hc,hb⟩ a' ⟨Bx,hBx1,hBx2,x0,x1,rfl⟩
  rw [hz] at hsz
  have kK:=KK.out _ hb
  have hmem:x ∈ xs:=hpre.subset (by simp)
  have hI:=HK.out x Wr hmem hb
  have hfs:=zg4 keep pre x
  have hfp:=zcu keep hpre
  have HJc:=zaa fun (w1:World) (h:Below Wr.heap.size Wr w1)=>zbh hJ hj h
  have Hb:=zaa hb
  have Hc:=zaa hc
  clear hj
  cases hkx:keep x
  ·rw [hkx] at hI hfs
   have HI:=zaa hI
   have hfs':(pre ++ [x]).filter keep = pre.filter keep:=by rw [hfs]; simp
   have HFS:=zaa hfs'
   clear hI hfs hfs' hfp hkx
   gi_wp2
   refine ⟨trivial,rfl,CallsIn.inRound lr ((callsIn_wide.2 HI.out).mono ?_)⟩
   rintro e w1 ⟨rfl,hb1⟩
   gi_wp2
   refine ⟨fun _ h=>(by cases h),?_⟩
   gi_wp2
   have hb1n:Below n0 Wr w1:=hb1.mono (Nat.le_trans hn0 Hb.out.size)
   exact ⟨Mid.call hb1 (by omega),hb1n,by rw [HFS.out]; exact HJc.out _ hb1,(hb1.cell (p:=⟨W.heap.size,0,none⟩) (by show W.heap.size < _; omega)).trans Hc.out,Hb.out.trans hb1n⟩
  ·rw [hkx] at hI hfs
   have HI:=zaa hI
   have hfs':(pre ++ [x]).filter keep = pre.filter keep ++ [x]:=by rw [hfs]; simp
   rw [hfs'] at hfp
   have HFS:=zaa hfs'
   have HFP:=zaa hfp
   clear hI hfs hfs' hfp hkx
   gi_wp2
   refine ⟨trivial,rfl,CallsIn.inRound lr ((callsIn_wide.2 HI.out).mono ?_)⟩
   rintro e w1 ⟨rfl,hb1⟩
   have hb1n:Below n0 Wr w1:=hb1.mono (Nat.le_trans hn0 Hb.out.size)
   have hs1:=hb1.size
   have x0':=(hb1.cell (p:=⟨Bx,0,none⟩) hBx2).trans x0
   have x1':=(hb1.cell (p:=⟨Bx,1,none⟩) hBx2).trans x1
   have cY1:=(hb1.cell (p:=⟨W.heap.size,0,none⟩) (by show W.heap.size < _; omega)).trans Hc.out
   obtain ⟨fn,tmps,assign,body,hy,hR⟩:=HY.out _ x w1 HFP.out (by omega) (HJc.out _ hb1)
   gi_wp2
   refine ⟨rfl,RoundIn.mono (F:=Fence.wide.inRound lr) hR ?_⟩
   rintro e W3 (⟨rfl,hJ3,hk3,hm3⟩ | ⟨rfl,hJx3,hm3⟩)
   ·gi_wp2
    exact ⟨(Mid.call hb1 (by omega)).trans (hm3.part (by omega) (by omega)),hb1n.trans hk3,by rw [HFS.out]; exact hJ3,(hm3.cell (Nat.le_refl _) (by omega)).trans cY1,(Hb.out.trans hb1n).trans hk3⟩
   ·gi_wp2
    exact ⟨(Mid.call hb1 (by omega)).trans (hm3.part (by omega) (by omega)),by show Jx _ _; rw [HFS.out]; exact hJx3⟩
 case done=>
  rintro D Wr hD ⟨hj,-,-⟩ hK
  gi_wp2
  refine ⟨by simp,.inl ⟨_,_,rfl,run_takeDeferred hK,?_⟩⟩
  exact ⟨_,results_none rfl _ _ _,⟨_,rfl⟩,.inl (hJ.putObj _ hj (by omega) hK rfl)⟩
 case stop=>
  intro D pre Wr hD hpre hj hK
  gi_wp2
  refine ⟨by simp,.inl ⟨_,_,rfl,run_takeDeferred hK,?_⟩⟩
  exact ⟨_,results_none rfl _ _ _,⟨_,rfl⟩,.inr ⟨_,zcu keep hpre,hJx.putObj _ hj (by omega) hK rfl⟩⟩
end Go.Proofs.YtdhinkgjiapigabGreatDoor
namespace Go.Proofs.YtdhinkgjiapigabGreatDoor
open Go.RowKit Go.Shelf
open Classical
attribute [local go_sem] Oper.semAt_some
theorem zku {α:Type} {l:List α} {k:Nat} {y:α} (h:l[k]? = some y):l.take (k + 1) = l.take k ++ [y]:=by rw [List.take_add_one,h]; rfl
set_option maxHeartbeats 2000000 in
theorem zjt (a:Option Addr) (n c:Nat) (w:World) :
  Calls Tryz.prog 205 #[.slice a n c] w fun e w'=>e = .returned (.func (.func 234) #[] #[.pointer (some ⟨w.heap.size,0,none⟩)]) ∧ w' = w.alloc (.cells #[.slice a n c] 22):=by
 go_enter Tryz.func205,Tryz.ntmps205;go_wp2;go_ret;exact ⟨rfl,rfl⟩
set_option maxRecDepth 100000 in
set_option maxHeartbeats 4000000 in
theorem zgl (sv:Value) (xs:List Nat) (n0 bS:Nat) (w:World) (hbS:bS < n0) (hn0:n0 ≤ w.heap.size) (cS:w.cell? ⟨bS,0,none⟩ = some sv) (hI:Ints (fun b=>b < n0) w sv (xs.map fun i:Nat=>(i:Int))) (hl:xs.length ≤ 1048576) :
  ze4 Tryz.prog 234 #[.pointer (some ⟨bS,0,none⟩)] (fun i:Nat=>#[.int .i64 (i:Int)]) n0 0 xs w:=fun l J Jx W hW hJ hJx hY h0=>by
 have hWn:Below n0 w W:=hW.mono hn0
 have hWs:n0 ≤ W.heap.size:=Nat.le_trans hn0 hW.size
 have k0:=(hWn.cell (p:=⟨bS,0,none⟩) hbS).trans cS
 obtain ⟨a,cap,rfl,hc⟩:=hI
 rw [List.length_map] at k0 hc
 have HC:=zaa hc
 have HY:=zaa hY
 clear hY cS hc
 refine callsIn_of_wp Tryz.func234 rfl trivial ?_ rfl
 simp only [Tryz.ntmps234,List.size_toArray,List.length_cons,List.length_nil,Nat.reduceAdd,Nat.reduceSub,Array.replicate_succ,Array.replicate_zero,List.push_toArray,List.append_toArray,List.nil_append,List.cons_append]
 gi_wp2
 gi_loopw [7] (fun i wr=>∃ k:Nat,k ≤ xs.length ∧ i = .int .i64 k ∧ J (xs.take k) wr ∧ Below n0 W wr) (fun i _=>xs.length - (intOf i).toNat)
 case atStart=>exact ⟨0,Nat.zero_le _,rfl,by simpa using h0,Below.refl _ _⟩
 case round=>
  obtain ⟨k,hk,rfl,hJs,hnx⟩:=hrel
  by_cases hlt:k < xs.length
  ·obtain z | ⟨b,off,rfl,hb0,hcc⟩:=HC.out
   ·omega
   obtain ⟨y,hy⟩:∃ y,xs[k]? = some y:=⟨_,List.getElem?_eq_getElem hlt⟩
   have g0:=(hnx.cell (p:=⟨b,off + k,none⟩) hb0).trans ((hWn.cell (p:=⟨b,off + k,none⟩) hb0).trans (hcc k hlt y (by rw [List.getElem?_map,hy]; rfl)))
   have hsucc:=zku hy
   have hpre:xs.take k ++ [y] <+: xs:=by rw [← hsucc]; exact List.take_prefix _ _
   have hlt':(k:Int) < (xs.length:Int):=by omega
   obtain ⟨fn,tmps,assign,body,hyy,hR⟩:=HY.out _ y wr hpre (Nat.le_trans (Nat.le_refl _) hnx.size) hJs
   have HP:=zaa hpre
   have HSU:=zaa hsucc
   clear hcc hJs hpre hsucc hy
   gi_wp2
   refine ⟨rfl,hR.mono ?_⟩
   rintro e W3 (⟨rfl,hJ3,hk3,-⟩ | ⟨rfl,hJx3,-⟩)
   ·gi_wp2
    go_roundw
    case rel=>exact ⟨k + 1,by omega,by simp,by rw [HSU.out]; exact hJ3,hnx.trans hk3⟩
    case measure=>simp [intOf]; omega
   ·gi_wp2
    refine bodyPost_ret (results_none rfl _ _ _) rfl ?_
    exact ⟨⟨_,rfl⟩,.inr ⟨_,HP.out,hJx3⟩⟩
  ·obtain rfl:k = xs.length:=by omega
   rw [List.take_length] at hJs
   gi_wp2
   go_end0
   exact ⟨⟨_,rfl⟩,.inl hJs⟩
set_option maxHeartbeats 2000000 in
theorem zju (a:Option Addr) (n c:Nat) (w:World) :
  Calls Tryz.prog 229 #[.slice a n c] w fun e w'=>e = .returned (.func (.func 256) #[] #[.pointer (some ⟨w.heap.size,0,none⟩)]) ∧ w' = w.alloc (.cells #[.slice a n c] 120):=by
 go_enter Tryz.func229,Tryz.ntmps229;go_wp2;go_ret;exact ⟨rfl,rfl⟩
set_option maxRecDepth 100000 in
set_option maxHeartbeats 4000000 in
theorem zgm (sv:Value) (xs:List (Int × Int)) (n0 bS:Nat) (w:World) (hbS:bS < n0) (hn0:n0 ≤ w.heap.size) (cS:w.cell? ⟨bS,0,none⟩ = some sv) (hI:Lies (fun b=>b < n0) w sv xs) (hl:xs.length ≤ 1048576) :
  ze4 Tryz.prog 256 #[.pointer (some ⟨bS,0,none⟩)] (fun i:Int × Int=>#[.agg #[.int .i64 i.1,.int .i64 i.2]]) n0 0 xs w:=fun l J Jx W hW hJ hJx hY h0=>by
 have hWn:Below n0 w W:=hW.mono hn0
 have hWs:n0 ≤ W.heap.size:=Nat.le_trans hn0 hW.size
 have k0:=(hWn.cell (p:=⟨bS,0,none⟩) hbS).trans cS
 obtain ⟨a,cap,rfl,hc⟩:=hI
 have HC:=zaa hc
 have HY:=zaa hY
 clear hY cS hc
 refine callsIn_of_wp Tryz.func256 rfl trivial ?_ rfl
 simp only [Tryz.ntmps256,List.size_toArray,List.length_cons,List.length_nil,Nat.reduceAdd,Nat.reduceSub,Array.replicate_succ,Array.replicate_zero,List.push_toArray,List.append_toArray,List.nil_append,List.cons_append]
 gi_wp2
 gi_loopw [7] (fun i wr=>∃ k:Nat,k ≤ xs.length ∧ i = .int .i64 k ∧ J (xs.take k) wr ∧ Below n0 W wr) (fun i _=>xs.length - (intOf i).toNat)
 case atStart=>exact ⟨0,Nat.zero_le _,rfl,by simpa using h0,Below.refl _ _⟩
 case round=>
  obtain ⟨k,hk,rfl,hJs,hnx⟩:=hrel
  by_cases hlt:k < xs.length
  ·obtain z | ⟨b,off,rfl,hb0,hcc⟩:=HC.out
   ·omega
   obtain ⟨y,hy⟩:∃ y,xs[k]? = some y:=⟨_,List.getElem?_eq_getElem hlt⟩
   have g0:=(hnx.cell (p:=⟨b,off + k * 2,none⟩) hb0).trans ((hWn.cell (p:=⟨b,off + k * 2,none⟩) hb0).trans (hcc k hlt y hy).1)
   have g1:=(hnx.cell (p:=⟨b,off + k * 2 + 1,none⟩) hb0).trans ((hWn.cell (p:=⟨b,off + k * 2 + 1,none⟩) hb0).trans (hcc k hlt y hy).2)
   have TX:=zaw wr 175 #[.int .i64 y.1,.int .i64 y.2]
   have x0:=TX.cell (j:=0) (i:=0) rfl rfl
   have x1:=TX.cell (j:=0) (i:=1) rfl rfl
   rw [Nat.add_zero] at x0 x1
   have hba:=TX.below
   have HBA:=zaa hba
   have hsucc:=zku hy
   have hpre:xs.take k ++ [y] <+: xs:=by rw [← hsucc]; exact List.take_prefix _ _
   have hlt':(k:Int) < (xs.length:Int):=by omega
   obtain ⟨fn,tmps,assign,body,hyy,hR⟩:=HY.out _ y _ hpre (Nat.le_trans hnx.size hba.size) (zbh hJ hJs hba)
   have HP:=zaa hpre
   have HSU:=zaa hsucc
   clear hcc hJs hpre hsucc hy TX hba
   gi_wp2
   refine ⟨rfl,hR.mono ?_⟩
   rintro e W3 (⟨rfl,hJ3,hk3,-⟩ | ⟨rfl,hJx3,-⟩)
   ·gi_wp2
    go_roundw
    case rel=>exact ⟨k + 1,by omega,by simp,by rw [HSU.out]; exact hJ3,(hnx.trans (HBA.out.mono (Nat.le_trans hWs hnx.size))).trans hk3⟩
    case measure=>simp [intOf]; omega
   ·gi_wp2
    refine bodyPost_ret (results_none rfl _ _ _) rfl ?_
    exact ⟨⟨_,rfl⟩,.inr ⟨_,HP.out,hJx3⟩⟩
  ·obtain rfl:k = xs.length:=by omega
   rw [List.take_length] at hJs
   gi_wp2
   go_end0
   exact ⟨⟨_,rfl⟩,.inl hJs⟩
end Go.Proofs.YtdhinkgjiapigabGreatDoor
namespace Go.Proofs.YtdhinkgjiapigabGreatDoor
open Go.RowKit Go.Shelf
attribute [local go_sem] Oper.semAt_some
theorem zes (l:List (Int × Int)) (x:Int × Int):zau (l ++ [x]) = zau l ++ [.int .i64 x.1,.int .i64 x.2]:=by simp [zau]
set_option maxRecDepth 100000 in
set_option maxHeartbeats 4000000 in
theorem zgj (gf:Nat) (lb:Array Value) (n0 c:Nat) (xs:List (Int × Int)) (w:World) (eg:∀ args w,(callFunc gf args).run Tryz.prog w = .ok (.enter gf args) w) (hn0:n0 ≤ w.heap.size) (hN:xs.length ≤ 1048576)
  (hin:ze4 Tryz.prog gf lb (fun i:Int × Int=>#[.agg #[.int .i64 i.1,.int .i64 i.2]]) n0 c xs w) :
  Calls Tryz.prog 227 #[.slice none 0 0,.func (.func gf) #[] lb] w fun e w'=>∃ v,e = .returned v ∧ Below w.heap.size w w' ∧ w'.ownsRow w.heap.size 175 2 v xs.length (zau xs):=by
 obtain ⟨i0,hi,hz0,hz1,hz2⟩:=info_parts Tryz.infoLie;have HN:=zaa hin;clear hin;refine (callsIn_wide (n:=0)).1 (callsIn_of_wp_marks Tryz.func227 rfl trivial ?_ rfl);simp only [Tryz.ntmps227,List.size_toArray,List.length_cons,List.length_nil,Nat.reduceAdd,Nat.reduceSub,Array.replicate_succ,Array.replicate_zero,List.push_toArray,List.append_toArray,List.nil_append,List.cons_append]
 gi_wp2
 obtain ⟨w1,hw1⟩:∃ w1,w1 = w.alloc (.cells #[.slice none 0 0] 120):=⟨_,rfl⟩;rw [← hw1]
 have hz:w1.heap.size = w.heap.size + 1:=by rw [hw1]; simp
 have hb1:Below w.heap.size w w1:=by rw [hw1]; exact zab _ _
 have hbx:Boxed w1 w.heap.size 120 (.slice none 0 0):=by rw [hw1]; exact Boxed.new w _ _
 clear hw1
 refine zgb (w0:=w) (n0:=n0) (c:=c) rfl eg HN.out hb1 (by omega) (fun _=>rfl)
  (fun pre W=>(∃ v,Boxed W w.heap.size 120 v ∧ W.ownsRow (w1.heap.size + 2 + c) 175 2 v pre.length (zau pre) ∧ True) ∧ Below w.heap.size w W) (fun _ _=>False)
  (fun s A B row hs hg hr=>⟨holdsRow_own _ w.heap.size 120 175 2 (fun pre:List (Int × Int)=>pre.length) zau (fun _ _=>True) s A B row hs.1 hg fun r e=>(hr r e).2,hs.2.grown hg hs.2.size fun r e=>by have:=(hr r e).1; omega⟩)
  (fun _ _ _ _ hs _ _=>hs)
  ⟨⟨_,hbx,World.ownsRow_nil _ _ _ _,trivial⟩,hb1⟩
  (fun x a' Wr=>∃ Bx,w1.heap.size + 2 + c ≤ Bx ∧ Bx < Wr.heap.size ∧ Wr.heap[Bx]? = some (.cells #[.int .i64 x.1,.int .i64 x.2] 175 (0,0)) ∧
   a' = { tmps:=#[.slice none 0 0,.func (.func gf) #[] lb,.pointer (some ⟨w.heap.size,0,none⟩),undef,.slice none 0 0,.pointer (some ⟨Bx,0,none⟩),.func (.func gf) #[] lb,.agg #[.int .i64 x.1,.int .i64 x.2],undef,undef,undef,undef,undef],defers:=[] })
  (fun x a' Wr o hsz ⟨Bx,h1,h2,h3,h5⟩=>⟨Bx,h1,by simpa using h2,(World.putObj_heap_other (by omega)).trans h3,h5⟩)
  ?assign ?body ?done ?stop
 case assign=>
  intro lr x Wr K hsz hK
  gi_wp2
  exact hK _ _ (zab _ _) ⟨Wr.heap.size,hsz,by simp,World.alloc_heap_new Wr _,rfl⟩
 case body=>
  rintro lr pre x Wr hpre hsz ⟨⟨v,hv,hrow,-⟩,hB⟩ a' ⟨Bx,hBx1,hBx2,hBx3,rfl⟩
  have x0:Wr.cell? ⟨Bx,0,none⟩ = some (.int .i64 x.1):=by simp [World.cell?,hBx3]
  have x1:Wr.cell? ⟨Bx,1,none⟩ = some (.int .i64 x.2):=by simp [World.cell?,hBx3]
  have HX3:=zaa hBx3;clear hBx3;have hc0:=hv.cell
  have hlen:pre.length + 1 ≤ xs.length:=by have:=hpre.length_le; simpa using this
  have HR:=zaa hrow;have HV:=zaa hv
  have hm1:pre.length + 1 ≤ maxLen:=by unfold maxLen; omega
  have hm2:(pre.length + 1) * 16 ≤ 140737488355328:=by omega
  have hn2:∀ j u,([.int .i64 x.1,.int .i64 x.2]:List Value)[j]? = some u → (Wr.alloc (.cells #[.int .i64 x.1,.int .i64 x.2] 175)).cell? ((⟨Wr.heap.size,0,none⟩:Addr).add j) = some u:=fun j u hj=>by
   rw [zbp,Nat.zero_add];have hj2:j < 2:=(List.getElem?_eq_some_iff.1 hj).1;rw [(zak Wr 175 #[.int .i64 x.1,.int .i64 x.2]).cell (by simpa using hj2)];rcases Nat.lt_or_ge j 1 with h | h
   ·obtain rfl:j = 0:=by omega
    exact hj
   ·obtain rfl:j = 1:=by omega
    exact hj
  have HN2:=zaa hn2
  have HN1:Hid (∀ u ∈ ([.int .i64 x.1,.int .i64 x.2]:List Value),u.oneCell' = true):=by
   intro u hu;simp at hu
   rcases hu with rfl | rfl <;> rfl
  clear hrow hv hn2
  gi_wp2_with (gi_at_builtin; refine wpListIn_append_own _ rfl _ _ 120 rfl (w1.heap.size + 2 + c) 175 i0 (.agg #[.int .i64 0,.int .i64 0]) 2 16 Tryz.underlying120 hi hz0 hz1 hz2 rfl (by decide) _ _ _ rfl (HR.out.alloc _) ⟨Wr.heap.size,0,none⟩ 1 1 [.int .i64 x.1,.int .i64 x.2] rfl rfl HN2.out HN1.out hm1 hm2 (by simp; omega) ?_; intro v' w2 hown' hgrow _; obtain ⟨g',cap',rfl⟩:=ownsRow_succ hown'; have hv1:=(HV.out.alloc _).kept hgrow (HV.out.not_row (by decide) HR.out); have hc1:=hv1.cell; have hf1:=hv1.frozen)
  have hblk:∀ k,v.ownBlock = some k → w1.heap.size + 2 + c ≤ k:=fun k hk=>(zat HR.out hk).1;refine ⟨fun k h1 h2=>?_,?_,⟨_,hv1.set _,?_,trivial⟩,?_⟩
  ·refine (Below.heap_setCell _ _ _ k (by show k ≠ w.heap.size; omega)).trans ((hgrow.block k (by simp; omega) fun e=>by have:=hblk k e.symm; omega).trans (Below.heap_alloc _ _ _ (by omega)))
  ·exact (((Below.refl n0 Wr).alloc (by omega) _).grown hgrow (by simp; omega) fun k e=>by have:=hblk k e; omega).setCell (p:=⟨w.heap.size,0,none⟩) hn0 _
  ·rw [zes,List.length_append];exact hown'.kept (grownBy_setCell' w2 w.heap.size _) (.inr (hv1.not_row (by decide) hown').symm)
  ·exact ((hB.alloc hB.size _).grown hgrow (by simp; have:=hB.size; omega) fun k e=>by have:=hblk k e; omega).setCell (p:=⟨w.heap.size,0,none⟩) (Nat.le_refl _) _
 case done=>
  rintro D Wr hD ⟨⟨v,hv,hrow,-⟩,hB⟩ hK;have hc0:=hv.cell
  gi_wp2
  refine ⟨by simp,.inl ⟨_,_,rfl,run_takeDeferred hK,?_⟩⟩;exact ⟨_,results_tmp rfl _ _ _,v,rfl,hB.trans (belowK_b (w:=w) (Nat.le_refl _) Wr D _ _ (by omega) hK rfl rfl),zb5 (ownsRow_putObj hrow _ hK rfl) (by omega)⟩
 case stop=>
  intro D pre Wr hD hpre hf hK;exact hf.elim
set_option maxHeartbeats 1000000 in
theorem zht (gf:Nat) (lb:Array Value) (n0 c:Nat) (xs:List (Int × Int)) (w:World) (eg:∀ args w,(callFunc gf args).run Tryz.prog w = .ok (.enter gf args) w) (hn0:n0 ≤ w.heap.size) (hN:xs.length ≤ 1048576)
  (hin:ze4 Tryz.prog gf lb (fun i:Int × Int=>#[.agg #[.int .i64 i.1,.int .i64 i.2]]) n0 c xs w) :
  Calls Tryz.prog 197 #[.func (.func gf) #[] lb] w fun e w'=>∃ v,e = .returned v ∧ Below w.heap.size w w' ∧ w'.ownsRow w.heap.size 175 2 v xs.length (zau xs):=by
 have HC:=zaa (zgj gf lb n0 c xs w eg hn0 hN hin);clear hin;go_enter Tryz.func197,Tryz.ntmps197
 go_wp2_with fail
 refine HC.out.mono ?_;rintro e w1 ⟨v,rfl,hb,hrow⟩;have HB:=zaa hb;have HR:=zaa hrow;clear hb hrow;go_wp2;go_ret;exact ⟨v,rfl,HB.out,HR.out⟩
end Go.Proofs.YtdhinkgjiapigabGreatDoor
namespace Go.Proofs.YtdhinkgjiapigabGreatDoor
open Go.RowKit Go.Shelf Go.Lib
set_option maxRecDepth 100000 in
set_option maxHeartbeats 4000000 in
theorem zld (n:Nat) (w:World) (hn:n ≤ 2097152) :
  Calls Tryz.prog 235 #[.slice none 0 0,.int .i64 (n:Int)] w fun e w'=>∃ v,e = .returned v ∧ Below w.heap.size w w' ∧ w'.ownsRow w.heap.size 3 1 v 0 []:=by
 obtain ⟨i0,hi,hz0,hz1,hz2⟩:=info_parts Tryz.infoInt;rcases Nat.eq_zero_or_pos n with e | e
 ·subst e;go_enter Tryz.func235,Tryz.ntmps235;go_wp2;go_ret;exact ⟨_,rfl,Below.refl _ _,World.ownsRow_nil _ _ _ _⟩
 ·have hrz:∀ ty,(Builtin.append_ #[22,3] ty #[.slice none 0 0,.int .i64 (n:Int)]).run Tryz.prog w =
    .ok (.slice (some ⟨w.heap.size,0,none⟩) n (grownCap w n 0 3)) (w.drew.alloc (.cells ((#[]:Array Value) ++ Builtin.zeroCells (.int .i64 0:Value).cells n ++ Builtin.zeroCells (.int .i64 0:Value).cells (grownCap w n 0 3 - n)) 3)):=fun ty=>by
   have h:=Lib.run_append_grow_zeros w 22 3 ty 3 i0 _ .i64 .i64 Tryz.underlying22 Tryz.underlying3 hi hz0 none 0 0 [] (run_firstCells_none w.drew i0.size 0 0 0) n e (by rw [hz1]; decide) (by omega) (by omega) (by rw [hz2]; omega) (by rw [hz2,Nat.zero_add]; exact growslice_fits (by omega) (by omega));rw [Nat.zero_add] at h;exact h
  have hGn:n ≤ grownCap w n 0 3:=grownCap_ge w _ _ _;have hG63:grownCap w n 0 3 ≤ maxLen:=grownCap_le_maxLen w n 0 3 (by unfold maxLen; omega);obtain ⟨G,hG⟩:∃ G,G = grownCap w n 0 3:=⟨_,rfl⟩;rw [← hG] at hrz hGn hG63
  have hG9:G ≤ 9223372036854775807:=by unfold maxLen at hG63; omega
  clear hG hi hz0 hz1 hz2 i0;obtain ⟨cur,hcur⟩:∃ cur,cur = (#[]:Array Value) ++ Builtin.zeroCells (.int .i64 0:Value).cells n ++ Builtin.zeroCells (.int .i64 0:Value).cells (G - n):=⟨_,rfl⟩;rw [← hcur] at hrz
  have hcs:cur.size = G * 1:=by
   have h1:(.int .i64 0:Value).cells.size = 1:=rfl;rw [hcur]; simp [Builtin.zeroCells,h1]; omega
  have HCS:=zaa hcs;have HG63:=zaa hG63;clear hcur hcs hG63;go_enter Tryz.func235,Tryz.ntmps235
  go_wp2_with (at_builtin; refine Lib.wpList_append_run _ rfl _ _ _ _ rfl _ _ rfl rfl _ _ (hrz _) ?_)
  all_goals
   go_ret;refine ⟨_,rfl,(Below.refl _ _).drew.alloc (Nat.le_refl _) _,rfl,.inr ⟨w.heap.size,G,cur,rfl,Nat.le_refl _,World.alloc_heap_new w.drew _,by omega,HG63.out,HCS.out,by simp⟩⟩
set_option maxRecDepth 100000 in
set_option maxHeartbeats 4000000 in
theorem zle (n:Nat) (w:World) (hn:n ≤ 2097152) :
  Calls Tryz.prog 257 #[.slice none 0 0,.int .i64 (n:Int)] w fun e w'=>∃ v,e = .returned v ∧ Below w.heap.size w w' ∧ w'.ownsRow w.heap.size 175 2 v 0 []:=by
 obtain ⟨i0,hi,hz0,hz1,hz2⟩:=info_parts Tryz.infoLie;rcases Nat.eq_zero_or_pos n with e | e
 ·subst e;go_enter Tryz.func257,Tryz.ntmps257;go_wp2;go_ret;exact ⟨_,rfl,Below.refl _ _,World.ownsRow_nil _ _ _ _⟩
 ·have hrz:∀ ty,(Builtin.append_ #[120,3] ty #[.slice none 0 0,.int .i64 (n:Int)]).run Tryz.prog w =
    .ok (.slice (some ⟨w.heap.size,0,none⟩) n (grownCap w n 0 175)) (w.drew.alloc (.cells ((#[]:Array Value) ++ Builtin.zeroCells (.agg #[.int .i64 0,.int .i64 0]:Value).cells n ++ Builtin.zeroCells (.agg #[.int .i64 0,.int .i64 0]:Value).cells (grownCap w n 0 175 - n)) 175)):=fun ty=>by
   have h:=Lib.run_append_grow_zeros w 120 3 ty 175 i0 _ .i64 .i64 Tryz.underlying120 Tryz.underlying3 hi hz0 none 0 0 [] (run_firstCells_none w.drew i0.size 0 0 0) n e (by rw [hz1]; decide) (by omega) (by omega) (by rw [hz2]; omega) (by rw [hz2,Nat.zero_add]; exact growslice_fits (by omega) (by omega));rw [Nat.zero_add] at h;exact h
  have hGn:n ≤ grownCap w n 0 175:=grownCap_ge w _ _ _;have hG63:grownCap w n 0 175 ≤ maxLen:=grownCap_le_maxLen w n 0 175 (by unfold maxLen; omega);obtain ⟨G,hG⟩:∃ G,G = grownCap w n 0 175:=⟨_,rfl⟩;rw [← hG] at hrz hGn hG63
  have hG9:G ≤ 9223372036854775807:=by unfold maxLen at hG63; omega
  clear hG hi hz0 hz1 hz2 i0;obtain ⟨cur,hcur⟩:∃ cur,cur = (#[]:Array Value) ++ Builtin.zeroCells (.agg #[.int .i64 0,.int .i64 0]:Value).cells n ++ Builtin.zeroCells (.agg #[.int .i64 0,.int .i64 0]:Value).cells (G - n):=⟨_,rfl⟩;rw [← hcur] at hrz
  have hcs:cur.size = G * 2:=by
   have h1:(.agg #[.int .i64 0,.int .i64 0]:Value).cells.size = 2:=rfl;rw [hcur]; simp [Builtin.zeroCells,h1]; omega
  have HCS:=zaa hcs;have HG63:=zaa hG63;clear hcur hcs hG63;go_enter Tryz.func257,Tryz.ntmps257
  go_wp2_with (at_builtin; refine Lib.wpList_append_run _ rfl _ _ _ _ rfl _ _ rfl rfl _ _ (hrz _) ?_)
  all_goals
   go_ret;refine ⟨_,rfl,(Below.refl _ _).drew.alloc (Nat.le_refl _) _,rfl,.inr ⟨w.heap.size,G,cur,rfl,Nat.le_refl _,World.alloc_heap_new w.drew _,by omega,HG63.out,HCS.out,by simp⟩⟩
end Go.Proofs.YtdhinkgjiapigabGreatDoor
namespace Go.Proofs.YtdhinkgjiapigabGreatDoor
open Go.RowKit Go.Deep
theorem zj9 {P:Nat → Prop} {W:World} {a:Option Addr} {l:List Int} {c:Nat} (h:Ints P W (.slice a l.length c) l):l.length = 0 ∨ ∃ A,a = some A ∧ ∀ j u,(zcg l)[j]? = some u → W.cell? (A.add j) = some u:=by
 obtain ⟨a',c',hv,h0 | ⟨b,off,rfl,-,hc⟩⟩:=h
 ·exact .inl h0
 ·cases hv
  refine .inr ⟨_,rfl,fun j u hu=>?_⟩;unfold zcg at hu;rw [List.getElem?_map] at hu;obtain ⟨x,hx,rfl⟩:=Option.map_eq_some_iff.1 hu;rw [zbp];exact hc j (List.getElem?_eq_some_iff.1 hx).1 x hx
theorem zl8 (l:List Int):∀ u ∈ zcg l,u.oneCell' = true:=fun u hu=>by
 obtain ⟨x,-,rfl⟩:=List.mem_map.1 hu
 rfl
set_option maxRecDepth 100000 in
set_option maxHeartbeats 8000000 in
theorem zi6 (b off cap:Nat) (v1 v2:Value) (l1 l2:List Int) (w:World) (hb:b < w.heap.size) (c0:w.cell? ⟨b,off,none⟩ = some v1) (c1:w.cell? ⟨b,off + 1,none⟩ = some v2) (h1:Ints (In w) w v1 l1) (h2:Ints (In w) w v2 l2) (hl1:l1.length ≤ 1048576) (hl2:l2.length ≤ 1048576) :
  Calls Tryz.prog 206 #[.slice (some ⟨b,off,none⟩) 2 cap] w fun e w'=>∃ v,e = .returned v ∧ Below w.heap.size w w' ∧ w'.ownsRow w.heap.size 3 1 v (l1.length + l2.length) (zcg l1 ++ zcg l2):=by
 have H1:=zaa h1;have H2:=zaa h2;obtain ⟨a1,k1,rfl⟩:=h1.size;obtain ⟨a2,k2,rfl⟩:=h2.size;have C0:=zaa c0;have C1:=zaa c1;clear h1 h2;go_enter Tryz.func206,Tryz.ntmps206;go_wp2
 go_loop [3,11] (fun s i=>(i = .int .i64 0 ∧ s = .int .i64 0) ∨ (i = .int .i64 1 ∧ s = .int .i64 (l1.length:Int)) ∨ (i = .int .i64 2 ∧ s = .int .i64 ((l1.length:Int) + (l2.length:Int)))) (fun _ i=>2 - (intOf i).toNat)
 case atStart=>exact .inl ⟨rfl,rfl⟩
 case round=>
  rcases hrel with ⟨rfl,rfl⟩ | ⟨rfl,rfl⟩ | ⟨rfl,rfl⟩
  ·go_wp2
   go_round
   case rel=>exact .inr (.inl ⟨by go_num,by go_num⟩)
   case measure=>simp [intOf]
  ·go_wp2
   go_round
   case rel=>exact .inr (.inr ⟨by go_num,by go_num⟩)
   case measure=>simp [intOf]
  ·go_wp2_with fail
   refine (zld (l1.length + l2.length) w (by omega)).mono ?_;rintro e w1 ⟨v0,rfl,hb1,hrow0⟩;have HB1:=zaa hb1;have HR0:=zaa hrow0;obtain ⟨a0,c00,rfl⟩:=zag hrow0;clear hb1 hrow0 c0 c1;go_wp2
   go_loopw [6,27] (fun s i wr=>∃ (a:Option Addr) (m c:Nat),s = .slice a m c ∧ Below w.heap.size w wr ∧ ((i = .int .i64 0 ∧ wr.ownsRow w.heap.size 3 1 (.slice a m c) 0 []) ∨ (i = .int .i64 1 ∧ wr.ownsRow w.heap.size 3 1 (.slice a m c) l1.length (zcg l1)) ∨ (i = .int .i64 2 ∧ wr.ownsRow w.heap.size 3 1 (.slice a m c) (l1.length + l2.length) (zcg l1 ++ zcg l2)))) (fun _ i _=>2 - (intOf i).toNat)
   case atStart=>exact ⟨a0,0,c00,rfl,HB1.out,.inl ⟨rfl,HR0.out⟩⟩
   case round=>
   obtain ⟨ax,mx,cx,rfl,hbw,⟨rfl,hrow⟩ | ⟨rfl,hrow⟩ | ⟨rfl,hrow⟩⟩:=hrel
   all_goals
    have k0:=(hbw.cell (p:=⟨b,off,none⟩) hb).trans C0.out;have k1':=(hbw.cell (p:=⟨b,off + 1,none⟩) hb).trans C1.out
   ·have HR:=zaa hrow;have hlen:=hrow.1;have SRC:=zaa (zj9 (H1.out.keep (In.keep hbw).1 (In.keep hbw).2));have ONE:=zaa (zl8 l1);have HBW:=zaa hbw
    have HM7:Hid (0 + l1.length ≤ maxLen):=by show 0 + l1.length ≤ maxLen; unfold maxLen; omega
    have HM8:Hid ((0 + l1.length) * 8 ≤ 140737488355328):=by show (0 + l1.length) * 8 ≤ 140737488355328; omega
    have HZ:Hid (w.heap.size ≤ wr.heap.size):=hbw.size
    have hln:(zcg l1).length = l1.length * 1:=by rw [zbt]; omega
    have HLN:=zaa hln;clear hrow hbw hln hlen
    go_wp2_with (at_builtin; refine zai rfl _ _ 22 rfl w.heap.size 3 (.int .i64 0) 1 8 Tryz.underlying22 Tryz.infoInt rfl (by decide) _ 0 [] rfl HR.out a1 l1.length _ (zcg l1) rfl HLN.out SRC.out ONE.out HM7.out HM8.out HZ.out ?_)
    intro v5 w5 hown5 hgr5;have HB5:=zaa (HBW.out.trans (zbm HR.out hgr5 (Nat.le_refl _) HZ.out));have HO5:=zaa hown5;obtain ⟨a5,c5,rfl⟩:=zag hown5;clear hown5 hgr5;go_wp2;go_roundw
    case rel=>exact ⟨a5,_,c5,rfl,HB5.out,.inr (.inl ⟨by go_num,by simpa using HO5.out⟩)⟩
    case measure=>simp [intOf]
   ·have HR:=zaa hrow;have hlen:=hrow.1;have SRC:=zaa (zj9 (H2.out.keep (In.keep hbw).1 (In.keep hbw).2));have ONE:=zaa (zl8 l2);have HBW:=zaa hbw
    have HM7:Hid (l1.length + l2.length ≤ maxLen):=by show l1.length + l2.length ≤ maxLen; unfold maxLen; omega
    have HM8:Hid ((l1.length + l2.length) * 8 ≤ 140737488355328):=by show (l1.length + l2.length) * 8 ≤ 140737488355328; omega
    have HZ:Hid (w.heap.size ≤ wr.heap.size):=hbw.size
    have hln:(zcg l2).length = l2.length * 1:=by rw [zbt]; omega
    have HLN:=zaa hln;clear hrow hbw hln hlen
    go_wp2_with (at_builtin; refine zai rfl _ _ 22 rfl w.heap.size 3 (.int .i64 0) 1 8 Tryz.underlying22 Tryz.infoInt rfl (by decide) _ l1.length (zcg l1) rfl HR.out a2 l2.length _ (zcg l2) rfl HLN.out SRC.out ONE.out HM7.out HM8.out HZ.out ?_)
    intro v5 w5 hown5 hgr5;have HB5:=zaa (HBW.out.trans (zbm HR.out hgr5 (Nat.le_refl _) HZ.out));have HO5:=zaa hown5;obtain ⟨a5,c5,rfl⟩:=zag hown5;clear hown5 hgr5;go_wp2;go_roundw
    case rel=>exact ⟨a5,_,c5,rfl,HB5.out,.inr (.inr ⟨by go_num,HO5.out⟩)⟩
    case measure=>simp [intOf]
   ·have HR:=zaa hrow;have HBW:=zaa hbw;clear hrow hbw;go_wp2;go_ret;exact ⟨_,rfl,HBW.out,HR.out⟩
set_option maxRecDepth 100000 in
set_option maxHeartbeats 8000000 in
theorem zi7 (b off cap:Nat) (v1 v2:Value) (l1 l2:List (Int × Int)) (w:World) (hb:b < w.heap.size) (c0:w.cell? ⟨b,off,none⟩ = some v1) (c1:w.cell? ⟨b,off + 1,none⟩ = some v2) (h1:Lies (In w) w v1 l1) (h2:Lies (In w) w v2 l2) (hl1:l1.length ≤ 1048576) (hl2:l2.length ≤ 1048576) :
  Calls Tryz.prog 230 #[.slice (some ⟨b,off,none⟩) 2 cap] w fun e w'=>∃ v,e = .returned v ∧ Below w.heap.size w w' ∧ w'.ownsRow w.heap.size 175 2 v (l1.length + l2.length) (zau l1 ++ zau l2):=by
 have H1:=zaa h1;have H2:=zaa h2;obtain ⟨a1,k1,rfl⟩:=h1.size;obtain ⟨a2,k2,rfl⟩:=h2.size;have C0:=zaa c0;have C1:=zaa c1;clear h1 h2;go_enter Tryz.func230,Tryz.ntmps230;go_wp2
 go_loop [3,11] (fun s i=>(i = .int .i64 0 ∧ s = .int .i64 0) ∨ (i = .int .i64 1 ∧ s = .int .i64 (l1.length:Int)) ∨ (i = .int .i64 2 ∧ s = .int .i64 ((l1.length:Int) + (l2.length:Int)))) (fun _ i=>2 - (intOf i).toNat)
 case atStart=>exact .inl ⟨rfl,rfl⟩
 case round=>
  rcases hrel with ⟨rfl,rfl⟩ | ⟨rfl,rfl⟩ | ⟨rfl,rfl⟩
  ·go_wp2
   go_round
   case rel=>exact .inr (.inl ⟨by go_num,by go_num⟩)
   case measure=>simp [intOf]
  ·go_wp2
   go_round
   case rel=>exact .inr (.inr ⟨by go_num,by go_num⟩)
   case measure=>simp [intOf]
  ·go_wp2_with fail
   refine (zle (l1.length + l2.length) w (by omega)).mono ?_;rintro e w1 ⟨v0,rfl,hb1,hrow0⟩;have HB1:=zaa hb1;have HR0:=zaa hrow0;obtain ⟨a0,c00,rfl⟩:=zag hrow0;clear hb1 hrow0 c0 c1;go_wp2
   go_loopw [6,27] (fun s i wr=>∃ (a:Option Addr) (m c:Nat),s = .slice a m c ∧ Below w.heap.size w wr ∧ ((i = .int .i64 0 ∧ wr.ownsRow w.heap.size 175 2 (.slice a m c) 0 []) ∨ (i = .int .i64 1 ∧ wr.ownsRow w.heap.size 175 2 (.slice a m c) l1.length (zau l1)) ∨ (i = .int .i64 2 ∧ wr.ownsRow w.heap.size 175 2 (.slice a m c) (l1.length + l2.length) (zau l1 ++ zau l2)))) (fun _ i _=>2 - (intOf i).toNat)
   case atStart=>exact ⟨a0,0,c00,rfl,HB1.out,.inl ⟨rfl,HR0.out⟩⟩
   case round=>
   obtain ⟨ax,mx,cx,rfl,hbw,⟨rfl,hrow⟩ | ⟨rfl,hrow⟩ | ⟨rfl,hrow⟩⟩:=hrel
   all_goals
    have k0:=(hbw.cell (p:=⟨b,off,none⟩) hb).trans C0.out;have k1':=(hbw.cell (p:=⟨b,off + 1,none⟩) hb).trans C1.out
   ·have HR:=zaa hrow;have hlen:=hrow.1;have SRC:=zaa (zdl (H1.out.keep (In.keep hbw).1 (In.keep hbw).2));have ONE:=zaa (zcx l1);have HBW:=zaa hbw
    have HM7:Hid (0 + l1.length ≤ maxLen):=by show 0 + l1.length ≤ maxLen; unfold maxLen; omega
    have HM8:Hid ((0 + l1.length) * 16 ≤ 140737488355328):=by show (0 + l1.length) * 16 ≤ 140737488355328; omega
    have HZ:Hid (w.heap.size ≤ wr.heap.size):=hbw.size;have hln:(zau l1).length = l1.length * 2:=zbf _;have HLN:=zaa hln;clear hrow hbw hln hlen
    go_wp2_with (at_builtin; refine zai rfl _ _ 120 rfl w.heap.size 175 (.agg #[.int .i64 0,.int .i64 0]) 2 16 Tryz.underlying120 Tryz.infoLie rfl (by decide) _ 0 [] rfl HR.out a1 l1.length _ (zau l1) rfl HLN.out SRC.out ONE.out HM7.out HM8.out HZ.out ?_)
    intro v5 w5 hown5 hgr5;have HB5:=zaa (HBW.out.trans (zbm HR.out hgr5 (Nat.le_refl _) HZ.out));have HO5:=zaa hown5;obtain ⟨a5,c5,rfl⟩:=zag hown5;clear hown5 hgr5;go_wp2;go_roundw
    case rel=>exact ⟨a5,_,c5,rfl,HB5.out,.inr (.inl ⟨by go_num,by simpa using HO5.out⟩)⟩
    case measure=>simp [intOf]
   ·have HR:=zaa hrow;have hlen:=hrow.1;have SRC:=zaa (zdl (H2.out.keep (In.keep hbw).1 (In.keep hbw).2));have ONE:=zaa (zcx l2);have HBW:=zaa hbw
    have HM7:Hid (l1.length + l2.length ≤ maxLen):=by show l1.length + l2.length ≤ maxLen; unfold maxLen; omega
    have HM8:Hid ((l1.length + l2.length) * 16 ≤ 140737488355328):=by show (l1.length + l2.length) * 16 ≤ 140737488355328; omega
    have HZ:Hid (w.heap.size ≤ wr.heap.size):=hbw.size;have hln:(zau l2).length = l2.length * 2:=zbf _;have HLN:=zaa hln;clear hrow hbw hln hlen
    go_wp2_with (at_builtin; refine zai rfl _ _ 120 rfl w.heap.size 175 (.agg #[.int .i64 0,.int .i64 0]) 2 16 Tryz.underlying120 Tryz.infoLie rfl (by decide) _ l1.length (zau l1) rfl HR.out a2 l2.length _ (zau l2) rfl HLN.out SRC.out ONE.out HM7.out HM8.out HZ.out ?_)
    intro v5 w5 hown5 hgr5;have HB5:=zaa (HBW.out.trans (zbm HR.out hgr5 (Nat.le_refl _) HZ.out));have HO5:=zaa hown5;obtain ⟨a5,c5,rfl⟩:=zag hown5;clear hown5 hgr5;go_wp2;go_roundw
    case rel=>exact ⟨a5,_,c5,rfl,HB5.out,.inr (.inr ⟨by go_num,HO5.out⟩)⟩
    case measure=>simp [intOf]
   ·have HR:=zaa hrow;have HBW:=zaa hbw;clear hrow hbw;go_wp2;go_ret;exact ⟨_,rfl,HBW.out,HR.out⟩
theorem ziz (a b:List (Int × Int)):zau (a ++ b) = zau a ++ zau b:=by unfold zau; rw [List.flatMap_append]
theorem zl9 {w:World} {base:Nat} {v:Value} {l1 l2:List (Int × Int)} (h:w.ownsRow base 175 2 v (l1.length + l2.length) (zau l1 ++ zau l2)):Lies (fun c=>base ≤ c ∧ c < w.heap.size) w v (l1 ++ l2):=by
 rw [← ziz] at h;have hn:l1.length + l2.length = (l1 ++ l2).length:=List.length_append.symm;rw [hn] at h;rcases Nat.eq_zero_or_pos (l1 ++ l2).length with e | e
 ·obtain ⟨-,⟨rfl,-⟩ | ⟨g,cap,cur,rfl,-⟩⟩:=h
  ·exact ⟨none,0,by rw [e],.inl e⟩
  ·exact ⟨_,cap,rfl,.inl e⟩
 ·obtain ⟨g,cap,f,rfl,hb,hr,hc,hf⟩:=zdt h e
  exact ⟨_,cap,rfl,.inr ⟨g,0,rfl,⟨hb,hr.lt⟩,fun i hi x hx=>by
   rw [Nat.zero_add,hr.cell (by omega),hr.cell (by omega),hf _ _ (zdi _ i x hx).1,hf _ _ (zdi _ i x hx).2]
   exact ⟨rfl,rfl⟩⟩⟩
set_option maxHeartbeats 2000000 in
theorem zho (b off cap:Nat) (v1 v2:Value) (l1 l2:List Int) (w:World) (hb:b < w.heap.size) (c0:w.cell? ⟨b,off,none⟩ = some v1) (c1:w.cell? ⟨b,off + 1,none⟩ = some v2) (h1:Ints (In w) w v1 l1) (h2:Ints (In w) w v2 l2) (hl1:l1.length ≤ 1048576) (hl2:l2.length ≤ 1048576) :
  Calls Tryz.prog 164 #[.slice (some ⟨b,off,none⟩) 2 cap] w fun e w'=>∃ bS v,e = .returned (.func (.func 234) #[] #[.pointer (some ⟨bS,0,none⟩)]) ∧ Below w.heap.size w w' ∧ bS < w'.heap.size ∧ w'.cell? ⟨bS,0,none⟩ = some v ∧ Ints (In w') w' v (l1 ++ l2):=by
 have HC:=zaa (zi6 b off cap v1 v2 l1 l2 w hb c0 c1 h1 h2 hl1 hl2);clear h1 h2 c0 c1;go_enter Tryz.func164,Tryz.ntmps164
 go_wp2_with fail
 refine HC.out.mono ?_;rintro e w1 ⟨v,rfl,hb1,hrow⟩;rw [← zc4] at hrow;have hI:=(zb2 hrow).2;obtain ⟨a5,c5,rfl⟩:=hI.size;rw [List.length_append] at hI;have HI:=zaa hI;have HB:=zaa hb1;clear hrow hI hb1
 go_wp2_with fail
 refine (zjt _ _ _ _).mono ?_;rintro e w2 ⟨rfl,hw2⟩;have T2:=zaw w1 22 #[.slice a5 (l1.length + l2.length) c5];rw [← hw2] at T2;have HT2:=zaa T2;clear hw2 T2;go_wp2;go_ret;have hcell:=HT2.out.cell (j:=0) (i:=0) rfl rfl;rw [Nat.add_zero] at hcell;exact ⟨_,_,rfl,HB.out.trans (HT2.out.below.mono HB.out.size),HT2.out.lt (j:=0) rfl,hcell,HI.out.keep (fun b hb o=>HT2.out.below.cell (p:=⟨b,o,none⟩) hb.2) fun b hb=>Nat.lt_of_lt_of_le hb.2 HT2.out.below.size⟩
set_option maxHeartbeats 2000000 in
theorem zhp (b off cap:Nat) (v1 v2:Value) (l1 l2:List (Int × Int)) (w:World) (hb:b < w.heap.size) (c0:w.cell? ⟨b,off,none⟩ = some v1) (c1:w.cell? ⟨b,off + 1,none⟩ = some v2) (h1:Lies (In w) w v1 l1) (h2:Lies (In w) w v2 l2) (hl1:l1.length ≤ 1048576) (hl2:l2.length ≤ 1048576) :
  Calls Tryz.prog 199 #[.slice (some ⟨b,off,none⟩) 2 cap] w fun e w'=>∃ bS v,e = .returned (.func (.func 256) #[] #[.pointer (some ⟨bS,0,none⟩)]) ∧ Below w.heap.size w w' ∧ bS < w'.heap.size ∧ w'.cell? ⟨bS,0,none⟩ = some v ∧ Lies (In w') w' v (l1 ++ l2):=by
 have HC:=zaa (zi7 b off cap v1 v2 l1 l2 w hb c0 c1 h1 h2 hl1 hl2);clear h1 h2 c0 c1;go_enter Tryz.func199,Tryz.ntmps199
 go_wp2_with fail
 refine HC.out.mono ?_;rintro e w1 ⟨v,rfl,hb1,hrow⟩;have hI:=zl9 hrow;obtain ⟨a5,c5,rfl⟩:=hI.size;rw [List.length_append] at hI;have HI:=zaa hI;have HB:=zaa hb1;clear hrow hI hb1
 go_wp2_with fail
 refine (zju _ _ _ _).mono ?_;rintro e w2 ⟨rfl,hw2⟩;have T2:=zaw w1 120 #[.slice a5 (l1.length + l2.length) c5];rw [← hw2] at T2;have HT2:=zaa T2;clear hw2 T2;go_wp2;go_ret;have hcell:=HT2.out.cell (j:=0) (i:=0) rfl rfl;rw [Nat.add_zero] at hcell;exact ⟨_,_,rfl,HB.out.trans (HT2.out.below.mono HB.out.size),HT2.out.lt (j:=0) rfl,hcell,HI.out.keep (fun b hb o=>HT2.out.below.cell (p:=⟨b,o,none⟩) hb.2) fun b hb=>Nat.lt_of_lt_of_le hb.2 HT2.out.below.size⟩
end Go.Proofs.YtdhinkgjiapigabGreatDoor
namespace Go.Proofs.YtdhinkgjiapigabGreatDoor
open Go.RowKit Go.Deep
open Classical
def Bys (P:Nat → Prop) (w:World) (v:Value) (n:Nat):Prop:=Sl P v n fun b off i=>∃ x:Int,0 ≤ x ∧ x ≤ 255 ∧ w.cell? ⟨b,off + i,none⟩ = some (.int .u8 x)
theorem Bys.keep {P Q:Nat → Prop} {w w':World} {v:Value} {n:Nat} (h:Bys P w v n) (hs:Same P w w') (hP:∀ b,P b → Q b):Bys Q w' v n:=
 Sl.imp h hP fun b off i hb _ he=>by
  obtain ⟨x,h0,h1,hc⟩:=he
  exact ⟨x,h0,h1,by rw [hs b hb]; exact hc⟩
theorem zhd {w:World} {base m:Nat} {v:Value} {l:List (Int × Int)} (h:w.ownsRow base 175 2 v m (zau l)):Lies (fun c=>base ≤ c ∧ c < w.heap.size) w v l:=by
 have hm:m = l.length:=by have:=h.1; rw [zbf] at this; omega
 subst hm;have:=zl9 (l1:=l) (l2:=[]) (w:=w) (base:=base) (v:=v) (by simpa [zau] using h);simpa using this
theorem zou {W:World} {t:TypeId} {x:Value}:1 = 0 ∨ ∃ A,(some (⟨W.heap.size,0,none⟩:Addr)) = some A ∧ ∀ j u,([x]:List Value)[j]? = some u → (W.alloc (.cells #[x] t)).cell? (A.add j) = some u:=by
 refine .inr ⟨_,rfl,fun j u hj=>?_⟩;rw [zbp,Nat.zero_add];have hj1:j < 1:=(List.getElem?_eq_some_iff.1 hj).1;rw [(zak W t #[x]).cell (by simpa using hj1)];rcases j with _ | j
 ·exact hj
 ·omega
theorem zba {W W':World} {base e size:Nat} {v:Value} {n:Nat} {xs:List Value} (h:W.ownsRow base e size v n xs) {K:Nat → Prop} (hB:But K W W') (hk:∀ c,base ≤ c → c < W.heap.size → K c):W'.ownsRow base e size v n xs:=
 za3 h hB fun _ hg=>hk _ (zat h hg).1 (zat h hg).2.1
end Go.Proofs.YtdhinkgjiapigabGreatDoor

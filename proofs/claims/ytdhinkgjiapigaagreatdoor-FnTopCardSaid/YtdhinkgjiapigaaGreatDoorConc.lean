import Derived.Test.YtdhinkgjiapigaaGreatDoorColl
import Derived.Lib.AppendZerosOnto
import Derived.Lib.Walk
import Derived.Test.YtdhinkgjiapigaaGreatDoorLocksA
namespace Go.Proofs.YtdhinkgjiapigaaGreatDoor
open Go.RowKit
theorem C7 {α:Type}{P:Program}{g:Operand}{ps:Array Tmp}{assign body:Code}{Q:Exit->Act->World->Prop}{a:Act}{w w0:World}{Z:Nat}{lb:Array Value}{F:α->Array Value}{n0 c:Nat}{xs:List α}
  (hg:a.eval g=.func (.func Z) #[] lb) (eg:∀args w,(callFunc Z args).run P w=.ok (.enter Z args) w) (a4:nX P Z lb F n0 c xs w0) (a1:Below w0.heap.size w0 w) (hn:n0<=w.heap.size) (aB:∀x,(F x).size=ps.size)
  (I Ix:List α->World->Prop) (hI:OwnFrom w.heap.size I) (R:OwnFrom w.heap.size Ix) (h0:I [] w) (Ax:α->Act->World->Prop) (a5:∀x a' W o,w.heap.size+2<=W.heap.size->Ax x a' W->Ax x a' (W.putObj (w.heap.size+1) o))
  (G:∀(l:Nat) (x:α) (W:World) (K:Act->World->Prop),w.heap.size+2+c<=W.heap.size->(∀a' W',Below W.heap.size W W'->Ax x a' W'->K a' W') ->
   assign.wpIn (Fence.wide.inRound l) 0 P (Exit.then K (fun _ _ _=>False)) { tmps:=(ps.zip (F x)).foldl (fun t (p,v)=>t.setIfInBounds p v) a.tmps,defers:=[] } W)
  (S:∀(l:Nat) (pre:List α) (x:α) (W:World),pre++[x] <+: xs->w.heap.size+2+c<=W.heap.size->I pre W->∀a',Ax x a' W->body.wpIn (Fence.wide.inRound l) 0 P (EV w.heap.size c n0 I Ix (pre++[x]) W) a' W)
  (T:∀(D:Nat) (W:World),w.heap.size<=D->I xs W->W.heap[D]?=some (.deferred (some []))->Q .normal { a with defers:={ target:=.collected D,args:=#[] } :: a.defers } W)
  (Y:∀(D:Nat) (pre:List α) (W:World),w.heap.size<=D->pre <+: xs->Ix pre W->W.heap[D]?=some (.deferred (some []))->Code.ret.wpIn Fence.wide 0 P Q { a with defers:={ target:=.collected D,args:=#[] } :: a.defers } W) :
  (Code.rangeFunc g ps assign body).wpIn Fence.wide 0 P Q a w:=by
 refine wpIn_rangeFunc fun fn a9=>?_
 let rec0:Loop:={ state:=.ready,pending:=none,fn,tmps:=a.tmps,params:=ps,assign,body,defers:=w.heap.size }
 let Fact (r:Loop) (W:World):Prop:=W.heap[w.heap.size]?=some (.deferred (some []))∧W.heap[w.heap.size+1]?=some (.loop r)
 have q:∀r s W W' row,Fact r W->W.grownBy W' row->(∀b,row=some b->w.heap.size+2<=b)->(fun (_:List α)=>Fact r) s W':=fun r s W W' row i u E=>
  ⟨(u.block _ (Array.getElem?_eq_some_iff.1 i.1).1 fun e=>by have:=E _ e.symm; omega).trans i.1,(u.block _ (Array.getElem?_eq_some_iff.1 i.2).1 fun e=>by have:=E _ e.symm; omega).trans i.2⟩
 have d:∀r r' W,Fact r W->Fact r' (W.putObj (w.heap.size+1) (.loop r')):=fun r r' W i=>
  ⟨(World.putObj_heap_other (by omega)).trans i.1,World.putObj_heap_same (Array.getElem?_eq_some_iff.1 i.2).1⟩
 have z:∀r W W',Fact r W->Mid w.heap.size (w.heap.size+2+c) W W'->Fact r W':=fun r W W' i N=>⟨(N _ (Nat.le_refl _) (by omega)).trans i.1,(N _ (by omega) (by omega)).trans i.2⟩;have y:∀W o,Mid (w.heap.size+2) (w.heap.size+2+c) W (W.putObj (w.heap.size+1) o):=fun W o k h1 _=>World.putObj_heap_other (by omega)
 have m:∀r W o,Fact r W->Below n0 W (W.putObj (w.heap.size+1) o):=fun r W o i=>
  (Below.refl n0 W).grown (grownBy_putObj' _ _ _) (by have:=(Array.getElem?_eq_some_iff.1 i.2).1; omega) fun k e=>by cases e; omega
 have f:∀ {K:List α->World->Prop},OwnFrom w.heap.size K->∀r s W o,Fact r W->K s W->K s (W.putObj (w.heap.size+1) o):=fun hK r s W o i X=>hK.putObj o X (by omega) i.2 rfl;obtain⟨J,L⟩:∃J,J=(w.alloc (.deferred (some []))).alloc (.loop rec0):=⟨_,rfl⟩
 have aD:J.heap.size=w.heap.size+2:=by rw[L]; simp
 have a6:Fact rec0 J:=by
  have h1:=World.alloc_heap_new (w.alloc (.deferred (some []))) (.loop rec0);rw[World.size_alloc] at h1;rw[L];exact⟨(Below.heap_alloc _ _ _ (by simp)).trans (World.alloc_heap_new w _),h1⟩
 have a2:Below w.heap.size w J:=by rw[L]; exact ((Below.refl _ w).alloc (Nat.le_refl _) _).alloc (by simp) _
 refine⟨w.heap.size+1,[{ target:=.collected w.heap.size,args:=#[] }],J,{ target:=.fn (.func Z) lb,args:=#[.func (.yield (w.heap.size+1)) #[] #[]] },J,Z,
  #[.func (.yield (w.heap.size+1)) #[] #[]]++lb,J,?_,?_,fun _ _=>trivial,?_,fun h=>(by cases h),?_⟩
 ·rw[L]; exact run_enterLoop_outer _ _ _ _ _
 ·simp only[resolve,hg];simp[go_sem]
 ·simp[invoke,go_sem,eg]
 refine (a4 (w.heap.size+1) (fun pre W=>I pre W∧Fact rec0 W) (fun pre W=>Ix pre W∧Fact { rec0 with state:=.done,pending:=some .ret } W) J (a1.trans (a2.mono a1.size))
  (fun s A B row X u E=>⟨vT hI (by omega) s A B row X.1 u E,q _ s A B row X.2 u fun b e=>by have:=(E b e).1; omega⟩)
  (fun s A B row X u E=>⟨vT R (by omega) s A B row X.1 u E,q _ s A B row X.2 u fun b e=>by have:=(E b e).1; omega⟩) ?_ ⟨rL hI h0 a2,a6⟩).mono ?_
 ·rintro pre x W H O ⟨hi,i⟩;rw[aD] at O ⊢;refine⟨fn,_,assign,body,run_yield i.2 (aB x),roundIn_of_wpIn a9 (G _ x W _ O fun a' Wa C a7=>?_)⟩;have M:Fact rec0 Wa:=⟨(C.block _ (Array.getElem?_eq_some_iff.1 i.1).1).trans i.1,(C.block _ (Array.getElem?_eq_some_iff.1 i.2).1).trans i.2⟩;have aA:=rL hI hi C;have aC:w.heap.size+2+c<=Wa.heap.size:=Nat.le_trans O C.size;refine⟨_,run_beginRound M.2 rfl,?_⟩;have a8:=d _ { rec0 with state:=.busy } Wa M;refine wpIn_mono (S _ pre x _ H (by simpa using aC) (f hI _ _ _ _ M aA) a' (a5 x a' Wa _ (by omega) a7)) ?_;rintro e a3 W3 hp
  have a0:∀(j:Option Code),Mid w.heap.size (w.heap.size+2+c) (Wa.putObj (w.heap.size+1) (.loop { rec0 with state:=.busy })) W3 ->
    Fact { rec0 with state:=.busy } W3∧(Instr.endRound (w.heap.size+1) j).run P W3=.ok (.bool j.isNone) (W3.putObj (w.heap.size+1) (.loop { rec0 with state:=if j.isNone then .ready else .done,pending:=j })) ∧
    Mid (w.heap.size+2) (w.heap.size+2+c) W (W3.putObj (w.heap.size+1) (.loop { rec0 with state:=if j.isNone then .ready else .done,pending:=j })):=fun j N=>by
   have n:=z _ _ _ a8 N;exact⟨n,run_endRound (r:={ rec0 with state:=.busy }) j n.2,(((Mid.call C O).trans (y _ _)).trans (N.part (by omega) (by omega))).trans (y _ _)⟩
  cases e with
  | normal=>
   obtain⟨N,hb,U⟩:=hp;obtain⟨n,E,V⟩:=a0 none N;exact⟨_,_,E,.inl ⟨rfl,⟨f hI _ _ _ _ n U,d _ _ _ n⟩,(((C.mono (by omega)).trans (m _ _ _ M)).trans hb).trans (m _ _ _ n),V⟩⟩
  | ret=>
   obtain⟨N,U⟩:=hp;obtain⟨n,E,V⟩:=a0 (some .ret) N;exact⟨_,_,E,.inr ⟨rfl,⟨f R _ _ _ _ n U,d _ _ _ n⟩,V⟩⟩
  | exit id=>exact hp.elim
  | goto t=>exact hp.elim
  | panic ch=>exact hp.elim
  | outgrown=>exact hp.elim
 ·rintro e W2 ⟨⟨v,rfl⟩,⟨hi,i⟩ | ⟨pre,H,hi,i⟩⟩
  ·exact⟨none,_,run_endLoop i.2 (by simp[rec0]),T _ _ (Nat.le_refl _) (f hI _ _ _ _ i hi) (d _ _ _ i).1⟩
  ·exact⟨some .ret,_,run_endLoop i.2 (by simp),Y _ pre _ (Nat.le_refl _) H (f R _ _ _ _ i hi) (d _ _ _ i).1⟩
section
open Go.Shelf
attribute [local go_sem] Oper.semAt_some
set_option maxHeartbeats 2000000 in
theorem GL (b c:Nat) (d a:Array Value) (w:World) :
  Calls Tryz.prog 151 #[.func (.func b) #[] d,.func (.func c) a #[]] w fun e w'=>e=.returned (.func (.func 180) #[] #[.pointer (some ⟨w.heap.size,0,none⟩),.pointer (some ⟨w.heap.size+1,0,none⟩)]) ∧
   w'=(w.alloc (.cells #[.func (.func b) #[] d] 196)).alloc (.cells #[.func (.func c) a #[]] 147):=by
 go_enter Tryz.func151,Tryz.ntmps151;go_wp2;go_ret;exact⟨rfl,rfl⟩
set_option maxRecDepth 100000 in
set_option maxHeartbeats 4000000 in
theorem FT (U kf:Nat) (lb H:Array Value) (n0 c I T:Nat) (xs:List (Int×Int)) (a:Int×Int->Bool) (w:World) (aA:I<n0) (a9:T<n0) (v:n0<=w.heap.size)
  (eg:∀args w,(callFunc U args).run Tryz.prog w=.ok (.enter U args) w) (ek:∀args w,(callFunc kf args).run Tryz.prog w=.ok (.enter kf args) w)
  (cV:w.cell? ⟨I,0,none⟩=some (.func (.func U) #[] lb)) (cK:w.cell? ⟨T,0,none⟩=some (.func (.func kf) H #[]))
  (a0:nX Tryz.prog U lb (fun i:Int×Int=>#[.agg #[.int .i64 i.1,.int .i64 i.2]]) n0 c xs w)
  (u:∀x W,x∈xs->Below n0 w W->Calls Tryz.prog kf (H.push (.agg #[.int .i64 x.1,.int .i64 x.2])) W fun e W'=>e=.returned (.bool (a x))∧Below W.heap.size W W') :
  nX Tryz.prog 180 #[.pointer (some ⟨I,0,none⟩),.pointer (some ⟨T,0,none⟩)] (fun i:Int×Int=>#[.agg #[.int .i64 i.1,.int .i64 i.2]]) n0 (3+c) (xs.filter a) w:=fun l J Jx W hW hJ V hY h0=>by
 have Y:Below n0 w W:=hW.mono v
 have a8:n0<=W.heap.size:=Nat.le_trans v hW.size
 have a5:=(Y.cell (p:=⟨I,0,none⟩) aA).trans cV
 have KK:=aD fun (W':World) (h:Below n0 w W')=>(h.cell (p:=⟨T,0,none⟩) a9).trans cK
 have HY:=aD hY
 have HK:=aD u
 have HN:=aD a0
 clear hY cV cK u a0
 refine callsIn_of_wp_marks Tryz.func180 rfl trivial ?_ rfl
 simp only[Tryz.ntmps180,List.size_toArray,List.length_cons,List.length_nil,Nat.reduceAdd,Nat.reduceSub,Array.replicate_succ,Array.replicate_zero,List.push_toArray,List.append_toArray,List.nil_append,List.cons_append]
 have S:=cZ W 147 #[.func (.yield l) #[] #[]]
 have aC:=(S.below.cell (p:=⟨I,0,none⟩) (by show I<_; omega)).trans a5
 have cY:=S.c 0 0 rfl rfl
 rw[Nat.add_zero] at cY
 have hz:(W.alloc (.cells #[.func (.yield l) #[] #[]] 147)).heap.size=W.heap.size+1:=by simp
 gi_wp2
 refine C7 (w0:=w) (n0:=n0) (c:=c) rfl eg HN.out (hW.trans (S.below.mono hW.size)) (by omega) (fun _=>rfl)
  (fun f d=>J (f.filter a) d∧d.cell? ⟨W.heap.size,0,none⟩=some (.func (.yield l) #[] #[])∧Below n0 w d) (fun f d=>Jx (f.filter a) d)
  (fun s A B row P Z M=>⟨hJ _ A B row P.1 Z fun r e=>⟨by have:=(M r e).1; omega,(M r e).2⟩,cell_kept P.2.1 Z fun r e=>(M r e).2,P.2.2.grown Z (Nat.le_trans v P.2.2.size) fun r e=>by have:=(M r e).1; omega⟩)
  (fun s A B row P Z M=>V _ A B row P Z fun r e=>⟨by have:=(M r e).1; omega,(M r e).2⟩)
  ⟨rL hJ h0 S.below,cY,Y.trans (S.below.mono a8)⟩
  (fun x a' d=>∃t,W.heap.size+1+2<=t∧t<d.heap.size∧d.cell? ⟨t,0,none⟩=some (.int .i64 x.1)∧d.cell? ⟨t,1,none⟩=some (.int .i64 x.2) ∧
   a'={ tmps:=#[.func (.yield l) #[] #[],.pointer (some ⟨I,0,none⟩),.pointer (some ⟨T,0,none⟩),.pointer (some ⟨W.heap.size,0,none⟩),.pointer (some ⟨t,0,none⟩),.func (.func U) #[] lb,.agg #[.int .i64 x.1,.int .i64 x.2],undef,undef,undef,undef,undef,undef,undef,undef,undef],defers:=[] })
  (fun x a' d o y ⟨t,h1,h2,h3,h4,h5⟩=>by
   rw[hz] at y
   have hm:Mid t (t+1) d (d.putObj ((W.alloc (.cells #[.func (.yield l) #[] #[]] 147)).heap.size+1) o):=fun k k1 k2=>World.putObj_heap_other (by omega)
   exact⟨t,h1,by simpa using h2,(hm.cell (Nat.le_refl _) (by omega)).trans h3,(hm.cell (Nat.le_refl _) (by omega)).trans h4,h5⟩)
  ?assign ?body ?done ?stop
 case assign=>
  intro lr x d K y L
  rw[hz] at y
  have TX:=cZ d 58 #[.int .i64 x.1,.int .i64 x.2]
  have x0:=TX.c 0 0 rfl rfl
  have x1:=TX.c 0 1 rfl rfl
  rw[Nat.add_zero] at x0 x1
  have a4:=aD TX.below
  have X0:=aD x0
  have X1:=aD x1
  clear TX x0 x1
  gi_wp2
  exact L _ _ a4.out ⟨d.heap.size,by omega,by simp,X0.out,X1.out,rfl⟩
 case body=>
  rintro lr f x d n y ⟨O,hc,hb⟩ a' ⟨t,aB,G,x0,x1,rfl⟩
  rw[hz] at y
  have kK:=KK.out _ hb
  have a2:x∈xs:=n.subset (by simp)
  have N:=HK.out x d a2 hb
  have q:=CX a f x
  have C:=yL a n
  have R:=aD fun (Q:World) (h:Below d.heap.size d Q)=>rL hJ O h
  have Hb:=aD hb
  have Hc:=aD hc
  clear O
  cases hkx:a x
  ·rw[hkx] at N q
   have HI:=aD N
   have g:(f++[x]).filter a=f.filter a:=by rw[q]; simp
   have z:=aD g
   clear N q g C hkx
   gi_wp2
   refine⟨trivial,rfl,CallsIn.inRound lr ((callsIn_wide.2 HI.out).mono ?_)⟩
   rintro e Q ⟨rfl,b⟩
   gi_wp2
   refine⟨fun _ h=>(by cases h),?_⟩
   gi_wp2
   have m:Below n0 d Q:=b.mono (Nat.le_trans v Hb.out.size)
   exact⟨Mid.call b (by omega),m,by rw[z.out]; exact R.out _ b,(b.cell (p:=⟨W.heap.size,0,none⟩) (by show W.heap.size<_; omega)).trans Hc.out,Hb.out.trans m⟩
  ·rw[hkx] at N q
   have HI:=aD N
   have g:(f++[x]).filter a=f.filter a++[x]:=by rw[q]; simp
   rw[g] at C
   have z:=aD g
   have a3:=aD C
   clear N q g C hkx
   gi_wp2
   refine⟨trivial,rfl,CallsIn.inRound lr ((callsIn_wide.2 HI.out).mono ?_)⟩
   rintro e Q ⟨rfl,b⟩
   have m:Below n0 d Q:=b.mono (Nat.le_trans v Hb.out.size)
   have aE:=b.size
   have aF:=(b.cell (p:=⟨t,0,none⟩) G).trans x0
   have aG:=(b.cell (p:=⟨t,1,none⟩) G).trans x1
   have a6:=(b.cell (p:=⟨W.heap.size,0,none⟩) (by show W.heap.size<_; omega)).trans Hc.out
   obtain⟨fn,tmps,assign,body,hy,hR⟩:=HY.out _ x Q a3.out (by omega) (R.out _ b)
   gi_wp2
   refine⟨rfl,RoundIn.mono (F:=Fence.wide.inRound lr) hR ?_⟩
   rintro e W3 (⟨rfl,a7,a1,E⟩ | ⟨rfl,X,E⟩)
   ·gi_wp2
    exact⟨(Mid.call b (by omega)).trans (E.part (by omega) (by omega)),m.trans a1,by rw[z.out]; exact a7,(E.cell (Nat.le_refl _) (by omega)).trans a6,(Hb.out.trans m).trans a1⟩
   ·gi_wp2
    exact⟨(Mid.call b (by omega)).trans (E.part (by omega) (by omega)),by show Jx _ _; rw[z.out]; exact X⟩
 case done=>
  rintro D d hD ⟨O,-,-⟩ L
  gi_wp2
  refine⟨by simp,.inl ⟨_,_,rfl,run_takeDeferred L,?_⟩⟩
  exact⟨_,results_none rfl _ _ _,⟨_,rfl⟩,.inl (hJ.putObj _ O (by omega) L rfl)⟩
 case stop=>
  intro D f d hD n O L
  gi_wp2
  refine⟨by simp,.inl ⟨_,_,rfl,run_takeDeferred L,?_⟩⟩
  exact⟨_,results_none rfl _ _ _,⟨_,rfl⟩,.inr ⟨_,yL a n,V.putObj _ O (by omega) L rfl⟩⟩
end
section
open Classical Go.Shelf
attribute [local go_sem] Oper.semAt_some
theorem DR {α:Type}{l:List α}{k:Nat}{y:α}(h:l[k]?=some y):l.take (k+1)=l.take k++[y]:=by rw[List.take_add_one,h]; rfl
set_option maxHeartbeats 2000000 in
theorem Fw (a:Option Addr) (n c:Nat) (w:World) :
  Calls Tryz.prog 158 #[.slice a n c] w fun e w'=>e=.returned (.func (.func 185) #[] #[.pointer (some ⟨w.heap.size,0,none⟩)])∧w'=w.alloc (.cells #[.slice a n c] 23):=by
 go_enter Tryz.func158,Tryz.ntmps158;go_wp2;go_ret;exact⟨rfl,rfl⟩
set_option maxRecDepth 100000 in
set_option maxHeartbeats 4000000 in
theorem FH (F:Value) (xs:List Nat) (n0 r:Nat) (w:World) (u:r<n0) (q:n0<=w.heap.size) (B:w.cell? ⟨r,0,none⟩=some F) (M:Ints (fun b=>b<n0) w F (xs.map fun i:Nat=>(i:Int))) (Y:xs.length<=1048576) :
  nX Tryz.prog 185 #[.pointer (some ⟨r,0,none⟩)] (fun i:Nat=>#[.int .i64 (i:Int)]) n0 0 xs w:=fun l J S W C V N D L=>by
 have j:Below n0 w W:=C.mono q
 have P:n0<=W.heap.size:=Nat.le_trans q C.size
 have R:=(j.cell (p:=⟨r,0,none⟩) u).trans B
 obtain⟨a,K,rfl,v⟩:=M
 rw[List.length_map] at R v
 have G:=aD v
 have I:=aD D
 clear D B v
 refine callsIn_of_wp Tryz.func185 rfl trivial ?_ rfl
 simp only[Tryz.ntmps185,List.size_toArray,List.length_cons,List.length_nil,Nat.reduceAdd,Nat.reduceSub,Array.replicate_succ,Array.replicate_zero,List.push_toArray,List.append_toArray,List.nil_append,List.cons_append]
 gi_wp2
 gi_loopw [7] (fun i wr=>∃k:Nat,k<=xs.length∧i=.int .i64 k∧J (xs.take k) wr∧Below n0 W wr) (fun i _=>xs.length-(intOf i).toNat)
 case atStart=>exact⟨0,Nat.zero_le _,rfl,by simpa using L,Below.refl _ _⟩
 case round=>
  obtain⟨k,X,rfl,f,g⟩:=hrel
  by_cases o:k<xs.length
  ·obtain z | ⟨b,off,rfl,m,n⟩:=G.out
   ·omega
   obtain⟨y,A⟩:∃y,xs[k]?=some y:=⟨_,List.getElem?_eq_getElem o⟩
   have U:=(g.cell (p:=⟨b,off+k,none⟩) m).trans ((j.cell (p:=⟨b,off+k,none⟩) m).trans (n k o y (by rw[List.getElem?_map,A]; rfl)))
   have c:=DR A
   have d:xs.take k++[y] <+: xs:=by rw[← c]; exact List.take_prefix _ _
   have E:(k:Int)<(xs.length:Int):=by omega
   obtain⟨fn,tmps,assign,body,Q,O⟩:=I.out _ y wr d (Nat.le_trans (Nat.le_refl _) g.size) f
   have H:=aD d
   have s:=aD c
   clear n f d c A
   gi_wp2
   refine⟨rfl,O.mono ?_⟩
   rintro e T (⟨rfl,t,x,-⟩ | ⟨rfl,h,-⟩)
   ·gi_wp2
    go_roundw
    case rel=>exact⟨k+1,by omega,by simp,by rw[s.out]; exact t,g.trans x⟩
    case measure=>simp[intOf]; omega
   ·gi_wp2
    refine bodyPost_ret (results_none rfl _ _ _) rfl ?_
    exact⟨⟨_,rfl⟩,.inr ⟨_,H.out,h⟩⟩
  ·obtain rfl:k=xs.length:=by omega
   rw[List.take_length] at f
   gi_wp2
   go_end0
   exact⟨⟨_,rfl⟩,.inl f⟩
set_option maxHeartbeats 2000000 in
theorem Fx (a:Option Addr) (n c:Nat) (w:World) :
  Calls Tryz.prog 181 #[.slice a n c] w fun e w'=>e=.returned (.func (.func 205) #[] #[.pointer (some ⟨w.heap.size,0,none⟩)])∧w'=w.alloc (.cells #[.slice a n c] 49):=by
 go_enter Tryz.func181,Tryz.ntmps181;go_wp2;go_ret;exact⟨rfl,rfl⟩
set_option maxRecDepth 100000 in
set_option maxHeartbeats 4000000 in
theorem FI (L:Value) (xs:List (Int×Int)) (n0 u:Nat) (w:World) (D:u<n0) (s:n0<=w.heap.size) (F:w.cell? ⟨u,0,none⟩=some L) (R:Lies (fun b=>b<n0) w L xs) (hl:xs.length<=1048576) :
  nX Tryz.prog 205 #[.pointer (some ⟨u,0,none⟩)] (fun i:Int×Int=>#[.agg #[.int .i64 i.1,.int .i64 i.2]]) n0 0 xs w:=fun l J Z W G S T H Q=>by
 have n:Below n0 w W:=G.mono s
 have C:n0<=W.heap.size:=Nat.le_trans s G.size
 have k0:=(n.cell (p:=⟨u,0,none⟩) D).trans F
 obtain⟨a,P,rfl,I⟩:=R
 have M:=aD I
 have O:=aD H
 clear H F I
 refine callsIn_of_wp Tryz.func205 rfl trivial ?_ rfl
 simp only[Tryz.ntmps205,List.size_toArray,List.length_cons,List.length_nil,Nat.reduceAdd,Nat.reduceSub,Array.replicate_succ,Array.replicate_zero,List.push_toArray,List.append_toArray,List.nil_append,List.cons_append]
 gi_wp2
 gi_loopw [7] (fun i wr=>∃k:Nat,k<=xs.length∧i=.int .i64 k∧J (xs.take k) wr∧Below n0 W wr) (fun i _=>xs.length-(intOf i).toNat)
 case atStart=>exact⟨0,Nat.zero_le _,rfl,by simpa using Q,Below.refl _ _⟩
 case round=>
  obtain⟨k,hk,rfl,g,d⟩:=hrel
  by_cases q:k<xs.length
  ·obtain z | ⟨b,off,rfl,h,o⟩:=M.out
   ·omega
   obtain⟨y,v⟩:∃y,xs[k]?=some y:=⟨_,List.getElem?_eq_getElem q⟩
   have g0:=(d.cell (p:=⟨b,off+k*2,none⟩) h).trans ((n.cell (p:=⟨b,off+k*2,none⟩) h).trans (o k q y v).1)
   have g1:=(d.cell (p:=⟨b,off+k*2+1,none⟩) h).trans ((n.cell (p:=⟨b,off+k*2+1,none⟩) h).trans (o k q y v).2)
   have t:=cZ wr 58 #[.int .i64 y.1,.int .i64 y.2]
   have X:=t.c 0 0 rfl rfl
   have Y:=t.c 0 1 rfl rfl
   rw[Nat.add_zero] at X Y
   have m:=t.below
   have x:=aD m
   have c:=DR v
   have f:xs.take k++[y] <+: xs:=by rw[← c]; exact List.take_prefix _ _
   have K:(k:Int)<(xs.length:Int):=by omega
   obtain⟨fn,tmps,assign,body,V,U⟩:=O.out _ y _ f (Nat.le_trans d.size m.size) (rL S g m)
   have N:=aD f
   have A:=aD c
   clear o g f c v t m
   gi_wp2
   refine⟨rfl,U.mono ?_⟩
   rintro e W3 (⟨rfl,B,E,-⟩ | ⟨rfl,r,-⟩)
   ·gi_wp2
    go_roundw
    case rel=>exact⟨k+1,by omega,by simp,by rw[A.out]; exact B,(d.trans (x.out.mono (Nat.le_trans C d.size))).trans E⟩
    case measure=>simp[intOf]; omega
   ·gi_wp2
    refine bodyPost_ret (results_none rfl _ _ _) rfl ?_
    exact⟨⟨_,rfl⟩,.inr ⟨_,N.out,r⟩⟩
  ·obtain rfl:k=xs.length:=by omega
   rw[List.take_length] at g
   gi_wp2
   go_end0
   exact⟨⟨_,rfl⟩,.inl g⟩
end
section
open Go.Shelf
attribute [local go_sem] Oper.semAt_some
theorem Ae (l:List (Int×Int)) (x:Int×Int):dC (l++[x])=dC l++[.int .i64 x.1,.int .i64 x.2]:=by simp[dC]
set_option maxRecDepth 100000 in
set_option maxHeartbeats 4000000 in
theorem FG (F:Nat) (O:Array Value) (n0 c:Nat) (xs:List (Int×Int)) (w:World) (eg:∀args w,(callFunc F args).run Tryz.prog w=.ok (.enter F args) w) (a0:n0<=w.heap.size) (hN:xs.length<=1048576)
  (J:nX Tryz.prog F O (fun i:Int×Int=>#[.agg #[.int .i64 i.1,.int .i64 i.2]]) n0 c xs w) :
  Calls Tryz.prog 179 #[.slice none 0 0,.func (.func F) #[] O] w fun e w'=>∃v,e=.returned v∧Below w.heap.size w w'∧w'.ownsRow w.heap.size 58 2 v xs.length (dC xs):=by
 obtain⟨i0,hi,a1,a2,a3⟩:=info_parts Tryz.fX;have HN:=aD J;clear J;refine (callsIn_wide (n:=0)).1 (callsIn_of_wp_marks Tryz.func179 rfl trivial ?_ rfl);simp only[Tryz.ntmps179,List.size_toArray,List.length_cons,List.length_nil,Nat.reduceAdd,Nat.reduceSub,Array.replicate_succ,Array.replicate_zero,List.push_toArray,List.append_toArray,List.nil_append,List.cons_append]
 gi_wp2
 obtain⟨z,q⟩:∃z,z=w.alloc (.cells #[.slice none 0 0] 49):=⟨_,rfl⟩;rw[← q]
 have hz:z.heap.size=w.heap.size+1:=by rw[q]; simp
 have I:Below w.heap.size w z:=by rw[q]; exact bC _ _
 have T:Boxed z w.heap.size 49 (.slice none 0 0):=by rw[q]; exact Boxed.new w _ _
 clear q
 refine C7 (w0:=w) (n0:=n0) (c:=c) rfl eg HN.out I (by omega) (fun _=>rfl)
  (fun b W=>(∃v,Boxed W w.heap.size 49 v∧W.ownsRow (z.heap.size+2+c) 58 2 v b.length (dC b)∧True)∧Below w.heap.size w W) (fun _ _=>False)
  (fun s A B row M hg hr=>⟨holdsRow_own _ w.heap.size 49 58 2 (fun b:List (Int×Int)=>b.length) dC (fun _ _=>True) s A B row M.1 hg fun r e=>(hr r e).2,M.2.grown hg M.2.size fun r e=>by have:=(hr r e).1; omega⟩)
  (fun _ _ _ _ M _ _=>M)
  ⟨⟨_,T,World.ownsRow_nil _ _ _ _,trivial⟩,I⟩
  (fun x S d=>∃t,z.heap.size+2+c<=t∧t<d.heap.size∧d.heap[t]?=some (.cells #[.int .i64 x.1,.int .i64 x.2] 58 (0,0)) ∧
   S={ tmps:=#[.slice none 0 0,.func (.func F) #[] O,.pointer (some ⟨w.heap.size,0,none⟩),undef,.slice none 0 0,.pointer (some ⟨t,0,none⟩),.func (.func F) #[] O,.agg #[.int .i64 x.1,.int .i64 x.2],undef,undef,undef,undef,undef],defers:=[] })
  (fun x S d o E ⟨t,h1,h2,h3,h5⟩=>⟨t,h1,by simpa using h2,(World.putObj_heap_other (by omega)).trans h3,h5⟩)
  ?assign ?body ?done ?stop
 case assign=>
  intro lr x d K E G
  gi_wp2
  exact G _ _ (bC _ _) ⟨d.heap.size,E,by simp,World.alloc_heap_new d _,rfl⟩
 case body=>
  rintro lr b x d C E ⟨⟨v,N,l,-⟩,H⟩ S ⟨t,a5,a6,g,rfl⟩
  have x0:d.cell? ⟨t,0,none⟩=some (.int .i64 x.1):=by simp[World.cell?,g]
  have x1:d.cell? ⟨t,1,none⟩=some (.int .i64 x.2):=by simp[World.cell?,g]
  have a8:=aD g;clear g;have U:=N.cell
  have a7:b.length+1<=xs.length:=by have:=C.length_le; simpa using this
  have R:=aD l;have HV:=aD N
  have Y:b.length+1<=maxLen:=by unfold maxLen; omega
  have Z:(b.length+1)*16<=140737488355328:=by omega
  have L:∀j u,([.int .i64 x.1,.int .i64 x.2]:List Value)[j]?=some u->(d.alloc (.cells #[.int .i64 x.1,.int .i64 x.2] 58)).cell? ((⟨d.heap.size,0,none⟩:Addr).add j)=some u:=fun j u V=>by
   rw[mJ,Nat.zero_add];have X:j<2:=(List.getElem?_eq_some_iff.1 V).1;rw[(dH d 58 #[.int .i64 x.1,.int .i64 x.2]).cell (by simpa using X)];rcases Nat.lt_or_ge j 1 with h | h
   ·obtain rfl:j=0:=by omega
    exact V
   ·obtain rfl:j=1:=by omega
    exact V
  have Q:=aD L
  have P:Hid (∀u∈([.int .i64 x.1,.int .i64 x.2]:List Value),u.oneCell'=true):=by
   intro u hu;simp at hu
   rcases hu with rfl | rfl <;> rfl
  clear l N L
  gi_wp2_with (gi_at_builtin; refine wpListIn_append_own _ rfl _ _ 49 rfl (z.heap.size+2+c) 58 i0 (.agg #[.int .i64 0,.int .i64 0]) 2 16 Tryz.underlying49 hi a1 a2 a3 rfl (by decide) _ _ _ rfl (R.out.alloc _) ⟨d.heap.size,0,none⟩ 1 1 [.int .i64 x.1,.int .i64 x.2] rfl rfl Q.out P.out Y Z (by simp; omega) ?_; intro v' w2 f a _; obtain⟨g',a4,rfl⟩:=ownsRow_succ f; have y:=(HV.out.alloc _).kept a (HV.out.not_row (by decide) R.out); have a9:=y.cell; have aA:=y.frozen)
  have m:∀k,v.ownBlock=some k->z.heap.size+2+c<=k:=fun k hk=>(gJ R.out hk).1;refine⟨fun k h1 h2=>?_,?_,⟨_,y.set _,?_,trivial⟩,?_⟩
  ·refine (Below.heap_setCell _ _ _ k (by show k≠w.heap.size; omega)).trans ((a.block k (by simp; omega) fun e=>by have:=m k e.symm; omega).trans (Below.heap_alloc _ _ _ (by omega)))
  ·exact (((Below.refl n0 d).alloc (by omega) _).grown a (by simp; omega) fun k e=>by have:=m k e; omega).setCell (p:=⟨w.heap.size,0,none⟩) a0 _
  ·rw[Ae,List.length_append];exact f.kept (grownBy_setCell' w2 w.heap.size _) (.inr (y.not_row (by decide) f).symm)
  ·exact ((H.alloc H.size _).grown a (by simp; have:=H.size; omega) fun k e=>by have:=m k e; omega).setCell (p:=⟨w.heap.size,0,none⟩) (Nat.le_refl _) _
 case done=>
  rintro D d hD ⟨⟨v,N,l,-⟩,H⟩ G;have U:=N.cell
  gi_wp2
  refine⟨by simp,.inl ⟨_,_,rfl,run_takeDeferred G,?_⟩⟩;exact⟨_,results_tmp rfl _ _ _,v,rfl,H.trans (belowK_b (w:=w) (Nat.le_refl _) d D _ _ (by omega) G rfl rfl),nV (ownsRow_putObj l _ G rfl) (by omega)⟩
 case stop=>
  intro D b d hD C hf G;exact hf.elim
set_option maxHeartbeats 1000000 in
theorem FX (b:Nat) (g:Array Value) (n0 c:Nat) (xs:List (Int×Int)) (w:World) (m:∀args w,(callFunc b args).run Tryz.prog w=.ok (.enter b args) w) (f:n0<=w.heap.size) (n:xs.length<=1048576)
  (d:nX Tryz.prog b g (fun i:Int×Int=>#[.agg #[.int .i64 i.1,.int .i64 i.2]]) n0 c xs w) :
  Calls Tryz.prog 150 #[.func (.func b) #[] g] w fun e w'=>∃v,e=.returned v∧Below w.heap.size w w'∧w'.ownsRow w.heap.size 58 2 v xs.length (dC xs):=by
 have k:=aD (FG b g n0 c xs w m f n d);clear d;go_enter Tryz.func150,Tryz.ntmps150
 go_wp2_with fail
 refine k.out.mono ?_;rintro e o ⟨v,rfl,h,a⟩;have j:=aD h;have l:=aD a;clear h a;go_wp2;go_ret;exact⟨v,rfl,j.out,l.out⟩
end
section
open Go.Lib Go.Shelf
set_option maxRecDepth 100000 in
set_option maxHeartbeats 4000000 in
theorem GX (n:Nat) (w:World) (s:n<=2097152) :
  Calls Tryz.prog 186 #[.slice none 0 0,.int .i64 (n:Int)] w fun e w'=>∃v,e=.returned v∧Below w.heap.size w w'∧w'.ownsRow w.heap.size 3 1 v 0 []:=by
 obtain⟨m,hi,i,j,d⟩:=info_parts Tryz.dA;rcases Nat.eq_zero_or_pos n with e | e
 ·subst e;go_enter Tryz.func186,Tryz.ntmps186;go_wp2;go_ret;exact⟨_,rfl,Below.refl _ _,World.ownsRow_nil _ _ _ _⟩
 ·have c:∀o,(Builtin.append_ #[23,3] o #[.slice none 0 0,.int .i64 (n:Int)]).run Tryz.prog w =
    .ok (.slice (some ⟨w.heap.size,0,none⟩) n (grownCap w n 0 3)) (w.drew.alloc (.cells ((#[]:Array Value)++Builtin.zeroCells (.int .i64 0:Value).cells n++Builtin.zeroCells (.int .i64 0:Value).cells (grownCap w n 0 3 - n)) 3)):=fun o=>by
   have h:=Lib.run_append_grow_zeros w 23 3 o 3 m _ .i64 .i64 Tryz.underlying23 Tryz.underlying3 hi i none 0 0 [] (run_firstCells_none w.drew m.size 0 0 0) n e (by rw[j]; decide) (by omega) (by omega) (by rw[d]; omega) (by rw[d,Nat.zero_add]; exact growslice_fits (by omega) (by omega));rw[Nat.zero_add] at h;exact h
  have l:n<=grownCap w n 0 3:=grownCap_ge w _ _ _;have a:grownCap w n 0 3<=maxLen:=grownCap_le_maxLen w n 0 3 (by unfold maxLen; omega);obtain⟨G,p⟩:∃G,G=grownCap w n 0 3:=⟨_,rfl⟩;rw[← p] at c l a
  have r:G<=9223372036854775807:=by unfold maxLen at a; omega
  clear p hi i j d m;obtain⟨cur,b⟩:∃cur,cur=(#[]:Array Value)++Builtin.zeroCells (.int .i64 0:Value).cells n++Builtin.zeroCells (.int .i64 0:Value).cells (G-n):=⟨_,rfl⟩;rw[← b] at c
  have g:cur.size=G*1:=by
   have q:(.int .i64 0:Value).cells.size=1:=rfl;rw[b]; simp[Builtin.zeroCells,q]; omega
  have k:=aD g;have f:=aD a;clear b g a;go_enter Tryz.func186,Tryz.ntmps186
  go_wp2_with (at_builtin; refine Lib.wpList_append_run _ rfl _ _ _ _ rfl _ _ rfl rfl _ _ (c _) ?_)
  all_goals
   go_ret;refine⟨_,rfl,(Below.refl _ _).drew.alloc (Nat.le_refl _) _,rfl,.inr ⟨w.heap.size,G,cur,rfl,Nat.le_refl _,World.alloc_heap_new w.drew _,by omega,f.out,k.out,by simp⟩⟩
set_option maxRecDepth 100000 in
set_option maxHeartbeats 4000000 in
theorem GY (n:Nat) (w:World) (s:n<=2097152) :
  Calls Tryz.prog 206 #[.slice none 0 0,.int .i64 (n:Int)] w fun e w'=>∃v,e=.returned v∧Below w.heap.size w w'∧w'.ownsRow w.heap.size 58 2 v 0 []:=by
 obtain⟨m,hi,i,j,d⟩:=info_parts Tryz.fX;rcases Nat.eq_zero_or_pos n with e | e
 ·subst e;go_enter Tryz.func206,Tryz.ntmps206;go_wp2;go_ret;exact⟨_,rfl,Below.refl _ _,World.ownsRow_nil _ _ _ _⟩
 ·have c:∀o,(Builtin.append_ #[49,3] o #[.slice none 0 0,.int .i64 (n:Int)]).run Tryz.prog w =
    .ok (.slice (some ⟨w.heap.size,0,none⟩) n (grownCap w n 0 58)) (w.drew.alloc (.cells ((#[]:Array Value)++Builtin.zeroCells (.agg #[.int .i64 0,.int .i64 0]:Value).cells n++Builtin.zeroCells (.agg #[.int .i64 0,.int .i64 0]:Value).cells (grownCap w n 0 58 - n)) 58)):=fun o=>by
   have h:=Lib.run_append_grow_zeros w 49 3 o 58 m _ .i64 .i64 Tryz.underlying49 Tryz.underlying3 hi i none 0 0 [] (run_firstCells_none w.drew m.size 0 0 0) n e (by rw[j]; decide) (by omega) (by omega) (by rw[d]; omega) (by rw[d,Nat.zero_add]; exact growslice_fits (by omega) (by omega));rw[Nat.zero_add] at h;exact h
  have l:n<=grownCap w n 0 58:=grownCap_ge w _ _ _;have a:grownCap w n 0 58<=maxLen:=grownCap_le_maxLen w n 0 58 (by unfold maxLen; omega);obtain⟨G,p⟩:∃G,G=grownCap w n 0 58:=⟨_,rfl⟩;rw[← p] at c l a
  have r:G<=9223372036854775807:=by unfold maxLen at a; omega
  clear p hi i j d m;obtain⟨cur,b⟩:∃cur,cur=(#[]:Array Value)++Builtin.zeroCells (.agg #[.int .i64 0,.int .i64 0]:Value).cells n++Builtin.zeroCells (.agg #[.int .i64 0,.int .i64 0]:Value).cells (G-n):=⟨_,rfl⟩;rw[← b] at c
  have g:cur.size=G*2:=by
   have q:(.agg #[.int .i64 0,.int .i64 0]:Value).cells.size=2:=rfl;rw[b]; simp[Builtin.zeroCells,q]; omega
  have k:=aD g;have f:=aD a;clear b g a;go_enter Tryz.func206,Tryz.ntmps206
  go_wp2_with (at_builtin; refine Lib.wpList_append_run _ rfl _ _ _ _ rfl _ _ rfl rfl _ _ (c _) ?_)
  all_goals
   go_ret;refine⟨_,rfl,(Below.refl _ _).drew.alloc (Nat.le_refl _) _,rfl,.inr ⟨w.heap.size,G,cur,rfl,Nat.le_refl _,World.alloc_heap_new w.drew _,by omega,f.out,k.out,by simp⟩⟩
end
section
open Go.Deep
theorem Cw {P:Nat->Prop}{W:World}{a:Option Addr}{l:List Int}{c:Nat}(h:Ints P W (.slice a l.length c) l):l.length=0∨∃A,a=some A∧∀j u,(dD l)[j]?=some u->W.cell? (A.add j)=some u:=by
 obtain⟨k,m,i,f | ⟨b,off,rfl,-,g⟩⟩:=h
 ·exact .inl f
 ·cases i
  refine .inr ⟨_,rfl,fun j u d=>?_⟩;unfold dD at d;rw[List.getElem?_map] at d;obtain⟨x,e,rfl⟩:=Option.map_eq_some_iff.1 d;rw[mJ];exact g j (List.getElem?_eq_some_iff.1 e).1 x e
theorem D1 (l:List Int):∀u∈dD l,u.oneCell'=true:=fun u a=>by
 obtain⟨x,-,rfl⟩:=List.mem_map.1 a
 rfl
set_option maxRecDepth 100000 in
set_option maxHeartbeats 8000000 in
theorem Fc (b off H:Nat) (v1 v2:Value) (l1 l2:List Int) (w:World) (M:b<w.heap.size) (K:w.cell? ⟨b,off,none⟩=some v1) (L:w.cell? ⟨b,off+1,none⟩=some v2) (I:Ints (In w) w v1 l1) (J:Ints (In w) w v2 l2) (U:l1.length<=1048576) (V:l2.length<=1048576) :
  Calls Tryz.prog 159 #[.slice (some ⟨b,off,none⟩) 2 H] w fun e w'=>∃v,e=.returned v∧Below w.heap.size w w'∧w'.ownsRow w.heap.size 3 1 v (l1.length+l2.length) (dD l1++dD l2):=by
 have P:=aD I;have Q:=aD J;obtain⟨S,k1,rfl⟩:=I.size;obtain⟨T,k2,rfl⟩:=J.size;have N:=aD K;have O:=aD L;clear I J;go_enter Tryz.func159,Tryz.ntmps159;go_wp2
 go_loop [3,11] (fun s i=>(i=.int .i64 0∧s=.int .i64 0)∨(i=.int .i64 1∧s=.int .i64 (l1.length:Int))∨(i=.int .i64 2∧s=.int .i64 ((l1.length:Int)+(l2.length:Int)))) (fun _ i=>2-(intOf i).toNat)
 case atStart=>exact .inl ⟨rfl,rfl⟩
 case round=>
  rcases hrel with ⟨rfl,rfl⟩ | ⟨rfl,rfl⟩ | ⟨rfl,rfl⟩
  ·go_wp2
   go_round
   case rel=>exact .inr (.inl ⟨by go_num,by go_num⟩)
   case measure=>simp[intOf]
  ·go_wp2
   go_round
   case rel=>exact .inr (.inr ⟨by go_num,by go_num⟩)
   case measure=>simp[intOf]
  ·go_wp2_with fail
   refine (GX (l1.length+l2.length) w (by omega)).mono ?_;rintro e w1 ⟨v0,rfl,B,j⟩;have C:=aD B;have D:=aD j;obtain⟨R,F,rfl⟩:=zag j;clear B j K L;go_wp2
   go_loopw [6,27] (fun s i wr=>∃(a:Option Addr) (m c:Nat),s=.slice a m c∧Below w.heap.size w wr∧((i=.int .i64 0∧wr.ownsRow w.heap.size 3 1 (.slice a m c) 0 [])∨(i=.int .i64 1∧wr.ownsRow w.heap.size 3 1 (.slice a m c) l1.length (dD l1))∨(i=.int .i64 2∧wr.ownsRow w.heap.size 3 1 (.slice a m c) (l1.length+l2.length) (dD l1++dD l2)))) (fun _ i _=>2-(intOf i).toNat)
   case atStart=>exact⟨R,0,F,rfl,C.out,.inl ⟨rfl,D.out⟩⟩
   case round=>
   obtain⟨Z,mx,cx,rfl,g,⟨rfl,d⟩ | ⟨rfl,d⟩ | ⟨rfl,d⟩⟩:=hrel
   all_goals
    have k0:=(g.cell (p:=⟨b,off,none⟩) M).trans N.out;have W:=(g.cell (p:=⟨b,off+1,none⟩) M).trans O.out
   ·have x:=aD d;have l:=d.1;have z:=aD (Cw (P.out.keep (In.keep g).1 (In.keep g).2));have y:=aD (D1 l1);have k:=aD g
    have r:Hid (0+l1.length<=maxLen):=by show 0+l1.length<=maxLen; unfold maxLen; omega
    have t:Hid ((0+l1.length)*8<=140737488355328):=by show (0+l1.length)*8<=140737488355328; omega
    have A:Hid (w.heap.size<=wr.heap.size):=g.size
    have n:(dD l1).length=l1.length*1:=by rw[tP]; omega
    have q:=aD n;clear d g n l
    go_wp2_with (at_builtin; refine iN rfl _ _ 23 rfl w.heap.size 3 (.int .i64 0) 1 8 Tryz.underlying23 Tryz.dA rfl (by decide) _ 0 [] rfl x.out S l1.length _ (dD l1) rfl q.out z.out y.out r.out t.out A.out ?_)
    intro X Y f h;have o:=aD (k.out.trans (mH x.out h (Nat.le_refl _) A.out));have u:=aD f;obtain⟨E,G,rfl⟩:=zag f;clear f h;go_wp2;go_roundw
    case rel=>exact⟨E,_,G,rfl,o.out,.inr (.inl ⟨by go_num,by simpa using u.out⟩)⟩
    case measure=>simp[intOf]
   ·have x:=aD d;have l:=d.1;have z:=aD (Cw (Q.out.keep (In.keep g).1 (In.keep g).2));have y:=aD (D1 l2);have k:=aD g
    have r:Hid (l1.length+l2.length<=maxLen):=by show l1.length+l2.length<=maxLen; unfold maxLen; omega
    have t:Hid ((l1.length+l2.length)*8<=140737488355328):=by show (l1.length+l2.length)*8<=140737488355328; omega
    have A:Hid (w.heap.size<=wr.heap.size):=g.size
    have n:(dD l2).length=l2.length*1:=by rw[tP]; omega
    have q:=aD n;clear d g n l
    go_wp2_with (at_builtin; refine iN rfl _ _ 23 rfl w.heap.size 3 (.int .i64 0) 1 8 Tryz.underlying23 Tryz.dA rfl (by decide) _ l1.length (dD l1) rfl x.out T l2.length _ (dD l2) rfl q.out z.out y.out r.out t.out A.out ?_)
    intro X Y f h;have o:=aD (k.out.trans (mH x.out h (Nat.le_refl _) A.out));have u:=aD f;obtain⟨E,G,rfl⟩:=zag f;clear f h;go_wp2;go_roundw
    case rel=>exact⟨E,_,G,rfl,o.out,.inr (.inr ⟨by go_num,u.out⟩)⟩
    case measure=>simp[intOf]
   ·have x:=aD d;have k:=aD g;clear d g;go_wp2;go_ret;exact⟨_,rfl,k.out,x.out⟩
set_option maxRecDepth 100000 in
set_option maxHeartbeats 8000000 in
theorem Fe (b off H:Nat) (v1 v2:Value) (l1 l2:List (Int×Int)) (w:World) (M:b<w.heap.size) (K:w.cell? ⟨b,off,none⟩=some v1) (L:w.cell? ⟨b,off+1,none⟩=some v2) (I:Lies (In w) w v1 l1) (J:Lies (In w) w v2 l2) (U:l1.length<=1048576) (V:l2.length<=1048576) :
  Calls Tryz.prog 182 #[.slice (some ⟨b,off,none⟩) 2 H] w fun e w'=>∃v,e=.returned v∧Below w.heap.size w w'∧w'.ownsRow w.heap.size 58 2 v (l1.length+l2.length) (dC l1++dC l2):=by
 have P:=aD I;have Q:=aD J;obtain⟨S,k1,rfl⟩:=I.size;obtain⟨T,k2,rfl⟩:=J.size;have N:=aD K;have O:=aD L;clear I J;go_enter Tryz.func182,Tryz.ntmps182;go_wp2
 go_loop [3,11] (fun s i=>(i=.int .i64 0∧s=.int .i64 0)∨(i=.int .i64 1∧s=.int .i64 (l1.length:Int))∨(i=.int .i64 2∧s=.int .i64 ((l1.length:Int)+(l2.length:Int)))) (fun _ i=>2-(intOf i).toNat)
 case atStart=>exact .inl ⟨rfl,rfl⟩
 case round=>
  rcases hrel with ⟨rfl,rfl⟩ | ⟨rfl,rfl⟩ | ⟨rfl,rfl⟩
  ·go_wp2
   go_round
   case rel=>exact .inr (.inl ⟨by go_num,by go_num⟩)
   case measure=>simp[intOf]
  ·go_wp2
   go_round
   case rel=>exact .inr (.inr ⟨by go_num,by go_num⟩)
   case measure=>simp[intOf]
  ·go_wp2_with fail
   refine (GY (l1.length+l2.length) w (by omega)).mono ?_;rintro e w1 ⟨v0,rfl,B,j⟩;have C:=aD B;have D:=aD j;obtain⟨R,F,rfl⟩:=zag j;clear B j K L;go_wp2
   go_loopw [6,27] (fun s i wr=>∃(a:Option Addr) (m c:Nat),s=.slice a m c∧Below w.heap.size w wr∧((i=.int .i64 0∧wr.ownsRow w.heap.size 58 2 (.slice a m c) 0 [])∨(i=.int .i64 1∧wr.ownsRow w.heap.size 58 2 (.slice a m c) l1.length (dC l1))∨(i=.int .i64 2∧wr.ownsRow w.heap.size 58 2 (.slice a m c) (l1.length+l2.length) (dC l1++dC l2)))) (fun _ i _=>2-(intOf i).toNat)
   case atStart=>exact⟨R,0,F,rfl,C.out,.inl ⟨rfl,D.out⟩⟩
   case round=>
   obtain⟨Z,mx,cx,rfl,g,⟨rfl,d⟩ | ⟨rfl,d⟩ | ⟨rfl,d⟩⟩:=hrel
   all_goals
    have k0:=(g.cell (p:=⟨b,off,none⟩) M).trans N.out;have W:=(g.cell (p:=⟨b,off+1,none⟩) M).trans O.out
   ·have x:=aD d;have l:=d.1;have z:=aD (vP (P.out.keep (In.keep g).1 (In.keep g).2));have y:=aD (vL l1);have k:=aD g
    have r:Hid (0+l1.length<=maxLen):=by show 0+l1.length<=maxLen; unfold maxLen; omega
    have t:Hid ((0+l1.length)*16<=140737488355328):=by show (0+l1.length)*16<=140737488355328; omega
    have A:Hid (w.heap.size<=wr.heap.size):=g.size;have n:(dC l1).length=l1.length*2:=tN _;have q:=aD n;clear d g n l
    go_wp2_with (at_builtin; refine iN rfl _ _ 49 rfl w.heap.size 58 (.agg #[.int .i64 0,.int .i64 0]) 2 16 Tryz.underlying49 Tryz.fX rfl (by decide) _ 0 [] rfl x.out S l1.length _ (dC l1) rfl q.out z.out y.out r.out t.out A.out ?_)
    intro X Y f h;have o:=aD (k.out.trans (mH x.out h (Nat.le_refl _) A.out));have u:=aD f;obtain⟨E,G,rfl⟩:=zag f;clear f h;go_wp2;go_roundw
    case rel=>exact⟨E,_,G,rfl,o.out,.inr (.inl ⟨by go_num,by simpa using u.out⟩)⟩
    case measure=>simp[intOf]
   ·have x:=aD d;have l:=d.1;have z:=aD (vP (Q.out.keep (In.keep g).1 (In.keep g).2));have y:=aD (vL l2);have k:=aD g
    have r:Hid (l1.length+l2.length<=maxLen):=by show l1.length+l2.length<=maxLen; unfold maxLen; omega
    have t:Hid ((l1.length+l2.length)*16<=140737488355328):=by show (l1.length+l2.length)*16<=140737488355328; omega
    have A:Hid (w.heap.size<=wr.heap.size):=g.size;have n:(dC l2).length=l2.length*2:=tN _;have q:=aD n;clear d g n l
    go_wp2_with (at_builtin; refine iN rfl _ _ 49 rfl w.heap.size 58 (.agg #[.int .i64 0,.int .i64 0]) 2 16 Tryz.underlying49 Tryz.fX rfl (by decide) _ l1.length (dC l1) rfl x.out T l2.length _ (dC l2) rfl q.out z.out y.out r.out t.out A.out ?_)
    intro X Y f h;have o:=aD (k.out.trans (mH x.out h (Nat.le_refl _) A.out));have u:=aD f;obtain⟨E,G,rfl⟩:=zag f;clear f h;go_wp2;go_roundw
    case rel=>exact⟨E,_,G,rfl,o.out,.inr (.inr ⟨by go_num,u.out⟩)⟩
    case measure=>simp[intOf]
   ·have x:=aD d;have k:=aD g;clear d g;go_wp2;go_ret;exact⟨_,rfl,k.out,x.out⟩
theorem Fg (a b:List (Int×Int)):dC (a++b)=dC a++dC b:=by unfold dC; rw[List.flatMap_append]
theorem D3 {w:World}{base:Nat}{v:Value}{l1 l2:List (Int×Int)}(h:w.ownsRow base 58 2 v (l1.length+l2.length) (dC l1++dC l2)):Lies (fun c=>base<=c∧c<w.heap.size) w v (l1++l2):=by
 rw[← Fg] at h;have l:l1.length+l2.length=(l1++l2).length:=List.length_append.symm;rw[l] at h;rcases Nat.eq_zero_or_pos (l1++l2).length with e | e
 ·obtain⟨-,⟨rfl,-⟩ | ⟨g,a,cur,rfl,-⟩⟩:=h
  ·exact⟨none,0,by rw[e],.inl e⟩
  ·exact⟨_,a,rfl,.inl e⟩
 ·obtain⟨g,a,f,rfl,k,b,m,d⟩:=zdt h e
  exact⟨_,a,rfl,.inr ⟨g,0,rfl,⟨k,b.lt⟩,fun i hi x j=>by
   rw[Nat.zero_add,b.cell (by omega),b.cell (by omega),d _ _ (xJ _ i x j).1,d _ _ (xJ _ i x j).2]
   exact⟨rfl,rfl⟩⟩⟩
set_option maxHeartbeats 2000000 in
theorem FU (b off f:Nat) (v1 v2:Value) (l1 l2:List Int) (w:World) (g:b<w.heap.size) (s:w.cell? ⟨b,off,none⟩=some v1) (t:w.cell? ⟨b,off+1,none⟩=some v2) (u:Ints (In w) w v1 l1) (x:Ints (In w) w v2 l2) (n:l1.length<=1048576) (q:l2.length<=1048576) :
  Calls Tryz.prog 111 #[.slice (some ⟨b,off,none⟩) 2 f] w fun e w'=>∃bS v,e=.returned (.func (.func 185) #[] #[.pointer (some ⟨bS,0,none⟩)])∧Below w.heap.size w w'∧bS<w'.heap.size∧w'.cell? ⟨bS,0,none⟩=some v∧Ints (In w') w' v (l1++l2):=by
 have y:=aD (Fc b off f v1 v2 l1 l2 w g s t u x n q);clear u x s t;go_enter Tryz.func111,Tryz.ntmps111
 go_wp2_with fail
 refine y.out.mono ?_;rintro e C ⟨v,rfl,h,d⟩;rw[← xD] at d;have l:=(oF d).2;obtain⟨A,B,rfl⟩:=l.size;rw[List.length_append] at l;have z:=aD l;have r:=aD h;clear d l h
 go_wp2_with fail
 refine (Fw _ _ _ _).mono ?_;rintro e D ⟨rfl,k⟩;have m:=cZ C 23 #[.slice A (l1.length+l2.length) B];rw[← k] at m;have a:=aD m;clear k m;go_wp2;go_ret;have c:=a.out.c 0 0 rfl rfl;rw[Nat.add_zero] at c;exact⟨_,_,rfl,r.out.trans (a.out.below.mono r.out.size),a.out.lt (j:=0) rfl,c,z.out.keep (fun b g o=>a.out.below.cell (p:=⟨b,o,none⟩) g.2) fun b g=>Nat.lt_of_lt_of_le g.2 a.out.below.size⟩
set_option maxHeartbeats 2000000 in
theorem FV (b off f:Nat) (v1 v2:Value) (l1 l2:List (Int×Int)) (w:World) (g:b<w.heap.size) (s:w.cell? ⟨b,off,none⟩=some v1) (t:w.cell? ⟨b,off+1,none⟩=some v2) (u:Lies (In w) w v1 l1) (x:Lies (In w) w v2 l2) (n:l1.length<=1048576) (q:l2.length<=1048576) :
  Calls Tryz.prog 152 #[.slice (some ⟨b,off,none⟩) 2 f] w fun e w'=>∃bS v,e=.returned (.func (.func 205) #[] #[.pointer (some ⟨bS,0,none⟩)])∧Below w.heap.size w w'∧bS<w'.heap.size∧w'.cell? ⟨bS,0,none⟩=some v∧Lies (In w') w' v (l1++l2):=by
 have y:=aD (Fe b off f v1 v2 l1 l2 w g s t u x n q);clear u x s t;go_enter Tryz.func152,Tryz.ntmps152
 go_wp2_with fail
 refine y.out.mono ?_;rintro e C ⟨v,rfl,h,d⟩;have l:=D3 d;obtain⟨A,B,rfl⟩:=l.size;rw[List.length_append] at l;have z:=aD l;have r:=aD h;clear d l h
 go_wp2_with fail
 refine (Fx _ _ _ _).mono ?_;rintro e D ⟨rfl,k⟩;have m:=cZ C 49 #[.slice A (l1.length+l2.length) B];rw[← k] at m;have a:=aD m;clear k m;go_wp2;go_ret;have c:=a.out.c 0 0 rfl rfl;rw[Nat.add_zero] at c;exact⟨_,_,rfl,r.out.trans (a.out.below.mono r.out.size),a.out.lt (j:=0) rfl,c,z.out.keep (fun b g o=>a.out.below.cell (p:=⟨b,o,none⟩) g.2) fun b g=>Nat.lt_of_lt_of_le g.2 a.out.below.size⟩
end
section
open Classical Go.Deep
def yJ (P:Nat->Prop) (w:World) (v:Value) (n:Nat):Prop:=Sl P v n fun b off i=>∃x:Int,0<=x∧x<=255∧w.cell? ⟨b,off+i,none⟩=some (.int .u8 x)
theorem BF {w:World}{base m:Nat}{v:Value}{l:List (Int×Int)}(h:w.ownsRow base 58 2 v m (dC l)):Lies (fun c=>base<=c∧c<w.heap.size) w v l:=by
 have a:m=l.length:=by have:=h.1; rw[tN] at this; omega
 subst a;have:=D3 (l1:=l) (l2:=[]) (w:=w) (base:=base) (v:=v) (by simpa [dC] using h);simpa using this
theorem Bb {W:World}{t:TypeId}{x:Value}:1=0∨∃A,(some (⟨W.heap.size,0,none⟩:Addr))=some A∧∀j u,([x]:List Value)[j]?=some u->(W.alloc (.cells #[x] t)).cell? (A.add j)=some u:=by
 refine .inr ⟨_,rfl,fun j u b=>?_⟩;rw[mJ,Nat.zero_add];have a:j<1:=(List.getElem?_eq_some_iff.1 b).1;rw[(dH W t #[x]).cell (by simpa using a)];rcases j with _ | j
 ·exact b
 ·omega
theorem iY {W W':World}{base e size:Nat}{v:Value}{n:Nat}{xs:List Value}(h:W.ownsRow base e size v n xs) {K:Nat->Prop}(b:But K W W') (d:∀c,base<=c->c<W.heap.size->K c):W'.ownsRow base e size v n xs:=
 gD h b fun _ a=>d _ (gJ h a).1 (gJ h a).2.1
end
end Go.Proofs.YtdhinkgjiapigaaGreatDoor

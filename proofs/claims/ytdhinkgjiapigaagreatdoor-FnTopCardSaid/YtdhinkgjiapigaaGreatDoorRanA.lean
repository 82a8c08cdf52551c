import Derived.RangeFuncNested
import Derived.RangeFuncBound
import Derived.Shelf.RegionOpen
import Derived.OwnWalkIn
import Derived.LoopNIn
import Derived.LoopIn
import Derived.Test.YtdhinkgjiapigaaGreatDoorFrA
namespace Go.Proofs.YtdhinkgjiapigaaGreatDoor
open Go.RowKit
theorem vT {β:Type}{B a:Nat}{I:β->World->Prop}(h:OwnFrom B I) (c:B<=a):OwnFrom a I:=
 fun s W W' row f d b=>h s W W' row f d fun r e=>⟨Nat.le_trans c (b r e).1,(b r e).2⟩
theorem Gw {W W':World}(a:Below W.heap.size W W') (row:Option Nat):W.grownBy W' row:=⟨a.os,a.tape,a.output,a.size,fun k b _=>a.block k b⟩
theorem rL {β:Type}{B:Nat}{I:β->World->Prop}(h:OwnFrom B I) {s:β}{W W':World}(b:I s W) (a:Below W.heap.size W W'):I s W':=
 h s W W' none b (Gw a none) fun r e=>by cases e
def Mid (a b:Nat) (W W':World):Prop:=∀k,a<=k->k<b->W'.heap[k]?=W.heap[k]?
theorem Mid.trans {a b:Nat}{A B C:World}(h:Mid a b A B) (k:Mid a b B C):Mid a b A C:=fun i c d=>(k i c d).trans (h i c d)
theorem Mid.part {a b c b':Nat}{A B:World}(h:Mid a b A B) (d:a<=c) (e:b'<=b):Mid c b' A B:=fun i f g=>h i (by omega) (by omega)
theorem Mid.call {a b:Nat}{W W':World}(h:Below W.heap.size W W') (c:b<=W.heap.size):Mid a b W W':=fun k _ d=>h.block k (by omega)
def nX {α:Type}(P:Program) (g:Nat) (lb:Array Value) (encs:α->Array Value) (n0 c:Nat) (xs:List α) (w:World):Prop:=
 ∀(l:Nat) (J Jx:List α->World->Prop) (W:World),Below w.heap.size w W->OwnFrom W.heap.size J->OwnFrom W.heap.size Jx ->
  (∀pre x W1,pre++[x] <+: xs->W.heap.size+c<=W1.heap.size->J pre W1->YieldAt Fence.wide 0 P l (encs x) W1 fun e W'=>
   (e=.returned (.bool true)∧J (pre++[x]) W'∧Below n0 W1 W'∧Mid W.heap.size (W.heap.size+c) W1 W')∨(e=.returned (.bool false)∧Jx (pre++[x]) W'∧Mid W.heap.size (W.heap.size+c) W1 W')) ->
  J [] W ->
  CallsIn Fence.wide 0 P g (#[.func (.yield l) #[] #[]]++lb) W fun e W'=>(∃v,e=.returned v)∧(J xs W'∨∃pre,pre <+: xs∧Jx pre W')
def EV {α:Type}(B c n0:Nat) (I Ix:List α->World->Prop) (xs:List α) (W:World):Exit->Act->World->Prop
 | .normal,_,W'=>Mid B (B+2+c) W W'∧Below n0 W W'∧I xs W'
 | .ret,_,W'=>Mid B (B+2+c) W W'∧Ix xs W'
 | _,_,_=>False
theorem Cg {α:Type}{P:Program}{g:Operand}{ps:Array Tmp}{assign body:Code}{Q:Exit->Act->World->Prop}{a:Act}{w w0:World}{V:Nat}{lb:Array Value}{E:α->Array Value}{n0 c:Nat}{xs:List α}
  (hg:a.eval g=.func (.func V) #[] lb) (eg:∀args w,(callFunc V args).run P w=.ok (.enter V args) w) (a4:nX P V lb E n0 c xs w0) (a0:Below w0.heap.size w0 w) (hn:n0<=w.heap.size) (a9:∀x,(E x).size=ps.size)
  (I Ix:List α->World->Prop) (hI:OwnFrom w.heap.size I) (M:OwnFrom w.heap.size Ix) (h0:I [] w) (a1:α->Act)
  (F:∀(l:Nat) (x:α) (W:World) (K:Act->World->Prop),K (a1 x) W ->
   assign.wpIn (Fence.wide.inRound l) 0 P (Exit.then K (fun _ _ _=>False)) { tmps:=(ps.zip (E x)).foldl (fun t (p,v)=>t.setIfInBounds p v) a.tmps,defers:=[] } W)
  (N:∀(l:Nat) (pre:List α) (x:α) (W:World),pre++[x] <+: xs->w.heap.size+2+c<=W.heap.size->I pre W->body.wpIn (Fence.wide.inRound l) 0 P (EV w.heap.size c n0 I Ix (pre++[x]) W) (a1 x) W)
  (O:∀(D:Nat) (W:World),w.heap.size<=D->I xs W->W.heap[D]?=some (.deferred (some []))->Q .normal { a with defers:={ target:=.collected D,args:=#[] } :: a.defers } W)
  (U:∀(D:Nat) (pre:List α) (W:World),w.heap.size<=D->pre <+: xs->Ix pre W->W.heap[D]?=some (.deferred (some []))->Code.ret.wpIn Fence.wide 0 P Q { a with defers:={ target:=.collected D,args:=#[] } :: a.defers } W) :
  (Code.rangeFunc g ps assign body).wpIn Fence.wide 0 P Q a w:=by
 refine wpIn_rangeFunc fun fn a8=>?_
 let rec0:Loop:={ state:=.ready,pending:=none,fn,tmps:=a.tmps,params:=ps,assign,body,defers:=w.heap.size }
 let Fact (r:Loop) (W:World):Prop:=W.heap[w.heap.size]?=some (.deferred (some []))∧W.heap[w.heap.size+1]?=some (.loop r)
 have q:∀r s W W' row,Fact r W->W.grownBy W' row->(∀b,row=some b->w.heap.size+2<=b)->(fun (_:List α)=>Fact r) s W':=fun r s W W' row i u C=>
  ⟨(u.block _ (Array.getElem?_eq_some_iff.1 i.1).1 fun e=>by have:=C _ e.symm; omega).trans i.1,(u.block _ (Array.getElem?_eq_some_iff.1 i.2).1 fun e=>by have:=C _ e.symm; omega).trans i.2⟩
 have d:∀r r' W,Fact r W->Fact r' (W.putObj (w.heap.size+1) (.loop r')):=fun r r' W i=>
  ⟨(World.putObj_heap_other (by omega)).trans i.1,World.putObj_heap_same (Array.getElem?_eq_some_iff.1 i.2).1⟩
 have z:∀r W W',Fact r W->Mid w.heap.size (w.heap.size+2+c) W W'->Fact r W':=fun r W W' i L=>⟨(L _ (Nat.le_refl _) (by omega)).trans i.1,(L _ (by omega) (by omega)).trans i.2⟩;have y:∀W o,Mid (w.heap.size+2) (w.heap.size+2+c) W (W.putObj (w.heap.size+1) o):=fun W o k h1 _=>World.putObj_heap_other (by omega)
 have m:∀r W o,Fact r W->Below n0 W (W.putObj (w.heap.size+1) o):=fun r W o i=>
  (Below.refl n0 W).grown (grownBy_putObj' _ _ _) (by have:=(Array.getElem?_eq_some_iff.1 i.2).1; omega) fun k e=>by cases e; omega
 have f:∀ {K:List α->World->Prop},OwnFrom w.heap.size K->∀r s W o,Fact r W->K s W->K s (W.putObj (w.heap.size+1) o):=fun hK r s W o i T=>hK.putObj o T (by omega) i.2 rfl;obtain⟨H,J⟩:∃H,H=(w.alloc (.deferred (some []))).alloc (.loop rec0):=⟨_,rfl⟩
 have aA:H.heap.size=w.heap.size+2:=by rw[J]; simp
 have a6:Fact rec0 H:=by
  have h1:=World.alloc_heap_new (w.alloc (.deferred (some []))) (.loop rec0);rw[World.size_alloc] at h1;rw[J];exact⟨(Below.heap_alloc _ _ _ (by simp)).trans (World.alloc_heap_new w _),h1⟩
 have a2:Below w.heap.size w H:=by rw[J]; exact ((Below.refl _ w).alloc (Nat.le_refl _) _).alloc (by simp) _
 refine⟨w.heap.size+1,[{ target:=.collected w.heap.size,args:=#[] }],H,{ target:=.fn (.func V) lb,args:=#[.func (.yield (w.heap.size+1)) #[] #[]] },H,V,
  #[.func (.yield (w.heap.size+1)) #[] #[]]++lb,H,?_,?_,fun _ _=>trivial,?_,fun h=>(by cases h),?_⟩
 ·rw[J]; exact run_enterLoop_outer _ _ _ _ _
 ·simp only[resolve,hg];simp[go_sem]
 ·simp[invoke,go_sem,eg]
 refine (a4 (w.heap.size+1) (fun pre W=>I pre W∧Fact rec0 W) (fun pre W=>Ix pre W∧Fact { rec0 with state:=.done,pending:=some .ret } W) H (a0.trans (a2.mono a0.size))
  (fun s A B row T u C=>⟨vT hI (by omega) s A B row T.1 u C,q _ s A B row T.2 u fun b e=>by have:=(C b e).1; omega⟩)
  (fun s A B row T u C=>⟨vT M (by omega) s A B row T.1 u C,q _ s A B row T.2 u fun b e=>by have:=(C b e).1; omega⟩) ?_ ⟨rL hI h0 a2,a6⟩).mono ?_
 ·rintro pre x W G a5 ⟨hi,i⟩;rw[aA] at a5 ⊢;refine⟨fn,_,assign,body,run_yield i.2 (a9 x),roundIn_of_wpIn a8 (F _ x W _ ⟨_,run_beginRound i.2 rfl,?_⟩)⟩;have a7:=d _ { rec0 with state:=.busy } W i;refine wpIn_mono (N _ pre x _ G (by simpa using a5) (f hI _ _ _ _ i hi)) ?_;rintro e a3 Y X
  have Z:∀(j:Option Code),Mid w.heap.size (w.heap.size+2+c) (W.putObj (w.heap.size+1) (.loop { rec0 with state:=.busy })) Y ->
    Fact { rec0 with state:=.busy } Y∧(Instr.endRound (w.heap.size+1) j).run P Y=.ok (.bool j.isNone) (Y.putObj (w.heap.size+1) (.loop { rec0 with state:=if j.isNone then .ready else .done,pending:=j })) ∧
    Mid (w.heap.size+2) (w.heap.size+2+c) W (Y.putObj (w.heap.size+1) (.loop { rec0 with state:=if j.isNone then .ready else .done,pending:=j })):=fun j L=>by
   have n:=z _ _ _ a7 L;exact⟨n,run_endRound (r:={ rec0 with state:=.busy }) j n.2,((y _ _).trans (L.part (by omega) (by omega))).trans (y _ _)⟩
  cases e with
  | normal=>
   obtain⟨L,hb,R⟩:=X;obtain⟨n,C,S⟩:=Z none L;exact⟨_,_,C,.inl ⟨rfl,⟨f hI _ _ _ _ n R,d _ _ _ n⟩,((m _ _ _ i).trans hb).trans (m _ _ _ n),S⟩⟩
  | ret=>
   obtain⟨L,R⟩:=X;obtain⟨n,C,S⟩:=Z (some .ret) L;exact⟨_,_,C,.inr ⟨rfl,⟨f M _ _ _ _ n R,d _ _ _ n⟩,S⟩⟩
  | exit id=>exact X.elim
  | goto t=>exact X.elim
  | panic ch=>exact X.elim
  | outgrown=>exact X.elim
 ·rintro e W2 ⟨⟨v,rfl⟩,⟨hi,i⟩ | ⟨pre,G,hi,i⟩⟩
  ·exact⟨none,_,run_endLoop i.2 (by simp[rec0]),O _ _ (Nat.le_refl _) (f hI _ _ _ _ i hi) (d _ _ _ i).1⟩
  ·exact⟨some .ret,_,run_endLoop i.2 (by simp),U _ pre _ (Nat.le_refl _) G (f M _ _ _ _ i hi) (d _ _ _ i).1⟩
section
open Classical Go.Shelf
attribute [local go_sem] Oper.semAt_some
def uC (helds:List aM) (i:Nat):Bool:=(helds[i]?.map fun h=>h.state != 0).getD false
def gI (helds:List aM) (k:Nat):List Nat:=(List.range k).filter (uC helds)
theorem xI {a:List aM}{i:Nat}{h:aM}(hi:a[i]?=some h):uC a i=(h.state != 0):=by rw[uC,hi]; rfl
theorem CP (a:List aM) (k:Nat):gI a (k+1)=gI a k++if uC a k then [k] else []:=by
 rw[gI,List.range_succ,List.filter_append];by_cases h:uC a k=true
 ·simp[h,gI]
 ·simp[h,gI]
theorem FY (a:List aM) {k n:Nat}(h:k<=n):gI a k <+: gI a n:=by
 induction n with
 | zero=>
  obtain rfl:k=0:=by omega
  exact List.prefix_rfl
 | succ n ih=>
  rcases Nat.lt_or_ge n k with b | b
  ·obtain rfl:k=n+1:=by omega
   exact List.prefix_rfl
  ·rw[CP]; exact (ih b).trans (List.prefix_append _ _)
theorem xQ {a:List aM}{k i:Nat}(h:i∈gI a k):i<k∧uC a i=true:=by
 simp only[gI,List.mem_filter,List.mem_range] at h; exact h
theorem JB {n0:Nat}{w W:World}(h:Below n0 w W):Same (fun b=>b<n0) w W:=fun b a o=>h.cell (p:=⟨b,o,none⟩) a
set_option maxHeartbeats 2000000 in
theorem Ah (ok f1 a b:Value) (w:World) :
  Calls Tryz.prog 56 #[.agg #[ok,f1,a,b]] w fun e w'=>e=.returned (.func (.func 99) #[] #[.pointer (some ⟨w.heap.size,0,none⟩)])∧w'=w.alloc (.cells #[ok,f1,a,b] 40):=by
 go_enter Tryz.func56,Tryz.ntmps56;go_wp2;go_ret;exact⟨rfl,rfl⟩
set_option maxRecDepth 100000 in
set_option maxHeartbeats 4000000 in
theorem AZ (ok f1 A B:Value) (a:List aM) (n0 f:Nat) (w:World) (n:f<n0) (x:n0<=w.heap.size)
  (H:w.cell? ⟨f,0,none⟩=some ok) (I:w.cell? ⟨f,1,none⟩=some f1) (K:w.cell? ⟨f,2,none⟩=some A) (L:w.cell? ⟨f,3,none⟩=some B)
  (O:dF (fun b=>b<n0) w B a) (Z:a.length<=1048576) :
  nX Tryz.prog 99 #[.pointer (some ⟨f,0,none⟩)] (fun i:Nat=>#[.int .i64 (i:Int)]) n0 0 (gI a a.length) w:=fun l J Jx W M U V N T=>by
 have j:Below n0 w W:=M.mono x
 have u:n0<=W.heap.size:=Nat.le_trans x M.size
 have S:=aD fun (W':World) (h:Below n0 W W')=>O.keep (Q:=In W') (JB (j.trans h)) fun b Y=>Nat.lt_of_lt_of_le Y (Nat.le_trans u h.size)
 have G:=aD fun (W':World) (h:Below n0 W W')=>(⟨((j.trans h).cell (p:=⟨f,0,none⟩) n).trans H,((j.trans h).cell (p:=⟨f,1,none⟩) n).trans I,((j.trans h).cell (p:=⟨f,2,none⟩) n).trans K,((j.trans h).cell (p:=⟨f,3,none⟩) n).trans L⟩:W'.cell? ⟨f,0,none⟩=some ok∧W'.cell? ⟨f,1,none⟩=some f1∧W'.cell? ⟨f,2,none⟩=some A∧W'.cell? ⟨f,3,none⟩=some B)
 obtain⟨af,cf,hv,-⟩:=O
 subst hv
 obtain⟨k0,k1,k2,k3⟩:=G.out W (Below.refl _ _)
 have R:=aD N
 clear N H I K L
 refine callsIn_of_wp Tryz.func99 rfl trivial ?_ rfl
 simp only[Tryz.ntmps99,List.size_toArray,List.length_cons,List.length_nil,Nat.reduceAdd,Nat.reduceSub,Array.replicate_succ,Array.replicate_zero,List.push_toArray,List.append_toArray,List.nil_append,List.cons_append]
 gi_wp2
 gi_loopw [7] (fun i wr=>∃k:Nat,k<=a.length∧i=.int .i64 k∧J (gI a k) wr∧Below n0 W wr) (fun i _=>a.length-(intOf i).toNat)
 case atStart=>exact⟨0,Nat.zero_le _,rfl,T,Below.refl _ _⟩
 case round=>
  obtain⟨k,hk,rfl,q,m⟩:=hrel
  by_cases v:k<a.length
  ·obtain⟨h,hi⟩:=eU a v
   obtain⟨k0,k1,k2,k3⟩:=G.out wr m
   have z:=aD (BK ok f1 A _ a k h wr (S.out wr m) hi Z)
   have C:=xI hi
   have c:=CP a k
   rw[C] at c
   have P:(k:Int)<(a.length:Int):=by omega
   have s:=aD fun (r:World) (h:Below wr.heap.size wr r)=>rL U q h
   have y:=aD fun (r:World) (h:Below wr.heap.size wr r)=>m.trans (h.mono (Nat.le_trans u m.size))
   have F:=aD m.size
   clear q
   cases hst:(h.state != 0)
   ·rw[hst] at z c
    have d:gI a (k+1)=gI a k:=by rw[c]; simp
    clear c C hst hi
    gi_wp2_with (refine⟨trivial,rfl,?_⟩; gi_at_call 97; refine (callsIn_wide.2 z.out).mono ?_; rintro e r ⟨rfl,g⟩)
    refine⟨fun _ h=>(by cases h),?_⟩
    gi_wp2
    go_roundw
    case rel=>exact⟨k+1,by omega,by simp,by rw[d]; exact s.out _ g,y.out _ g⟩
    case measure=>simp[intOf]; omega
   ·rw[hst] at z c
    have d:gI a (k+1)=gI a k++[k]:=by rw[c]; simp
    have o:gI a k++[k] <+: gI a a.length:=by rw[← d]; exact FY a v
    clear c C hst hi
    gi_wp2_with (refine⟨trivial,rfl,?_⟩; gi_at_call 97; refine (callsIn_wide.2 z.out).mono ?_; rintro e r ⟨rfl,g⟩; obtain⟨fn,tmps,assign,body,hy,X⟩:=R.out _ k r o (Nat.le_trans (F.out) g.size) (s.out _ g))
    refine⟨rfl,X.mono ?_⟩
    rintro e W3 (⟨rfl,D,E,-⟩ | ⟨rfl,t,-⟩)
    ·gi_wp2
     go_roundw
     case rel=>exact⟨k+1,by omega,by simp,by rw[d]; exact D,(y.out _ g).trans E⟩
     case measure=>simp[intOf]; omega
    ·gi_wp2
     refine bodyPost_ret (results_none rfl _ _ _) rfl ?_
     exact⟨⟨_,rfl⟩,.inr ⟨_,o,t⟩⟩
  ·obtain rfl:k=a.length:=by omega
   gi_wp2
   go_end0
   exact⟨⟨_,rfl⟩,.inl q⟩
end
section
open Go.Shelf
attribute [local go_sem] Oper.semAt_some
set_option maxHeartbeats 2000000 in
theorem Ab (b c:Nat) (d a:Array Value) (w:World) :
  Calls Tryz.prog 55 #[.func (.func b) #[] d,.func (.func c) a #[]] w fun e w'=>e=.returned (.func (.func 98) #[] #[.pointer (some ⟨w.heap.size,0,none⟩),.pointer (some ⟨w.heap.size+1,0,none⟩)]) ∧
   w'=(w.alloc (.cells #[.func (.func b) #[] d] 96)).alloc (.cells #[.func (.func c) a #[]] 99):=by
 go_enter Tryz.func55,Tryz.ntmps55;go_wp2;go_ret;exact⟨rfl,rfl⟩
theorem Mid.cell {a b:Nat}{W W':World}(h:Mid a b W W') {k o:Nat}(c:a<=k) (d:k<b):W'.cell? ⟨k,o,none⟩=W.cell? ⟨k,o,none⟩:=by
 unfold World.cell?;rw[show W'.heap[(⟨k,o,none⟩:Addr).block]?=W.heap[(⟨k,o,none⟩:Addr).block]? from h k c d]
theorem CX {α:Type}(p:α->Bool) (l:List α) (x:α):(l++[x]).filter p=l.filter p++if p x then [x] else []:=by
 rw[List.filter_append];by_cases h:p x=true
 ·simp[h]
 ·simp[h]
theorem yL {α:Type}(p:α->Bool) {l r:List α}(h:l <+: r):l.filter p <+: r.filter p:=by
 obtain⟨t,rfl⟩:=h;rw[List.filter_append];exact List.prefix_append _ _
set_option maxRecDepth 100000 in
set_option maxHeartbeats 4000000 in
theorem AX (P kf:Nat) (lb y:Array Value) (n0 c z O:Nat) (xs:List Nat) (a:Nat->Bool) (w:World) (a6:z<n0) (a5:O<n0) (q:n0<=w.heap.size)
  (eg:∀args w,(callFunc P args).run Tryz.prog w=.ok (.enter P args) w) (ek:∀args w,(callFunc kf args).run Tryz.prog w=.ok (.enter kf args) w)
  (cV:w.cell? ⟨z,0,none⟩=some (.func (.func P) #[] lb)) (cK:w.cell? ⟨O,0,none⟩=some (.func (.func kf) y #[]))
  (U:nX Tryz.prog P lb (fun i:Nat=>#[.int .i64 (i:Int)]) n0 c xs w)
  (o:∀x W,x∈xs->Below n0 w W->Calls Tryz.prog kf (y.push (.int .i64 (x:Int))) W fun e W'=>e=.returned (.bool (a x))∧Below W.heap.size W W') :
  nX Tryz.prog 98 #[.pointer (some ⟨z,0,none⟩),.pointer (some ⟨O,0,none⟩)] (fun i:Nat=>#[.int .i64 (i:Int)]) n0 (3+c) (xs.filter a) w:=fun l J Jx W hW Z Q hY h0=>by
 have S:Below n0 w W:=hW.mono q
 have a4:n0<=W.heap.size:=Nat.le_trans q hW.size
 have a1:=(S.cell (p:=⟨z,0,none⟩) a6).trans cV
 have KK:=aD fun (W':World) (h:Below n0 w W')=>(h.cell (p:=⟨O,0,none⟩) a5).trans cK
 have HY:=aD hY
 have HK:=aD o
 have HN:=aD U
 clear hY cV cK o U
 refine callsIn_of_wp_marks Tryz.func98 rfl trivial ?_ rfl
 simp only[Tryz.ntmps98,List.size_toArray,List.length_cons,List.length_nil,Nat.reduceAdd,Nat.reduceSub,Array.replicate_succ,Array.replicate_zero,List.push_toArray,List.append_toArray,List.nil_append,List.cons_append]
 have N:=cZ W 99 #[.func (.yield l) #[] #[]]
 have a8:=(N.below.cell (p:=⟨z,0,none⟩) (by show z<_; omega)).trans a1
 have cY:=N.c 0 0 rfl rfl
 rw[Nat.add_zero] at cY
 have hz:(W.alloc (.cells #[.func (.yield l) #[] #[]] 99)).heap.size=W.heap.size+1:=by simp
 gi_wp2
 refine Cg (w0:=w) (n0:=n0) (c:=c) rfl eg HN.out (hW.trans (N.below.mono hW.size)) (by omega) (fun _=>rfl)
  (fun d k=>J (d.filter a) k∧k.cell? ⟨W.heap.size,0,none⟩=some (.func (.yield l) #[] #[])∧Below n0 w k) (fun d k=>Jx (d.filter a) k)
  (fun s A B row I T E=>⟨Z _ A B row I.1 T fun r e=>⟨by have:=(E r e).1; omega,(E r e).2⟩,cell_kept I.2.1 T fun r e=>(E r e).2,I.2.2.grown T (Nat.le_trans q I.2.2.size) fun r e=>by have:=(E r e).1; omega⟩)
  (fun s A B row I T E=>Q _ A B row I T fun r e=>⟨by have:=(E r e).1; omega,(E r e).2⟩)
  ⟨rL Z h0 N.below,cY,S.trans (N.below.mono a4)⟩
  (fun x=>{ tmps:=#[.func (.yield l) #[] #[],.pointer (some ⟨z,0,none⟩),.pointer (some ⟨O,0,none⟩),.pointer (some ⟨W.heap.size,0,none⟩),.int .i64 (x:Int),.func (.func P) #[] lb,.int .i64 (x:Int),undef,undef,undef,undef,undef,undef,undef,undef,undef],defers:=[] }) ?assign ?body ?done ?stop
 case assign=>
  intro lr x k K C
  gi_wp2
  exact C
 case body=>
  rintro lr d x k m a7 ⟨H,hc,hb⟩
  rw[hz] at a7
  have kK:=KK.out _ hb
  have X:x∈xs:=m.subset (by simp)
  have G:=HK.out x k X hb
  have n:=CX a d x
  have u:=yL a m
  have M:=aD fun (L:World) (h:Below k.heap.size k L)=>rL Z H h
  have Y:=aD hb
  have Hc:=aD hc
  clear H
  cases hkx:a x
  ·rw[hkx] at G n
   have HI:=aD G
   have f:(d++[x]).filter a=d.filter a:=by rw[n]; simp
   have t:=aD f
   clear G n f u hkx
   gi_wp2
   refine⟨trivial,rfl,CallsIn.inRound lr ((callsIn_wide.2 HI.out).mono ?_)⟩
   rintro e L ⟨rfl,b⟩
   gi_wp2
   refine⟨fun _ h=>(by cases h),?_⟩
   gi_wp2
   have g:Below n0 k L:=b.mono (Nat.le_trans q Y.out.size)
   exact⟨Mid.call b (by omega),g,by rw[t.out]; exact M.out _ b,(b.cell (p:=⟨W.heap.size,0,none⟩) (by show W.heap.size<_; omega)).trans Hc.out,Y.out.trans g⟩
  ·rw[hkx] at G n
   have HI:=aD G
   have f:(d++[x]).filter a=d.filter a++[x]:=by rw[n]; simp
   rw[f] at u
   have t:=aD f
   have a0:=aD u
   clear G n f u hkx
   gi_wp2
   refine⟨trivial,rfl,CallsIn.inRound lr ((callsIn_wide.2 HI.out).mono ?_)⟩
   rintro e L ⟨rfl,b⟩
   have g:Below n0 k L:=b.mono (Nat.le_trans q Y.out.size)
   have a9:=b.size
   have a2:=(b.cell (p:=⟨W.heap.size,0,none⟩) (by show W.heap.size<_; omega)).trans Hc.out
   obtain⟨fn,tmps,assign,body,hy,hR⟩:=HY.out _ x L a0.out (by omega) (M.out _ b)
   gi_wp2
   refine⟨rfl,RoundIn.mono (F:=Fence.wide.inRound lr) hR ?_⟩
   rintro e W3 (⟨rfl,a3,V,v⟩ | ⟨rfl,R,v⟩)
   ·gi_wp2
    exact⟨(Mid.call b (by omega)).trans (v.part (by omega) (by omega)),g.trans V,by rw[t.out]; exact a3,(v.cell (Nat.le_refl _) (by omega)).trans a2,(Y.out.trans g).trans V⟩
   ·gi_wp2
    exact⟨(Mid.call b (by omega)).trans (v.part (by omega) (by omega)),by show Jx _ _; rw[t.out]; exact R⟩
 case done=>
  rintro D k hD ⟨H,-,-⟩ C
  gi_wp2
  refine⟨by simp,.inl ⟨_,_,rfl,run_takeDeferred C,?_⟩⟩
  exact⟨_,results_none rfl _ _ _,⟨_,rfl⟩,.inl (Z.putObj _ H (by omega) C rfl)⟩
 case stop=>
  intro D d k hD m H C
  gi_wp2
  refine⟨by simp,.inl ⟨_,_,rfl,run_takeDeferred C,?_⟩⟩
  exact⟨_,results_none rfl _ _ _,⟨_,rfl⟩,.inr ⟨_,yL a m,Q.putObj _ H (by omega) C rfl⟩⟩
end
end Go.Proofs.YtdhinkgjiapigaaGreatDoor

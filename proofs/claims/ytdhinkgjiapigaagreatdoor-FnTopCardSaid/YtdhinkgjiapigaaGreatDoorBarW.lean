import Derived.Test.YtdhinkgjiapigaaGreatDoorPlI
namespace Go.Proofs.YtdhinkgjiapigaaGreatDoor
open Classical
section
open Go.Deep Go.RowKit Go.Shelf
set_option maxHeartbeats 1000000 in
theorem CL (n d ok f g h f1 b c:Value) (k x:Int) (w:World) :
  Calls Tryz.prog 156 #[.agg #[n,f,g,h,d,ok,f1,b,c,.int .i64 k],.int .i64 x] w fun e w'=>e=.returned (.bool (x != k))∧Below w.heap.size w w':=by
 have a:=cZ w 107 #[n,f,g,h,d,ok,f1,b,c,.int .i64 k];have m:=a.c 0 9 rfl rfl;rw[Nat.add_zero] at m;have l:=aD a.below;clear a;go_enter Tryz.func156,Tryz.ntmps156;go_wp2;go_ret;exact⟨rfl,l.out⟩
set_option maxHeartbeats 1000000 in
theorem C6 (n q ok u v x f1 l m:Value) (k:Int) (aH:List Bool) (s:Nat) (o:Bool) (w:World) (A:Bools (In w) w f1 aH) (f:aH[s]?=some o) (_hl:aH.length<=1048576) :
  Calls Tryz.prog 112 #[.agg #[n,u,v,x,q,ok,f1,l,m,.int .i64 k],.int .i64 (s:Int)] w fun e w'=>e=.returned (.bool o)∧Below w.heap.size w w':=by
 obtain⟨C,z,rfl,d⟩:=A;have g:s<aH.length:=(List.getElem?_eq_some_iff.1 f).1;obtain E | ⟨h,of,rfl,c,a⟩:=d
 ·omega
 have t:=a s g o f;have b:=cZ w 107 #[n,u,v,x,q,ok,.slice (some ⟨h,of,none⟩) aH.length z,l,m,.int .i64 k];have D:=(b.below.cell (p:=⟨h,of+s,none⟩) c).trans t;have B:=b.c 0 6 rfl rfl;rw[Nat.add_zero] at B
 have r:(s:Int)<(aH.length:Int):=by omega
 have y:=aD b.below;clear t a f b;go_enter Tryz.func112,Tryz.ntmps112;go_wp2;go_ret;exact⟨rfl,y.out⟩
set_option maxRecDepth 100000 in
set_option maxHeartbeats 2000000 in
theorem Fs (n h ok r s t f1 x d:Value) (k:Int) (aC:List (Int×Int)) (q:Nat) (l:Int) (u:Int×Int) (w:World) (C:Lies (In w) w x aC) (m:aC[q]?=some u) (_hl:aC.length<=1048576) :
  Calls Tryz.prog 153 #[.agg #[n,r,s,t,h,ok,f1,x,d,.int .i64 k],.agg #[.int .i64 (q:Int),.int .i64 l]] w fun e w'=>e=.returned (.bool (u.1 != l))∧Below w.heap.size w w':=by
 obtain⟨I,v,rfl,g⟩:=C;have o:q<aC.length:=(List.getElem?_eq_some_iff.1 m).1;obtain J | ⟨c,of,rfl,f,b⟩:=g
 ·omega
 obtain⟨z,-⟩:=b q o u m;have a:=eB w 107 58 #[n,r,s,t,h,ok,f1,.slice (some ⟨c,of,none⟩) aC.length v,d,.int .i64 k] #[.int .i64 (q:Int),.int .i64 l];have D:=Ext.any ((w.alloc (.cells #[n,r,s,t,h,ok,f1,.slice (some ⟨c,of,none⟩) aC.length v,d,.int .i64 k] 107)).alloc (.cells #[.int .i64 (q:Int),.int .i64 l] 58));have F:=Ext.cell ((a.below.cell (p:=⟨c,of+q*2,none⟩) f).trans z);have B:=Ext.cell (a.c 0 7 rfl rfl);have G:=Ext.cell (a.c 1 0 rfl rfl);have H:=Ext.cell (a.c 1 1 rfl rfl);rw[Nat.add_zero] at B
 have y:(q:Int)<(aC.length:Int):=by omega
 have A:=aD a;clear z b m a;go_enter Tryz.func153,Tryz.ntmps153;go_wp2;refine gQ (by kernel_rfl) (by kernel_rfl) ?_
 repeat (go_big_quiet_step (fail))
 refine wpQuiet_nil ?_;rintro _ ⟨E,rfl⟩;go_wp2;go_ret;exact⟨rfl,(A.out.call E.below).below⟩
set_option maxRecDepth 100000 in
set_option maxHeartbeats 2000000 in
theorem IH (n hd ok p1 p2 p3 f1 Z f3:Value) (k:Int) (d:List Int) (aH:List Bool) (q s:Nat) (l:Int) (o:Bool) (w:World) (Y:Ints (In w) w p1 d) (O:Bools (In w) w f1 aH) (W:d[q]?=some (s:Int)) (hs:aH[s]?=some o) (_hl:d.length<=1048576) (S:aH.length<=1048576)
  (hn:∃z,n=.int .i64 z) (R:∃z,hd=.int .i64 z) (T:∃z,ok=.bool z) (U:∃a l c,p2=.slice a l c) (V:∃a l c,p3=.slice a l c) (P:∃a l c,Z=.slice a l c) (Q:∃a l c,f3=.slice a l c) :
  Calls Tryz.prog 108 #[.agg #[n,p1,p2,p3,hd,ok,f1,Z,f3,.int .i64 k],.agg #[.int .i64 (q:Int),.int .i64 l]] w fun e w'=>e=.returned (.bool o)∧Below w.heap.size w w':=by
 obtain⟨y,rfl⟩:=hn;obtain⟨x,rfl⟩:=R;obtain⟨A,rfl⟩:=T;obtain⟨F,H,J,rfl⟩:=U;obtain⟨G,I,K,rfl⟩:=V;obtain⟨D,v2,B,rfl⟩:=P;obtain⟨E,v3,C,rfl⟩:=Q;have HF:=aD O;obtain⟨t,v,rfl⟩:=O.size;obtain⟨a1,u,rfl,N⟩:=Y;have X:q<d.length:=(List.getElem?_eq_some_iff.1 W).1;obtain h0 | ⟨f,r,rfl,M,g⟩:=N
 ·omega
 have j0:=g q X _ W;have b:=eB w 107 58 #[.int .i64 y,.slice (some ⟨f,r,none⟩) d.length u,.slice F H J,.slice G I K,.int .i64 x,.bool A,.slice t aH.length v,.slice D v2 B,.slice E v3 C,.int .i64 k] #[.int .i64 (q:Int),.int .i64 l];have h:∀m:Ext ((w.alloc (.cells #[.int .i64 y,.slice (some ⟨f,r,none⟩) d.length u,.slice F H J,.slice G I K,.int .i64 x,.bool A,.slice t aH.length v,.slice D v2 B,.slice E v3 C,.int .i64 k] 107)).alloc (.cells #[.int .i64 (q:Int),.int .i64 l] 58)),Calls Tryz.prog 112 #[.agg #[.int .i64 y,.slice (some ⟨f,r,none⟩) d.length u,.slice F H J,.slice G I K,.int .i64 x,.bool A,.slice t aH.length v,.slice D v2 B,.slice E v3 C,.int .i64 k],.int .i64 (s:Int)] m.w fun e w'=>e=.returned (.bool o)∧Below m.w.heap.size m.w w':=fun m=>C6 _ _ _ _ _ _ _ _ _ k aH s o m.w (HF.out.keep (In.keep (b.call m.below).below).1 (In.keep (b.call m.below).below).2) hs S;have L:=aD h;have a2:=Ext.any ((w.alloc (.cells #[.int .i64 y,.slice (some ⟨f,r,none⟩) d.length u,.slice F H J,.slice G I K,.int .i64 x,.bool A,.slice t aH.length v,.slice D v2 B,.slice E v3 C,.int .i64 k] 107)).alloc (.cells #[.int .i64 (q:Int),.int .i64 l] 58));have G0:=Ext.cell ((b.below.cell (p:=⟨f,r+q,none⟩) M).trans j0);have R0:=Ext.cell (b.c 0 0 rfl rfl);have R1:=Ext.cell (b.c 0 1 rfl rfl)
 have R2:=Ext.cell (b.c 0 2 rfl rfl);have R3:=Ext.cell (b.c 0 3 rfl rfl);have R4:=Ext.cell (b.c 0 4 rfl rfl);have R5:=Ext.cell (b.c 0 5 rfl rfl);have R6:=Ext.cell (b.c 0 6 rfl rfl);have R7:=Ext.cell (b.c 0 7 rfl rfl);have R8:=Ext.cell (b.c 0 8 rfl rfl);have R9:=Ext.cell (b.c 0 9 rfl rfl);have L0:=Ext.cell (b.c 1 0 rfl rfl);rw[Nat.add_zero] at R0 R1 R2 R3 R4 R5 R6 R7 R8 R9
 have a0:(q:Int)<(d.length:Int):=by omega
 have HT:=aD b;clear h j0 g W hs b O;go_enter Tryz.func108,Tryz.ntmps108;go_wp2;refine gQ (by kernel_rfl) (by kernel_rfl) ?_
 repeat (go_big_quiet_step ((go_at_call 112; exact eO (L.out _))))
 refine wpQuiet_nil ?_;rintro _ ⟨nq,rfl⟩;go_wp2;go_ret;exact⟨rfl,(HT.out.call nq.below).below⟩
end
section
open Go.Deep Go.RowKit
theorem yU (A C:Nat):mO A C=.agg #[.int .u32 (A:Int),.int .u32 (C:Int)]:=rfl
set_option maxRecDepth 100000 in
set_option maxHeartbeats 4000000 in
theorem GH (n:Int) (p1 p2 p3 hd xs xo x1 x2 x4 ys yo y1 y2 y4:Value) (V X ly Y:List Int) (w:World) (S:Ints (In w) w xs V) (R:Ints (In w) w xo X) (U:Ints (In w) w ys ly) (T:Ints (In w) w yo Y)
  (kx:bJ n V) (a8:bJ n X) (ky:bJ n ly) (a9:bJ n Y) (J:n<=60) :
  Calls Tryz.prog 157 #[.agg #[.int .i64 n,p1,p2,p3,hd],.agg #[xs,x1,x2,xo,x4],.agg #[ys,y1,y2,yo,y4]] w fun e w'=>e=.returned (.bool (B (Meet V Y) || B (Meet X ly)))∧Below w.heap.size w w':=by
 have E:=iE w 27 51 51 #[.int .i64 n,p1,p2,p3,hd] #[xs,x1,x2,xo,x4] #[ys,y1,y2,yo,y4]
 have hm:∀l,bJ n l->∀z∈l,0<=z∧z<64:=fun l hl z hz=>by
  obtain⟨j,hj⟩:=List.getElem?_of_mem hz;have:=(hl.1 j (List.getElem?_eq_some_iff.1 hj).1 z hj).1;exact⟨this.1,by have:=this.2; omega⟩
 have K1:=aD fun (W:World) (h:Below w.heap.size w W)=>S.keep (Q:=In W) (In.keep h).1 (In.keep h).2;have K2:=aD fun (W:World) (h:Below w.heap.size w W)=>R.keep (Q:=In W) (In.keep h).1 (In.keep h).2;have K3:=aD fun (W:World) (h:Below w.heap.size w W)=>U.keep (Q:=In W) (In.keep h).1 (In.keep h).2;have K4:=aD fun (W:World) (h:Below w.heap.size w W)=>T.keep (Q:=In W) (In.keep h).1 (In.keep h).2;obtain⟨a1,c1,rfl⟩:=S.size;obtain⟨a2,c2,rfl⟩:=R.size;obtain⟨a3,c3,rfl⟩:=U.size;obtain⟨a4,c4,rfl⟩:=T.size;have G:=aD (And.intro kx (And.intro a8 (And.intro ky a9)));have HM:=aD hm;clear S R U T hm kx a8 ky a9;go_enter Tryz.func157,Tryz.ntmps157;have r:=E.c 0 0 rfl rfl;have s:=E.c 0 1 rfl rfl;have t:=E.c 0 2 rfl rfl;have u:=E.c 0 3 rfl rfl;have v:=E.c 0 4 rfl rfl;rw[Nat.add_zero] at r s t u v;have P:=E.c 1 0 rfl rfl
 go_wp2_with fail
 refine (tT n _ _ _ _ _ V _ (K1.out _ E.below) (Nat.le_trans G.out.1.2 (by omega)) J).mono ?_;clear r s t u v P;rintro e w1 ⟨A1,C1,rfl,y,a⟩;rw[bQ G.out.1,yU];have S1:=aD (y G.out.1);have Z:=E.call a;have N:=bC w1 (.cells #[.int .u32 (A1:Int),.int .u32 (C1:Int)] 227);have F:=Z.call N;have K:=cZ w1 227 #[.int .u32 (A1:Int),.int .u32 (C1:Int)];clear a y E Z N;have r:=F.c 0 0 rfl rfl;have s:=F.c 0 1 rfl rfl;have t:=F.c 0 2 rfl rfl;have u:=F.c 0 3 rfl rfl;have v:=F.c 0 4 rfl rfl;rw[Nat.add_zero] at r s t u v;have P:=F.c 1 3 rfl rfl
 go_wp2_with fail
 refine (tT n _ _ _ _ _ X _ (K2.out _ F.below) (Nat.le_trans G.out.2.1.2 (by omega)) J).mono ?_;clear r s t u v P;rintro e w2 ⟨A2,C2,rfl,A,a⟩;rw[bQ G.out.2.1,yU];have S2:=aD (A G.out.2.1);have a0:=F.call a;have d:=K.call a;have x:=bC w2 (.cells #[.int .u32 (A2:Int),.int .u32 (C2:Int)] 227);have H:=a0.call x;have L:=cZ w2 227 #[.int .u32 (A2:Int),.int .u32 (C2:Int)];replace d:=d.call x;clear a A F a0 x;clear K;have r:=H.c 0 0 rfl rfl;have s:=H.c 0 1 rfl rfl;have t:=H.c 0 2 rfl rfl;have u:=H.c 0 3 rfl rfl;have v:=H.c 0 4 rfl rfl;rw[Nat.add_zero] at r s t u v;have P:=H.c 2 0 rfl rfl
 go_wp2_with fail
 refine (tT n _ _ _ _ _ ly _ (K3.out _ H.below) (Nat.le_trans G.out.2.2.1.2 (by omega)) J).mono ?_;clear r s t u v P;rintro e w3 ⟨A3,C3,rfl,C,a⟩;rw[bQ G.out.2.2.1,yU];have S3:=aD (C G.out.2.2.1);have a5:=H.call a;have f:=d.call a;have g:=L.call a;have o:=bC w3 (.cells #[.int .u32 (A3:Int),.int .u32 (C3:Int)] 227);have I:=a5.call o;have M:=cZ w3 227 #[.int .u32 (A3:Int),.int .u32 (C3:Int)];replace f:=f.call o;replace g:=g.call o;clear a C H a5 o;clear d;clear L;have r:=I.c 0 0 rfl rfl;have s:=I.c 0 1 rfl rfl;have t:=I.c 0 2 rfl rfl;have u:=I.c 0 3 rfl rfl;have v:=I.c 0 4 rfl rfl;rw[Nat.add_zero] at r s t u v;have P:=I.c 2 3 rfl rfl
 go_wp2_with fail
 refine (tT n _ _ _ _ _ Y _ (K4.out _ I.below) (Nat.le_trans G.out.2.2.2.2 (by omega)) J).mono ?_;clear r s t u v P;rintro e w4 ⟨A4,C4,rfl,D,a⟩;rw[bQ G.out.2.2.2,yU];have S4:=aD (D G.out.2.2.2);have a6:=I.call a;have b:=f.call a;have k:=g.call a;have m:=M.call a;have c:=bC w4 (.cells #[.int .u32 (A4:Int),.int .u32 (C4:Int)] 227);have T4:=a6.call c;have q:=cZ w4 227 #[.int .u32 (A4:Int),.int .u32 (C4:Int)];replace b:=b.call c;replace k:=k.call c;replace m:=m.call c;clear a D I a6 c;clear f;clear g;clear M;have r0:=b.c 0 0 rfl rfl;have r1:=b.c 0 1 rfl rfl;have s0:=q.c 0 0 rfl rfl;have s1:=q.c 0 1 rfl rfl;rw[Nat.add_zero] at r0 r1 s0 s1
 go_wp2_with fail
 refine (yY A1 C1 A4 C4 V Y _ S1.out S4.out (HM.out V G.out.1)).mono ?_;clear r0 r1 s0 s1;rintro e w5 ⟨rfl,a⟩;have T5:=T4.call a;have Y2:=k.call a;have Y3:=m.call a;clear a T4 b k m q;by_cases p:Meet V Y
 ·rw[bQ p];have O:=aD p;have HT:=aD T5.below;clear p T5 Y2 Y3;go_wp2;go_ret;exact⟨bI (by rw[bQ O.out]; rfl),HT.out⟩
 ·rw[bE p];have O:=aD p;clear p;have r0:=Y2.c 0 0 rfl rfl;have r1:=Y2.c 0 1 rfl rfl;have s0:=Y3.c 0 0 rfl rfl;have s1:=Y3.c 0 1 rfl rfl;rw[Nat.add_zero] at r0 r1 s0 s1;have a7:=aD (yY A2 C2 A3 C3 X ly w5 S2.out S3.out (HM.out X G.out.2.1))
  go_wp2_with fail
  refine (a7.out).mono ?_;clear r0 r1 s0 s1 a7;rintro e w6 ⟨rfl,a⟩;have HT:=aD (T5.call a).below;clear a T5 Y2 Y3;go_wp2;go_ret;exact⟨bI (by rw[bE O.out]; rfl),HT.out⟩
end
section
open Go.Deep Go.RowKit Go.Shelf
set_option maxRecDepth 100000 in
set_option maxHeartbeats 8000000 in
theorem Fy (p1 p2 p3 ok f1 f2 f3:Value) (p:aK) (i j:Nat) (x y:aT) (row:List Bool) (o:Bool) (w:World) (hp:aZ (In w) w p1 p2 p3 p) (hs:p.Small 1048576) (hi:p.aB[i]?=some x) (hj:p.aB[j]?=some y) (hr:p.aO[i]?=some row) (ho:row[j]?=some o) (_hrl:row.length<=1048576)
  (kx:bJ p.aA x.aA) (X:bJ p.aA x.over) (ky:bJ p.aA y.aA) (Y:bJ p.aA y.over) (a0:p.aA<=60)
  (a7:∃z,ok=.bool z) (a4:∃a l c,f1=.slice a l c) (a5:∃a l c,f2=.slice a l c) (a6:∃a l c,f3=.slice a l c) :
  Calls Tryz.prog 109 #[.agg #[.int .i64 p.aA,p1,p2,p3,.int .i64 p.aI,ok,f1,f2,f3,.int .i64 (i:Int)],.int .i64 (j:Int)] w fun e w'=>e=.returned (.bool (((j:Int) != (i:Int))&&(o || (B (Meet x.aA y.over) || B (Meet x.over y.aA)))))∧Below w.heap.size w w':=by
 obtain⟨oz,rfl⟩:=a7;obtain⟨u1,v1,t1,rfl⟩:=a4;obtain⟨u2,v2,t2,rfl⟩:=a5;obtain⟨u3,v3,t3,rfl⟩:=a6;obtain⟨E,F,rfl⟩:=hp.1.size;obtain⟨-,a9,a8⟩:=hp;obtain⟨a2,G,rfl,q⟩:=a9;obtain⟨a3,H,rfl,hcb⟩:=a8;have U:i<p.aB.length:=(List.getElem?_eq_some_iff.1 hi).1;have V:j<p.aB.length:=(List.getElem?_eq_some_iff.1 hj).1;have t:i<p.aO.length:=(List.getElem?_eq_some_iff.1 hr).1;have W:j<row.length:=(List.getElem?_eq_some_iff.1 ho).1;obtain h0 | ⟨k,n,rfl,d,q⟩:=q
 ·omega
 obtain h0 | ⟨bb,D,rfl,S,hcb⟩:=hcb
 ·omega
 obtain⟨rv,aC,g0⟩:=hcb i t row hr;obtain⟨ar,cr,rfl,r⟩:=aC;obtain h0 | ⟨br,or,rfl,T,r⟩:=r
 ·omega
 have g1:=r j W o ho;obtain⟨x0,x1,x2,x3,x4,f,I,J,K,L,M⟩:=q i U x hi;obtain⟨y0,y1,y2,y3,y4,g,N,O,P,Q,R⟩:=q j V y hj;have hL:=aD (And.intro U (And.intro V (And.intro t W)));clear q hcb r;have b:=cZ w 107 #[.int .i64 p.aA,.slice E p.aE.length F,.slice (some ⟨k,n,none⟩) p.aB.length G,.slice (some ⟨bb,D,none⟩) p.aO.length H,.int .i64 p.aI,.bool oz,.slice u1 v1 t1,.slice u2 v2 t2,.slice u3 v3 t3,.int .i64 (i:Int)];have A:∀m:Ext (w.alloc (.cells #[.int .i64 p.aA,.slice E p.aE.length F,.slice (some ⟨k,n,none⟩) p.aB.length G,.slice (some ⟨bb,D,none⟩) p.aO.length H,.int .i64 p.aI,.bool oz,.slice u1 v1 t1,.slice u2 v2 t2,.slice u3 v3 t3,.int .i64 (i:Int)] 107)),Calls Tryz.prog 156 #[.agg #[.int .i64 p.aA,.slice E p.aE.length F,.slice (some ⟨k,n,none⟩) p.aB.length G,.slice (some ⟨bb,D,none⟩) p.aO.length H,.int .i64 p.aI,.bool oz,.slice u1 v1 t1,.slice u2 v2 t2,.slice u3 v3 t3,.int .i64 (i:Int)],.int .i64 (j:Int)] m.w fun e w'=>e=.returned (.bool ((j:Int) != (i:Int)))∧Below m.w.heap.size m.w w':=fun m=>CL _ _ _ _ _ _ _ _ _ _ _ m.w
 have C:∀m:Ext (w.alloc (.cells #[.int .i64 p.aA,.slice E p.aE.length F,.slice (some ⟨k,n,none⟩) p.aB.length G,.slice (some ⟨bb,D,none⟩) p.aO.length H,.int .i64 p.aI,.bool oz,.slice u1 v1 t1,.slice u2 v2 t2,.slice u3 v3 t3,.int .i64 (i:Int)] 107)),Calls Tryz.prog 157 #[.agg #[.int .i64 p.aA,.slice E p.aE.length F,.slice (some ⟨k,n,none⟩) p.aB.length G,.slice (some ⟨bb,D,none⟩) p.aO.length H,.int .i64 p.aI],.agg #[x0,x1,x2,x3,x4],.agg #[y0,y1,y2,y3,y4]] m.w fun e w'=>e=.returned (.bool (B (Meet x.aA y.over) || B (Meet x.over y.aA)))∧Below m.w.heap.size m.w w':=fun m=>by
  have s:=(b.call m.below).below;exact GH p.aA _ _ _ _ _ _ _ _ _ _ _ _ _ _ x.aA x.over y.aA y.over m.w (f.1.keep (In.keep s).1 (In.keep s).2) (f.2.2.2.1.keep (In.keep s).1 (In.keep s).2) (g.1.keep (In.keep s).1 (In.keep s).2) (g.2.2.2.1.keep (In.keep s).1 (In.keep s).2) kx X ky Y a0
 obtain⟨b1,bB,b6,rfl⟩:∃a l c,x0=.slice a l c:=by obtain⟨a,c,h⟩:=f.1.size; exact⟨_,_,_,h⟩
 obtain⟨b2,bC,b7,rfl⟩:∃a l c,x1=.slice a l c:=by obtain⟨a,c,h⟩:=f.2.1.size; exact⟨_,_,_,h⟩
 obtain⟨b3,bD,b8,rfl⟩:∃a l c,x2=.slice a l c:=by obtain⟨a,c,h⟩:=f.2.2.1.size; exact⟨_,_,_,h⟩
 obtain⟨b4,bE,b9,rfl⟩:∃a l c,x3=.slice a l c:=by obtain⟨a,c,h⟩:=f.2.2.2.1.size; exact⟨_,_,_,h⟩
 obtain⟨b5,bF,bA,rfl⟩:∃a l c,x4=.slice a l c:=by obtain⟨a,c,h⟩:=f.2.2.2.2.size; exact⟨_,_,_,h⟩
 obtain⟨bG,bR,bM,rfl⟩:∃a l c,y0=.slice a l c:=by obtain⟨a,c,h⟩:=g.1.size; exact⟨_,_,_,h⟩
 obtain⟨bH,bS,bN,rfl⟩:∃a l c,y1=.slice a l c:=by obtain⟨a,c,h⟩:=g.2.1.size; exact⟨_,_,_,h⟩
 obtain⟨bI,bT,bO,rfl⟩:∃a l c,y2=.slice a l c:=by obtain⟨a,c,h⟩:=g.2.2.1.size; exact⟨_,_,_,h⟩
 obtain⟨bK,bU,bP,rfl⟩:∃a l c,y3=.slice a l c:=by obtain⟨a,c,h⟩:=g.2.2.2.1.size; exact⟨_,_,_,h⟩
 obtain⟨bL,bV,bQ,rfl⟩:∃a l c,y4=.slice a l c:=by obtain⟨a,c,h⟩:=g.2.2.2.2.size; exact⟨_,_,_,h⟩
 have aY:=Ext.any (w.alloc (.cells #[.int .i64 p.aA,.slice E p.aE.length F,.slice (some ⟨k,n,none⟩) p.aB.length G,.slice (some ⟨bb,D,none⟩) p.aO.length H,.int .i64 p.aI,.bool oz,.slice u1 v1 t1,.slice u2 v2 t2,.slice u3 v3 t3,.int .i64 (i:Int)] 107));have G0:=Ext.cell ((b.below.cell (p:=⟨bb,D+i,none⟩) S).trans g0);have G1:=Ext.cell ((b.below.cell (p:=⟨br,or+j,none⟩) T).trans g1);have aL:=Ext.cell ((b.below.cell (p:=⟨k,n+i*5,none⟩) d).trans I);have aM:=Ext.cell ((b.below.cell (p:=⟨k,n+i*5+1,none⟩) d).trans J);have aN:=Ext.cell ((b.below.cell (p:=⟨k,n+i*5+2,none⟩) d).trans K);have aP:=Ext.cell ((b.below.cell (p:=⟨k,n+i*5+3,none⟩) d).trans L);have aQ:=Ext.cell ((b.below.cell (p:=⟨k,n+i*5+4,none⟩) d).trans M);have aR:=Ext.cell ((b.below.cell (p:=⟨k,n+j*5,none⟩) d).trans N);have aS:=Ext.cell ((b.below.cell (p:=⟨k,n+j*5+1,none⟩) d).trans O);have aU:=Ext.cell ((b.below.cell (p:=⟨k,n+j*5+2,none⟩) d).trans P);have aV:=Ext.cell ((b.below.cell (p:=⟨k,n+j*5+3,none⟩) d).trans Q);have aW:=Ext.cell ((b.below.cell (p:=⟨k,n+j*5+4,none⟩) d).trans R);have R0:=Ext.cell (b.c 0 0 rfl rfl);have R1:=Ext.cell (b.c 0 1 rfl rfl);have R2:=Ext.cell (b.c 0 2 rfl rfl);have R3:=Ext.cell (b.c 0 3 rfl rfl);have R4:=Ext.cell (b.c 0 4 rfl rfl);have R5:=Ext.cell (b.c 0 5 rfl rfl)
 have R6:=Ext.cell (b.c 0 6 rfl rfl);have R7:=Ext.cell (b.c 0 7 rfl rfl);have R8:=Ext.cell (b.c 0 8 rfl rfl);have R9:=Ext.cell (b.c 0 9 rfl rfl);rw[Nat.add_zero] at R0 R1 R2 R3 R4 R5 R6 R7 R8 R9
 have aF:(i:Int)<(p.aB.length:Int):=by omega
 have aG:(j:Int)<(p.aB.length:Int):=by omega
 have aJ:(i:Int)<(p.aO.length:Int):=by omega
 have aH:(j:Int)<(row.length:Int):=by omega
 have HT:=aD b;have aX:p.aO.length<=1048576:=hs.2.2.2.1;have b0:p.aB.length<=1048576:=hs.2.1;clear g0 g1 I J K L M N O P Q R f g hi hj hr ho hs kx X ky Y b S d T;generalize (B (Meet x.aA y.over) || B (Meet x.over y.aA))=ov at C ⊢;generalize ((j:Int) != (i:Int))=bij at A ⊢;have u:=aD A;have v:=aD C;clear A C
 cases bij
 ·go_enter Tryz.func109,Tryz.ntmps109
  go_wp2_with fail
  refine gQ (by kernel_rfl) (by kernel_rfl) ?_
  repeat (go_big_quiet_step (first | (go_at_call 156; exact eO (u.out _)) | (go_at_call 157; exact eO (v.out _))))
  refine wpQuiet_nil ?_;rintro _ ⟨Z,rfl⟩;go_wp2;go_ret;exact⟨rfl,(HT.out.call Z.below).below⟩
 ·cases o
  ·go_enter Tryz.func109,Tryz.ntmps109
   go_wp2_with fail
   refine gQ (by kernel_rfl) (by kernel_rfl) ?_
   repeat (go_big_quiet_step (first | (go_at_call 156; exact eO (u.out _)) | (go_at_call 157; exact eO (v.out _))))
   refine wpQuiet_nil ?_;rintro _ ⟨Z,rfl⟩;go_wp2;go_ret;exact⟨rfl,(HT.out.call Z.below).below⟩
  ·go_enter Tryz.func109,Tryz.ntmps109
   go_wp2_with fail
   refine gQ (by kernel_rfl) (by kernel_rfl) ?_
   repeat (go_big_quiet_step (first | (go_at_call 156; exact eO (u.out _)) | (go_at_call 157; exact eO (v.out _))))
   refine wpQuiet_nil ?_;rintro _ ⟨Z,rfl⟩;go_wp2;go_ret;exact⟨rfl,(HT.out.call Z.below).below⟩
set_option maxRecDepth 100000 in
set_option maxHeartbeats 2000000 in
theorem F6 (t:Nat) (g:Array Value) (v:Value) (l:List Int) (u:Int->Bool) (w:World) (J:Ints (In w) w v l) (N:l.length<=1048576) (L:∀args w,(callFunc t args).run Tryz.prog w=.ok (.enter t args) w)
  (d:∀x W,x∈l->Below w.heap.size w W->Calls Tryz.prog t (g.push (.int .i64 x)) W fun e W'=>e=.returned (.bool (u x))∧Below W.heap.size W W') :
  Calls Tryz.prog 183 #[v,.func (.func t) g #[]] w fun e w'=>∃r:Int,e=.returned (.int .i64 r)∧decide (0<=r)=l.any u∧Below w.heap.size w w':=by
 obtain⟨a,H,rfl,o⟩:=J;have F:=aD o;have G:=aD d;clear o d;go_enter Tryz.func183,Tryz.ntmps183;go_wp2
 go_loopw [8] (fun z wr=>∃(i:Nat),i<=l.length∧z=.int .i64 i∧(l.take i).any u=false∧Below w.heap.size w wr) (fun z _=>l.length-(intOf z).toNat)
 case atStart=>exact⟨0,Nat.zero_le _,rfl,by simp,Below.refl _ _⟩
 case round=>
  obtain⟨i,hi,rfl,f,n⟩:=hrel;have C:=aD f;have m:=aD n;clear f;by_cases q:i<l.length
  ·obtain M | ⟨b,off,rfl,B,o⟩:=F.out
   ·omega
   obtain⟨y,s⟩:=eU l q;have I:=o i q y s;rw[← n.cell (p:=⟨b,_,none⟩) B] at I;have k:=G.out y wr (List.mem_of_getElem? s) n;have D:=aD s
   have E:(i:Int)<(l.length:Int):=by omega
   clear s o n
   cases hys:u y
   ·rw[hys] at k;have A:=aD k;have j:=aD hys;clear k hys;go_wp2;refine A.out.mono ?_;rintro e K ⟨rfl,c⟩;have h:=aD c;clear c;go_wp2;go_roundw
    case rel=>exact⟨i+1,by omega,by go_num,Cy C.out D.out j.out,m.out.trans (h.out.mono m.out.size)⟩
    case measure=>simp[intOf]; omega
   ·rw[hys] at k;have A:=aD k;have j:=aD hys;clear k hys;go_wp2;refine A.out.mono ?_;rintro e K ⟨rfl,c⟩;have h:=aD c;clear c;go_wp2;go_ret;exact⟨i,rfl,by rw[Dx D.out j.out]; simp,m.out.trans (h.out.mono m.out.size)⟩
  ·clear n;go_wp2;go_ret;exact⟨-1,rfl,by have:=C.out; rw[List.take_of_length_le (by omega)] at this; rw[this]; rfl,m.out⟩
set_option maxHeartbeats 1000000 in
theorem FD (d:Nat) (c:Array Value) (v:Value) (l:List Int) (f:Int->Bool) (w:World) (i:Ints (In w) w v l) (p:l.length<=1048576) (o:∀args w,(callFunc d args).run Tryz.prog w=.ok (.enter d args) w)
  (b:∀x W,x∈l->Below w.heap.size w W->Calls Tryz.prog d (c.push (.int .i64 x)) W fun e W'=>e=.returned (.bool (f x))∧Below W.heap.size W W') :
  Calls Tryz.prog 155 #[v,.func (.func d) c #[]] w fun e w'=>e=.returned (.bool (l.any f))∧Below w.heap.size w w':=by
 have k:=aD (F6 d c v l f w i p o b);obtain⟨a,n,rfl,-⟩:=i;clear b;go_enter Tryz.func155,Tryz.ntmps155
 go_wp2_with fail
 refine k.out.mono ?_;rintro e q ⟨r,rfl,h,g⟩;have m:=aD h;have j:=aD g;clear h g;go_wp2;go_ret;exact⟨bI (by rw[← m.out]),j.out⟩
end
def tL (a b:List Int):Bool:=a.any fun x=>b.any (· == x)
theorem DY (a b:List Int):B (Meet a b)=tL a b:=by
 by_cases h:Meet a b
 ·rw[bQ h];obtain⟨x,c,d⟩:=h;unfold tL
  symm
  rw[List.any_eq_true];exact⟨x,c,List.any_eq_true.2 ⟨x,d,by simp⟩⟩
 ·rw[bE h]
  symm
  unfold tL;rw[Bool.eq_false_iff];intro e;obtain⟨x,c,e⟩:=List.any_eq_true.1 e;obtain⟨y,d,e⟩:=List.any_eq_true.1 e
  have:y=x:=by simpa using e
  exact h ⟨x,c,this ▸ d⟩
def tK (p:aK) (i j:Nat):Bool:=match p.aB[i]?,p.aB[j]?,p.bar i j with
 | some x,some y,some o=>((j:Int) != (i:Int))&&(o || (tL x.aA y.over || tL x.over y.aA))
 | _,_,_=>false
def qY (p:aK) (d:aF) (i:Nat):List Nat:=(gI d.aB d.aB.length).filter (tK p i)
def rD (x:aT):List Nat:=(x.aA++x.over).map Int.toNat
theorem IA {x:aT}(h:∀s∈x.aA++x.over,(0:Int)<=s):(rD x).map (fun i:Nat=>(i:Int))=x.aA++x.over:=by
 unfold rD;rw[List.map_map]
 conv=>rhs; rw[← List.map_id (x.aA++x.over)]
 exact List.map_congr_left fun s a=>by have:=h s a; simp; omega
theorem Ca (x:aT):(rD x).length=x.aA.length+x.over.length:=by unfold rD; rw[List.length_map,List.length_append]
def tY (aH:List Bool) (x:aT):List Nat:=(rD x).filter fun s=>aH.getD s false
def uA (aC:List (Int×Int)) (q:Int):Int:=((aC[q.toNat]?).map fun y=>y.1).getD 0
def oI (aC:List (Int×Int)) (x:aT):List (Int×Int):=(x.aQ++x.aJ).filter fun y=>uA aC y.1 != y.2
def pT (ih:Bool) (nb ns:Nat) (lk sk:Bool):Int:=if ih then 2 else if 0<nb then 3 else if 0<ns then 4 else if lk then 5 else if sk then 6 else 0
def vC (p:aK) (d:aF) (i:Nat) (y:Int×Int):Bool:=(gS p d y.1).any fun z=>z != (i:Int)
def tZ (p:aK) (d:aF) (y:Int×Int):Bool:=d.aH.getD (p.aE.getD y.1.toNat 0).toNat false
def kQ (p:aK) (d:aF) (i:Nat) (x:aT) (h:aM):Int:=pT (h.state != 0) (qY p d i).length (tY d.aH x).length ((oI d.aC x).any (vC p d i)) ((oI d.aC x).any (tZ p d))
section
open Go.Deep Go.RowKit Go.Shelf
theorem IB {p:aK}{i j:Nat}{x y:aT}{o:Bool}(b:p.aB[i]?=some x) (c:p.aB[j]?=some y) (a:p.bar i j=some o):tK p i j=(((j:Int) != (i:Int))&&(o || (B (Meet x.aA y.over) || B (Meet x.over y.aA)))):=by
 unfold tK; rw[b,c,a,DY,DY]
set_option maxRecDepth 100000 in
set_option maxHeartbeats 8000000 in
theorem FL (p1 p2 p3 f1 f2 f3:Value) (p:aK) (d:aF) (i:Nat) (w:World) (N:aZ (In w) w p1 p2 p3 p) (M:bB (In w) w f1 f2 f3 d) (U:p.Small 1048576) (hd:d.Small 1048576) (K:cJ p d) (hi:i<p.aB.length) :
  Calls Tryz.prog 64 #[.agg #[.int .i64 p.aA,p1,p2,p3,.int .i64 p.aI,.bool d.ok,f1,f2,f3,.int .i64 (i:Int)]] w fun e w'=>∃v,e=.returned v∧Below w.heap.size w w'∧∃m,w'.ownsRow w.heap.size 3 1 v m (oL (qY p d i)):=by
 have KP:=aD fun (W:World) (h:Below w.heap.size w W)=>N.keep (Q:=In W) (In.keep h).1 (In.keep h).2;have KH:=aD fun (W:World) (h:Below w.heap.size w W)=>M.2.2.keep (Q:=In W) (In.keep h).1 (In.keep h).2;obtain⟨q,u,rfl⟩:=N.1.size;obtain⟨s,A,rfl⟩:=N.2.1.size;obtain⟨t,B,rfl⟩:=N.2.2.size;obtain⟨g,a,rfl⟩:=M.1.size;obtain⟨k,c,rfl⟩:=M.2.1.size;obtain⟨o3,f,rfl⟩:=M.2.2.size;have HS:=aD U;have HD:=aD hd;have n:=cZ w 107 #[.int .i64 p.aA,.slice q p.aE.length u,.slice s p.aB.length A,.slice t p.aO.length B,.int .i64 p.aI,.bool d.ok,.slice g d.aH.length a,.slice k d.aC.length c,.slice o3 d.aB.length f,.int .i64 (i:Int)]
 have O:Calls Tryz.prog 56 #[.agg #[.bool d.ok,.slice g d.aH.length a,.slice k d.aC.length c,.slice o3 d.aB.length f]] (w.alloc (.cells #[.int .i64 p.aA,.slice q p.aE.length u,.slice s p.aB.length A,.slice t p.aO.length B,.int .i64 p.aI,.bool d.ok,.slice g d.aH.length a,.slice k d.aC.length c,.slice o3 d.aB.length f,.int .i64 (i:Int)] 107)).drew fun e E=>e=.returned (.func (.func 99) #[] #[.pointer (some ⟨w.heap.size+1,0,none⟩)])∧E=(w.alloc (.cells #[.int .i64 p.aA,.slice q p.aE.length u,.slice s p.aB.length A,.slice t p.aO.length B,.int .i64 p.aI,.bool d.ok,.slice g d.aH.length a,.slice k d.aC.length c,.slice o3 d.aB.length f,.int .i64 (i:Int)] 107)).drew.alloc (.cells #[.bool d.ok,.slice g d.aH.length a,.slice k d.aC.length c,.slice o3 d.aB.length f] 40)∧bD w [(107,#[.int .i64 p.aA,.slice q p.aE.length u,.slice s p.aB.length A,.slice t p.aO.length B,.int .i64 p.aI,.bool d.ok,.slice g d.aH.length a,.slice k d.aC.length c,.slice o3 d.aB.length f,.int .i64 (i:Int)])] E:=by
  refine (Ah _ _ _ _ _).mono ?_;rintro e E ⟨rfl,rfl⟩;exact⟨by simp,rfl,(n.call (cT _)).call (bC _ _)⟩
 have HQ:=aD O
 have I:∀E l,E=(w.alloc (.cells #[.int .i64 p.aA,.slice q p.aE.length u,.slice s p.aB.length A,.slice t p.aO.length B,.int .i64 p.aI,.bool d.ok,.slice g d.aH.length a,.slice k d.aC.length c,.slice o3 d.aB.length f,.int .i64 (i:Int)] 107)).drew.alloc (.cells #[.bool d.ok,.slice g d.aH.length a,.slice k d.aC.length c,.slice o3 d.aB.length f] 40)->l=(E.alloc (.cells #[.func (.func 99) #[] #[.pointer (some ⟨w.heap.size+1,0,none⟩)]] 96)).alloc (.cells #[.func (.func 109) #[.agg #[.int .i64 p.aA,.slice q p.aE.length u,.slice s p.aB.length A,.slice t p.aO.length B,.int .i64 p.aI,.bool d.ok,.slice g d.aH.length a,.slice k d.aC.length c,.slice o3 d.aB.length f,.int .i64 (i:Int)]] #[]] 99) ->
   Calls Tryz.prog 101 #[.func (.func 98) #[] #[.pointer (some ⟨E.heap.size,0,none⟩),.pointer (some ⟨E.heap.size+1,0,none⟩)]] l fun e w'=>∃v,e=.returned v∧Below w.heap.size w w'∧∃m,w'.ownsRow w.heap.size 3 1 v m (oL (qY p d i)):=fun E l C D=>by
  have aG:E.heap.size=w.heap.size+2:=by rw[C]; simp
  have H:=iE (w.alloc (.cells #[.int .i64 p.aA,.slice q p.aE.length u,.slice s p.aB.length A,.slice t p.aO.length B,.int .i64 p.aI,.bool d.ok,.slice g d.aH.length a,.slice k d.aC.length c,.slice o3 d.aB.length f,.int .i64 (i:Int)] 107)).drew 40 96 99 #[.bool d.ok,.slice g d.aH.length a,.slice k d.aC.length c,.slice o3 d.aB.length f] #[.func (.func 99) #[] #[.pointer (some ⟨w.heap.size+1,0,none⟩)]] #[.func (.func 109) #[.agg #[.int .i64 p.aA,.slice q p.aE.length u,.slice s p.aB.length A,.slice t p.aO.length B,.int .i64 p.aI,.bool d.ok,.slice g d.aH.length a,.slice k d.aC.length c,.slice o3 d.aB.length f,.int .i64 (i:Int)]] #[]];rw[← C,← D] at H
  have a9:(w.alloc (.cells #[.int .i64 p.aA,.slice q p.aE.length u,.slice s p.aB.length A,.slice t p.aO.length B,.int .i64 p.aI,.bool d.ok,.slice g d.aH.length a,.slice k d.aC.length c,.slice o3 d.aB.length f,.int .i64 (i:Int)] 107)).drew.heap.size=w.heap.size+1:=by simp
  have aL:l.heap.size=w.heap.size+4:=by rw[D]; simp; omega
  have Tc:=(n.call (cT _)).call H.below;have o:=Tc.below;have V:=H.c 0 0 rfl rfl;have X:=H.c 0 1 rfl rfl;have Y:=H.c 0 2 rfl rfl;have Z:=H.c 0 3 rfl rfl;have cV:=H.c 1 0 rfl rfl;have cK:=H.c 2 0 rfl rfl;rw[a9] at V X Y Z cV cK;have hl:d.aB.length=p.aB.length:=K.2.2.2.2.1
  have J:∀x W,x∈gI d.aB d.aB.length->Below l.heap.size l W->Calls Tryz.prog 109 ((#[.agg #[.int .i64 p.aA,.slice q p.aE.length u,.slice s p.aB.length A,.slice t p.aO.length B,.int .i64 p.aI,.bool d.ok,.slice g d.aH.length a,.slice k d.aC.length c,.slice o3 d.aB.length f,.int .i64 (i:Int)]]:Array Value).push (.int .i64 (x:Int))) W fun e W'=>e=.returned (.bool (tK p i x))∧Below W.heap.size W W':=fun x W hx hW=>by
   have hB:Below w.heap.size w W:=o.trans (hW.mono o.size);have aJ:=(xQ hx).1;obtain⟨y,hy⟩:=bG p.aB (aD rfl) (show x<p.aB.length by omega);obtain⟨z,hz⟩:=bG p.aB (aD rfl) hi;obtain⟨r,b,hr,a8,hrb,hb⟩:=K.1.row hi (show x<p.aB.length by omega);have S:=K.1.way hy;have T:=K.1.way hz;rw[IB hz hy hb];exact Fy _ _ _ _ _ _ _ p i x z y r b W (KP.out W hB) U hz hy hr hrb (by rw[a8]; exact U.2.1) T.2.1 T.2.2.1 S.2.1 S.2.2.1 K.1.parts.1.1.2 ⟨_,rfl⟩ ⟨_,_,_,rfl⟩ ⟨_,_,_,rfl⟩ ⟨_,_,_,rfl⟩
  have a7:=AX 99 109 #[.pointer (some ⟨w.heap.size+1,0,none⟩)] #[.agg #[.int .i64 p.aA,.slice q p.aE.length u,.slice s p.aB.length A,.slice t p.aO.length B,.int .i64 p.aI,.bool d.ok,.slice g d.aH.length a,.slice k d.aC.length c,.slice o3 d.aB.length f,.int .i64 (i:Int)]] l.heap.size 0 (w.heap.size+1+1) (w.heap.size+1+2) (gI d.aB d.aB.length) (tK p i) l (by omega) (by omega) (Nat.le_refl _)
   (enters_of Tryz.func99 (by kernel_rfl) rfl) (enters_of Tryz.func109 (by kernel_rfl) rfl) cV cK
   (AZ _ _ _ _ d.aB l.heap.size (w.heap.size+1) l (by omega) (Nat.le_refl _) V X Y Z ((KH.out l o).keep (hU _ _) fun b hb=>hb) HD.out.2.2.1) J
  rw[aG];refine (A6 98 _ l.heap.size (3+0) ((gI d.aB d.aB.length).filter (tK p i)) l (enters_of Tryz.func98 (by kernel_rfl) rfl) (Nat.le_refl _) (Nat.le_trans (List.length_filter_le _ _) (Nat.le_trans (List.length_filter_le _ _) (by rw[List.length_range]; exact HD.out.2.2.1))) a7).mono ?_;rintro e w5 ⟨v,rfl,G,R⟩;exact⟨v,rfl,o.trans (G.mono o.size),_,nV R o.size⟩
 have L:=aD I;have b0:=n.c 0 0 rfl rfl;have b1:=n.c 0 1 rfl rfl;have b2:=n.c 0 2 rfl rfl;have b3:=n.c 0 3 rfl rfl;have b4:=n.c 0 4 rfl rfl;have b5:=n.c 0 5 rfl rfl;have b6:=n.c 0 6 rfl rfl;have b7:=n.c 0 7 rfl rfl;have b8:=n.c 0 8 rfl rfl;have b9:=n.c 0 9 rfl rfl;rw[Nat.add_zero] at b0 b1 b2 b3 b4 b5 b6 b7 b8 b9;clear O I U hd N M K n;go_enter Tryz.func64,Tryz.ntmps64;go_wp2
 go_region_with (first | (go_at_call 56; refine HQ.out.mono ?_; rintro e E ⟨rfl,C,F⟩; have a5:=aD C; clear C; have V:=F.c 0 0 rfl rfl; have X:=F.c 0 1 rfl rfl; have Y:=F.c 0 2 rfl rfl; have Z:=F.c 0 3 rfl rfl; have k4:=F.c 0 4 rfl rfl; have k5:=F.c 0 5 rfl rfl; have k6:=F.c 0 6 rfl rfl; have k7:=F.c 0 7 rfl rfl; have k8:=F.c 0 8 rfl rfl; have k9:=F.c 0 9 rfl rfl; rw[Nat.add_zero] at V X Y Z k4 k5 k6 k7 k8 k9) | (go_at_call 55; refine (Ab _ _ _ _ _).mono ?_; rintro e l ⟨rfl,D⟩; have a6:=aD D; clear D) | (go_at_call 101; refine (L.out _ _ a5.out a6.out).mono ?_; rintro e w5 ⟨v,rfl,G,P⟩; have a0:=aD G; have a4:=aD P; clear G P))
 all_goals
  go_wp2;go_ret;exact⟨v,rfl,a0.out,a4.out⟩
end
end Go.Proofs.YtdhinkgjiapigaaGreatDoor

import Derived.Test.YtdhinkgjiapigaaGreatDoorFrA
import Derived.Deep.DeepCutAuto
import Derived.Shelf.Abstract
namespace Go.Proofs.YtdhinkgjiapigaaGreatDoor
open Classical Go.Deep Go.RowKit
theorem JK {l:List Int}{k:Nat}{y s:Int}(h:l[k]?=some y) (a:(y == s)=true):l.any (· == s)=true:=by
 rw[List.any_eq_true]; exact⟨y,List.mem_of_getElem? h,a⟩
theorem Ik {l:List Int}{k:Nat}{y s:Int}(h:(l.take k).any (· == s)=false) (a:l[k]?=some y) (e:(y == s)=false):(l.take (k+1)).any (· == s)=false:=by
 rw[List.take_add_one,a,List.any_append,h]; simp[e]
set_option maxHeartbeats 1000000 in
theorem Fl (v:Value) (l:List Int) (s:Int) (w:World) (o:Ints (In w) w v l) (u:l.length<=1048576) :
  Calls Tryz.prog 147 #[v,.int .i64 s] w fun e w'=>∃r:Int,e=.returned (.int .i64 r)∧decide (0<=r)=l.any (· == s)∧w'=w:=by
 obtain⟨a,m,rfl,f⟩:=o;have k:=aD f;clear f;go_enter Tryz.func147,Tryz.ntmps147;go_wp2
 go_loop [8] (fun z=>∃(q:Nat),q<=l.length∧z=.int .i64 q∧(l.take q).any (· == s)=false) (fun z=>l.length-(intOf z).toNat)
 case atStart=>exact⟨0,Nat.zero_le _,rfl,by simp⟩
 case round=>
  obtain⟨q,x,rfl,d⟩:=hrel;have i:=aD d;clear d;by_cases g:q<l.length
  ·obtain t | ⟨b,off,rfl,n,f⟩:=k.out
   ·omega
   obtain⟨y,h⟩:=eU l g;have p:=f q g y h;have j:=aD h;clear h f
   cases hys:(s == y)
   ·have c:(y == s)=false:=by rw[← hys]; exact Bool.beq_comm ..
    go_wp2
    go_round
    case rel=>exact⟨q+1,by omega,by go_num,Ik i.out j.out c⟩
    case measure=>simp[intOf]; omega
   ·have c:(y == s)=true:=by rw[← hys]; exact Bool.beq_comm ..
    go_wp2;go_ret;exact⟨q,rfl,by rw[JK j.out c]; simp,rfl⟩
  ·go_wp2;go_ret;exact⟨-1,rfl,by have:=i.out; rw[List.take_of_length_le (by omega)] at this; rw[this]; rfl,rfl⟩
set_option maxHeartbeats 1000000 in
theorem FE (v:Value) (l:List Int) (s:Int) (w:World) (c:Ints (In w) w v l) (g:l.length<=1048576) :
  Calls Tryz.prog 100 #[v,.int .i64 s] w fun e w'=>e=.returned (.bool (l.any (· == s)))∧w'=w:=by
 have hi:=Fl v l s w c g;obtain⟨a,f,rfl,-⟩:=c;go_enter Tryz.func100,Tryz.ntmps100
 go_wp2_with fail
 refine hi.mono ?_;rintro e h ⟨r,rfl,b,rfl⟩;have d:=aD b;clear hi b;go_wp2;go_ret;exact⟨bI (by rw[← d.out]),rfl⟩
theorem Ints.drop {P:Nat->Prop}{w:World}{b off n:Nat}{l:List Int}(f:n=l.length) (d:P b) (h:∀i,i<n->∀x,l[i]?=some x->w.cell? ⟨b,off+i,none⟩=some (.int .i64 x)) {g c m:Nat}(e:m=(l.drop g).length):Ints P w (.slice (some ⟨b,off+g,none⟩) m c) (l.drop g):=by
 subst e;refine⟨_,_,rfl,.inr ⟨b,off+g,rfl,d,fun i hi x a=>?_⟩⟩;rw[List.getElem?_drop] at a;have:=h (g+i) (by rw[f]; exact (List.getElem?_eq_some_iff.1 a).1) x a
 rwa [← Nat.add_assoc] at this
set_option maxRecDepth 100000 in
set_option maxHeartbeats 4000000 in
theorem Db (n v ok B p2 C f1 o Z:Value) (aB:List aT) (a:List aM) (i:Nat) (x:aT) (h:aM) (s:Int) (w:World) (hp:cE (In w) w p2 aB) (hf:dF (In w) w Z a)
  (hi:aB[i]?=some x) (S:a[i]?=some h) (_hw:aB.length<=1048576) (_hh:a.length<=1048576) (hs:x.aA.length<=1048576) (hg:0<=h.gone) (N:h.gone<x.aA.length) :
  Calls Tryz.prog 57 #[.agg #[n,B,p2,C,v,ok,f1,o,Z,.int .i64 s],.int .i64 i] w fun e w'=>e=.returned (.bool ((x.aA.drop h.gone.toNat).any (· == s)))∧Below w.heap.size w w':=by
 obtain⟨ap,F,rfl,L⟩:=hp;obtain⟨af,E,rfl,K⟩:=hf;have R:i<aB.length:=(List.getElem?_eq_some_iff.1 hi).1;have T:i<a.length:=(List.getElem?_eq_some_iff.1 S).1;obtain h0 | ⟨m,A,rfl,J,u⟩:=L
 ·omega
 obtain h0 | ⟨l,of,rfl,I,r⟩:=K
 ·omega
 obtain⟨v0,v1,v2,v3,v4,⟨⟨U,-,-,-,-⟩,d⟩,y0,-,-,-,-⟩:=u i R x hi;obtain⟨a3,H,rfl,M⟩:=U;obtain⟨_,_,_,e,d⟩:=d
 cases e
 obtain h0 | ⟨D,os,rfl,q,z⟩:=M
 ·omega
 obtain⟨u2,-,-,V,-,-,-⟩:=r i T h S;obtain⟨g,O⟩:∃g:Nat,h.gone=g:=⟨h.gone.toNat,by omega⟩;rw[O] at V N ⊢
 have Q:((g:Int)).toNat=g:=by simp
 rw[Q];have c:=cZ w 101 #[n,B,.slice (some ⟨m,A,none⟩) aB.length F,C,v,ok,f1,o,.slice (some ⟨l,of,none⟩) a.length E,.int .i64 s];have x0:=(c.below.cell (p:=⟨m,A+i*5,none⟩) J).trans y0;have z0:=(c.below.cell (p:=⟨l,of+i*5+1,none⟩) I).trans V;have W:=c.c 0 2 rfl rfl;have X:=c.c 0 8 rfl rfl;have Y:=c.c 0 9 rfl rfl;rw[Nat.add_zero] at W X Y
 have a5:¬H=g:=by omega
 have a4:(g:Int)<=(x.aA.length:Int):=by omega
 have a0:(i:Int)<(aB.length:Int):=by omega
 have a1:(i:Int)<(a.length:Int):=by omega
 have f:Ints (In (w.alloc (.cells #[n,B,.slice (some ⟨m,A,none⟩) aB.length F,C,v,ok,f1,o,.slice (some ⟨l,of,none⟩) a.length E,.int .i64 s] 101))) _ (.slice (some ⟨D,os+g,none⟩) (x.aA.length-g) (H-g)) (x.aA.drop g):=
  Ints.drop (P:=In _) (b:=D) (off:=os) rfl (Nat.lt_of_lt_of_le q c.below.size) (fun k hk y hy=>(c.below.cell (p:=⟨D,os+k,none⟩) q).trans (z k hk y hy)) (by simp)
 have t:∀n:Ext (w.alloc (.cells #[n,B,.slice (some ⟨m,A,none⟩) aB.length F,C,v,ok,f1,o,.slice (some ⟨l,of,none⟩) a.length E,.int .i64 s] 101)),Calls Tryz.prog 100 #[.slice (some ⟨D,os+g,none⟩) (x.aA.length-g) (H-g),.int .i64 s] n.w fun e w'=>e=.returned (.bool ((x.aA.drop g).any (· == s)))∧Below n.w.heap.size n.w w':=fun n=>
  (FE _ _ s _ (f.keep (In.keep n.below).1 (In.keep n.below).2) (by simp; omega)).mono fun e w' ⟨he,hw⟩=>⟨he,by rw[hw]; exact Below.refl _ _⟩
 have G:=aD t;have a2:=Ext.any (w.alloc (.cells #[n,B,.slice (some ⟨m,A,none⟩) aB.length F,C,v,ok,f1,o,.slice (some ⟨l,of,none⟩) a.length E,.int .i64 s] 101));have X0:=Ext.cell x0;have Z0:=Ext.cell z0;have R2:=Ext.cell W;have R8:=Ext.cell X;have R9:=Ext.cell Y;clear t f u r z hi S y0 V x0 z0 W X Y;have HT:=aD c;clear c;go_enter Tryz.func57,Tryz.ntmps57;go_wp2;refine gQ (by kernel_rfl) (by kernel_rfl) ?_
 repeat (go_big_quiet_step ((go_at_call 100; exact eO (G.out _))))
 refine wpQuiet_nil ?_;rintro _ ⟨nq,rfl⟩;go_wp2;go_ret;exact⟨rfl,(HT.out.call nq.below).below⟩
section
open Go.Shelf
theorem Iu (n g ok h k l f1 d f:Value) (q a b:Int) (w:World) :
  Calls Tryz.prog 149 #[.agg #[n,h,k,l,g,ok,f1,d,f,.int .i64 q],.agg #[.int .i64 a,.int .i64 b]] w fun e w'=>e=.returned (.bool (a == q))∧Below w.heap.size w w':=by
 have c:=eB w 142 58 #[n,h,k,l,g,ok,f1,d,f,.int .i64 q] #[.int .i64 a,.int .i64 b];have m:=c.c 0 9 rfl rfl;have o:=c.c 1 0 rfl rfl;rw[Nat.add_zero] at m;go_enter Tryz.func149,Tryz.ntmps149;go_wp2;go_ret;exact⟨rfl,c.below⟩
theorem Dx {α:Type}{l:List α}{k:Nat}{y:α}{a:α->Bool}(h:l[k]?=some y) (b:a y=true):l.any a=true:=by
 rw[List.any_eq_true]; exact⟨y,List.mem_of_getElem? h,b⟩
theorem Cy {α:Type}{l:List α}{k:Nat}{y:α}{a:α->Bool}(h:(l.take k).any a=false) (b:l[k]?=some y) (e:a y=false):(l.take (k+1)).any a=false:=by
 rw[List.take_add_one,b,List.any_append,h]; simp[e]
set_option maxRecDepth 100000 in
set_option maxHeartbeats 2000000 in
theorem F7 (t:Nat) (g:Array Value) (v:Value) (l:List (Int×Int)) (u:Int×Int->Bool) (w:World) (K:Lies (In w) w v l) (O:l.length<=1048576) (M:∀args w,(callFunc t args).run Tryz.prog w=.ok (.enter t args) w)
  (d:∀x W,x∈l->Below w.heap.size w W->Calls Tryz.prog t (g.push (.agg #[.int .i64 x.1,.int .i64 x.2])) W fun e W'=>e=.returned (.bool (u x))∧Below W.heap.size W W') :
  Calls Tryz.prog 154 #[v,.func (.func t) g #[]] w fun e w'=>∃r:Int,e=.returned (.int .i64 r)∧decide (0<=r)=l.any u∧Below w.heap.size w w':=by
 obtain⟨a,H,rfl,o⟩:=K;have F:=aD o;have G:=aD d;clear o d;go_enter Tryz.func154,Tryz.ntmps154;go_wp2
 go_loopw [8] (fun z wr=>∃(i:Nat),i<=l.length∧z=.int .i64 i∧(l.take i).any u=false∧Below w.heap.size w wr) (fun z _=>l.length-(intOf z).toNat)
 case atStart=>exact⟨0,Nat.zero_le _,rfl,by simp,Below.refl _ _⟩
 case round=>
  obtain⟨i,hi,rfl,f,n⟩:=hrel;have C:=aD f;have m:=aD n;clear f;by_cases q:i<l.length
  ·obtain N | ⟨b,off,rfl,B,o⟩:=F.out
   ·omega
   obtain⟨y,s⟩:=eU l q;obtain⟨I,J⟩:=o i q y s;rw[← n.cell (p:=⟨b,_,none⟩) B] at I J;have k:=G.out y wr (List.mem_of_getElem? s) n;have D:=aD s
   have E:(i:Int)<(l.length:Int):=by omega
   clear s o n
   cases hys:u y
   ·rw[hys] at k;have A:=aD k;have j:=aD hys;clear k hys;go_wp2;refine A.out.mono ?_;rintro e L ⟨rfl,c⟩;have h:=aD c;clear c;go_wp2;go_roundw
    case rel=>exact⟨i+1,by omega,by go_num,Cy C.out D.out j.out,m.out.trans (h.out.mono m.out.size)⟩
    case measure=>simp[intOf]; omega
   ·rw[hys] at k;have A:=aD k;have j:=aD hys;clear k hys;go_wp2;refine A.out.mono ?_;rintro e L ⟨rfl,c⟩;have h:=aD c;clear c;go_wp2;go_ret;exact⟨i,rfl,by rw[Dx D.out j.out]; simp,m.out.trans (h.out.mono m.out.size)⟩
  ·clear n;go_wp2;go_ret;exact⟨-1,rfl,by have:=C.out; rw[List.take_of_length_le (by omega)] at this; rw[this]; rfl,m.out⟩
set_option maxHeartbeats 1000000 in
theorem AY (d:Nat) (c:Array Value) (v:Value) (l:List (Int×Int)) (f:Int×Int->Bool) (w:World) (i:Lies (In w) w v l) (p:l.length<=1048576) (o:∀args w,(callFunc d args).run Tryz.prog w=.ok (.enter d args) w)
  (b:∀x W,x∈l->Below w.heap.size w W->Calls Tryz.prog d (c.push (.agg #[.int .i64 x.1,.int .i64 x.2])) W fun e W'=>e=.returned (.bool (f x))∧Below W.heap.size W W') :
  Calls Tryz.prog 106 #[v,.func (.func d) c #[]] w fun e w'=>e=.returned (.bool (l.any f))∧Below w.heap.size w w':=by
 have k:=aD (F7 d c v l f w i p o b);obtain⟨a,n,rfl,-⟩:=i;clear b;go_enter Tryz.func106,Tryz.ntmps106
 go_wp2_with fail
 refine k.out.mono ?_;rintro e q ⟨r,rfl,h,g⟩;have m:=aD h;have j:=aD g;clear h g;go_wp2;go_ret;exact⟨bI (by rw[← m.out]),j.out⟩
def uB (sw:List Int) (x:aT) (h:aM) (q:Nat):Bool:=x.aJ.any (fun y=>y.1 == (q:Int)) || (x.aQ.any (fun y=>y.1 == (q:Int))&&(x.aA.drop h.gone.toNat).any (· == sw.getD q 0))
set_option maxRecDepth 100000 in
set_option maxHeartbeats 8000000 in
theorem GM (n hd ok p1 p2 p3 f1 f2 f3:Value) (g:List Int) (aB:List aT) (b:List aM) (i:Nat) (x:aT) (h:aM) (q:Nat) (w:World) (aL:Ints (In w) w p1 g) (hp:cE (In w) w p2 aB) (hf:dF (In w) w f3 b)
  (a9:∃a l c,f1=.slice a l c) (aC:∃a l c,f2=.slice a l c) (aK:∃a l c,p3=.slice a l c) (hn:∃z,n=.int .i64 z) (aF:∃z,hd=.int .i64 z) (aI:∃z,ok=.bool z)
  (hi:aB[i]?=some x) (hj:b[i]?=some h) (aN:aB.length<=1048576) (aG:b.length<=1048576) (hs:x.Small 1048576) (hg:0<=h.gone) (aE:h.gone<x.aA.length) (hq:q<g.length) (_hsl:g.length<=1048576) :
  Calls Tryz.prog 102 #[.agg #[n,p1,p2,p3,hd,ok,f1,f2,f3,.int .i64 q],.int .i64 i] w fun e w'=>e=.returned (.bool (uB g x h q))∧Below w.heap.size w w':=by
 obtain⟨E,rfl⟩:=aI;obtain⟨D,rfl⟩:=hn;obtain⟨C,rfl⟩:=aF;obtain⟨r,t,s,rfl⟩:=a9;obtain⟨u,B,A,rfl⟩:=aC;obtain⟨F,pl,G,rfl⟩:=aK;have hk:=Db (.int .i64 D) (.int .i64 C) (.bool E) p1 p2 (.slice F pl G) (.slice r t s) (.slice u B A) f3 aB b i x h (g.getD q 0);have HP:=aD hp;have HF:=aD hf;obtain⟨aP,d,rfl,X⟩:=aL;obtain⟨ap,J,rfl,a8⟩:=hp;obtain⟨H,I,rfl,-⟩:=hf;have aH:i<aB.length:=(List.getElem?_eq_some_iff.1 hi).1;obtain h0 | ⟨o,os,rfl,a7,V⟩:=X
 ·omega
 obtain h0 | ⟨k,m,rfl,L,Y⟩:=a8
 ·omega
 obtain⟨v0,v1,v2,v3,v4,⟨⟨a2,S,T,a3,a4⟩,-⟩,y0,y1,y2,y3,y4⟩:=Y i aH x hi;obtain⟨s0,t0,rfl⟩:=a2.size;obtain⟨s1,t1,rfl⟩:=S.size;obtain⟨s2,t2,rfl⟩:=T.size;obtain⟨s3,t3,rfl⟩:=a3.size;obtain⟨s4,t4,rfl⟩:=a4.size;obtain⟨U,R⟩:∃U,g[q]?=some U:=⟨_,List.getElem?_eq_getElem hq⟩;have cs:=V q hq U R
 have M:g.getD q 0=U:=by rw[List.getD_eq_getElem?_getD,R]; rfl
 rw[M] at hk;have f:=eB w 142 51 #[.int .i64 D,.slice (some ⟨o,os,none⟩) g.length d,.slice (some ⟨k,m,none⟩) aB.length J,.slice F pl G,.int .i64 C,.bool E,.slice r t s,.slice u B A,.slice H b.length I,.int .i64 q] #[.slice s0 x.aA.length t0,.slice s1 x.aQ.length t1,.slice s2 x.aJ.length t2,.slice s3 x.over.length t3,.slice s4 x.aW.length t4]
 have Q:∀(l:List (Int×Int)) (v:Value),Lies (In w) w v l->l.length<=1048576->∀n:Ext ((w.alloc (.cells #[.int .i64 D,.slice (some ⟨o,os,none⟩) g.length d,.slice (some ⟨k,m,none⟩) aB.length J,.slice F pl G,.int .i64 C,.bool E,.slice r t s,.slice u B A,.slice H b.length I,.int .i64 q] 142)).alloc (.cells #[.slice s0 x.aA.length t0,.slice s1 x.aQ.length t1,.slice s2 x.aJ.length t2,.slice s3 x.over.length t3,.slice s4 x.aW.length t4] 51)),Calls Tryz.prog 106 #[v,.func (.func 149) #[.agg #[.int .i64 D,.slice (some ⟨o,os,none⟩) g.length d,.slice (some ⟨k,m,none⟩) aB.length J,.slice F pl G,.int .i64 C,.bool E,.slice r t s,.slice u B A,.slice H b.length I,.int .i64 q]] #[]] n.w fun e w'=>e=.returned (.bool (l.any fun y=>y.1 == (q:Int)))∧Below n.w.heap.size n.w w':=fun l v hv hl n=>
  AY _ _ v l (fun y=>y.1 == (q:Int)) n.w (hv.keep (In.keep (f.call n.below).below).1 (In.keep (f.call n.below).below).2) hl (enters_of Tryz.func149 (by kernel_rfl) rfl) fun y W _ _=>Iu _ _ _ _ _ _ _ _ _ q y.1 y.2 W
 have Z:=Q x.aJ _ T hs.2.2.1;have a1:=Q x.aQ _ S hs.2.1
 have a0:∀n:Ext ((w.alloc (.cells #[.int .i64 D,.slice (some ⟨o,os,none⟩) g.length d,.slice (some ⟨k,m,none⟩) aB.length J,.slice F pl G,.int .i64 C,.bool E,.slice r t s,.slice u B A,.slice H b.length I,.int .i64 q] 142)).alloc (.cells #[.slice s0 x.aA.length t0,.slice s1 x.aQ.length t1,.slice s2 x.aJ.length t2,.slice s3 x.over.length t3,.slice s4 x.aW.length t4] 51)),Calls Tryz.prog 57 #[.agg #[.int .i64 D,.slice (some ⟨o,os,none⟩) g.length d,.slice (some ⟨k,m,none⟩) aB.length J,.slice F pl G,.int .i64 C,.bool E,.slice r t s,.slice u B A,.slice H b.length I,.int .i64 U],.int .i64 i] n.w fun e w'=>e=.returned (.bool ((x.aA.drop h.gone.toNat).any (· == U)))∧Below n.w.heap.size n.w w':=fun n=>
  hk n.w (HP.out.keep (In.keep (f.call n.below).below).1 (In.keep (f.call n.below).below).2) (HF.out.keep (In.keep (f.call n.below).below).1 (In.keep (f.call n.below).below).2) hi hj aN aG hs.1 hg aE
 have aR:=Ext.any ((w.alloc (.cells #[.int .i64 D,.slice (some ⟨o,os,none⟩) g.length d,.slice (some ⟨k,m,none⟩) aB.length J,.slice F pl G,.int .i64 C,.bool E,.slice r t s,.slice u B A,.slice H b.length I,.int .i64 q] 142)).alloc (.cells #[.slice s0 x.aA.length t0,.slice s1 x.aQ.length t1,.slice s2 x.aJ.length t2,.slice s3 x.over.length t3,.slice s4 x.aW.length t4] 51))
 have aO:(i:Int)<(aB.length:Int):=by omega
 have aS:(q:Int)<(g.length:Int):=by omega
 have z0:=(bC w (.cells #[.int .i64 D,.slice (some ⟨o,os,none⟩) g.length d,.slice (some ⟨k,m,none⟩) aB.length J,.slice F pl G,.int .i64 C,.bool E,.slice r t s,.slice u B A,.slice H b.length I,.int .i64 q] 142)).cell (p:=⟨k,m+i*5,none⟩) L |>.trans y0;have z1:=(bC w (.cells #[.int .i64 D,.slice (some ⟨o,os,none⟩) g.length d,.slice (some ⟨k,m,none⟩) aB.length J,.slice F pl G,.int .i64 C,.bool E,.slice r t s,.slice u B A,.slice H b.length I,.int .i64 q] 142)).cell (p:=⟨k,m+i*5+1,none⟩) L |>.trans y1;have z2:=(bC w (.cells #[.int .i64 D,.slice (some ⟨o,os,none⟩) g.length d,.slice (some ⟨k,m,none⟩) aB.length J,.slice F pl G,.int .i64 C,.bool E,.slice r t s,.slice u B A,.slice H b.length I,.int .i64 q] 142)).cell (p:=⟨k,m+i*5+2,none⟩) L |>.trans y2;have z3:=(bC w (.cells #[.int .i64 D,.slice (some ⟨o,os,none⟩) g.length d,.slice (some ⟨k,m,none⟩) aB.length J,.slice F pl G,.int .i64 C,.bool E,.slice r t s,.slice u B A,.slice H b.length I,.int .i64 q] 142)).cell (p:=⟨k,m+i*5+3,none⟩) L |>.trans y3;have z4:=(bC w (.cells #[.int .i64 D,.slice (some ⟨o,os,none⟩) g.length d,.slice (some ⟨k,m,none⟩) aB.length J,.slice F pl G,.int .i64 C,.bool E,.slice r t s,.slice u B A,.slice H b.length I,.int .i64 q] 142)).cell (p:=⟨k,m+i*5+4,none⟩) L |>.trans y4
 have u2:=(cZ w 142 #[.int .i64 D,.slice (some ⟨o,os,none⟩) g.length d,.slice (some ⟨k,m,none⟩) aB.length J,.slice F pl G,.int .i64 C,.bool E,.slice r t s,.slice u B A,.slice H b.length I,.int .i64 q]).c 0 2 rfl rfl;rw[Nat.add_zero] at u2;have SW:=Ext.cell ((f.below.cell (p:=⟨o,os+q,none⟩) a7).trans cs);have R0:=Ext.cell (f.c 0 0 rfl rfl);have R1:=Ext.cell (f.c 0 1 rfl rfl);have R2:=Ext.cell (f.c 0 2 rfl rfl);have R3:=Ext.cell (f.c 0 3 rfl rfl);have R4:=Ext.cell (f.c 0 4 rfl rfl);have R5:=Ext.cell (f.c 0 5 rfl rfl);have R6:=Ext.cell (f.c 0 6 rfl rfl);have R7:=Ext.cell (f.c 0 7 rfl rfl);have R8:=Ext.cell (f.c 0 8 rfl rfl);have R9:=Ext.cell (f.c 0 9 rfl rfl);have W1:=Ext.cell (f.c 1 1 rfl rfl);have W2:=Ext.cell (f.c 1 2 rfl rfl);rw[Nat.add_zero] at R0 R1 R2 R3 R4 R5 R6 R7 R8 R9;have K:=aD Z;have O:=aD a1;have a5:=aD a0;have a6:=aD M;have HT:=aD f;clear Z a1 a0 M hk Q V Y y0 y1 y2 y3 y4 f hi hj R a2 S T a3 a4 cs;go_enter Tryz.func102,Tryz.ntmps102
 cases hb1:x.aJ.any (fun y=>y.1 == (q:Int))
 case true=>
  rw[hb1] at K;have N:=aD hb1;clear hb1;go_wp2;refine gQ (by kernel_rfl) (by kernel_rfl) ?_
  repeat (go_big_quiet_step ((go_at_call 106; exact eO (K.out _))))
  refine wpQuiet_nil ?_;rintro _ ⟨nq,rfl⟩;go_wp2;go_ret;exact⟨bI (by unfold uB; rw[N.out]; rfl),(HT.out.call nq.below).below⟩
 rw[hb1] at K;have N:=aD hb1;clear hb1
 cases hb2:x.aQ.any (fun y=>y.1 == (q:Int))
 case false=>
  rw[hb2] at O;have P:=aD hb2;clear hb2;go_wp2;refine gQ (by kernel_rfl) (by kernel_rfl) ?_
  repeat (go_big_quiet_step ((go_at_call 106; first | exact eO (K.out _) | exact eO (O.out _))))
  refine wpQuiet_nil ?_;rintro _ ⟨nq,rfl⟩;go_wp2;go_ret;exact⟨bI (by unfold uB; rw[N.out,P.out]; rfl),(HT.out.call nq.below).below⟩
 rw[hb2] at O;have P:=aD hb2;clear hb2;go_wp2;refine gQ (by kernel_rfl) (by kernel_rfl) ?_
 repeat (go_big_quiet_step ((first | (go_at_call 106; first | exact eO (K.out _) | exact eO (O.out _)) | (go_at_call 57; exact eO (a5.out _)))))
 refine wpQuiet_nil ?_;rintro _ ⟨nq,rfl⟩;go_wp2;go_ret;exact⟨bI (by unfold uB; rw[N.out,P.out,a6.out]; rfl),(HT.out.call nq.below).below⟩
end
end Go.Proofs.YtdhinkgjiapigaaGreatDoor

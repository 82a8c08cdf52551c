import Derived.Test.YtdhinkgjiapigaaGreatDoorSpec3
namespace Go.Proofs.YtdhinkgjiapigaaGreatDoor
open Go.Deep Go.RowKit
theorem bP {W W':World}{b o:Nat}{v:Value}(h:W.cell? ⟨b,o,none⟩=some v) (a:Below W.heap.size W W'):W'.cell? ⟨b,o,none⟩=some v:=
 (a.cell (p:=⟨b,o,none⟩) (World.block_lt_of_cell? _ _ h)).trans h
set_option maxRecDepth 100000 in
set_option maxHeartbeats 2000000 in
theorem GG (n hd ok:Value) (p1 p2 p3 f1 f2 f3:Value) (aB:List aT) (f:aF) (i:Nat) (x:aT) (w:World) (hp:eY (In w) w p2 aB) (aK:Bools (In w) w f1 f.aH) (aL:Lies (In w) w f2 f.aC)
  (hi:aB[i]?=some x) (_hw:aB.length<=100) (hs:x.Small 30)
  (hl:∀y,(y∈x.aQ∨y∈x.aJ)->0<=y.1∧y.1<f.aC.length) (O:∀s,(s∈x.aA∨s∈x.over)->0<=s∧s<f.aH.length) (_hz:f.aC.length<=1048576∧f.aH.length<=1048576) :
  Calls Tryz.prog 134 #[.agg #[n,p1,p2,p3,hd],.agg #[ok,f1,f2,f3],.int .i64 i] w fun e w'=>e=.returned (.bool (jT f.aH f.aC x))∧Below w.heap.size w w':=by
 obtain⟨ap,cp,rfl,t⟩:=hp;have aM:i<aB.length:=(List.getElem?_eq_some_iff.1 hi).1;obtain h0 | ⟨b,off,rfl,aI,a3⟩:=t
 ·omega
 obtain⟨v0,v1,v2,v3,v4,hx,g0,g1,g2,g3,g4⟩:=a3 i aM x hi;obtain⟨a5,a6,a7,a8,aN⟩:=hx;obtain⟨a1,c1,rfl,q1⟩:=aK;obtain⟨a2,c2,rfl,q2⟩:=aL;have aE:=aD q1;have aG:=aD q2;have HL:=aD hl;have a0:=aD O;have K:=aD hs;have T0:=iE w 27 40 51 #[n,p1,.slice (some ⟨b,off,none⟩) aB.length cp,p3,hd] #[ok,.slice a1 f.aH.length c1,.slice a2 f.aC.length c2,f3] #[v0,v1,v2,v3,v4];obtain⟨U,k0,rfl,-⟩:=id a5;obtain⟨b1,k1,rfl,-⟩:=id a6;obtain⟨b2,k2,rfl,-⟩:=id a7;obtain⟨V,k3,rfl,-⟩:=id a8;obtain⟨b4,k4,rfl,-⟩:=aN
 have aR:(i:Int)<(aB.length:Int):=by omega
 have aS:b<w.heap.size:=aI;clear q1 q2 hl O hs a3;go_enter Tryz.func134,Tryz.ntmps134;go_wp2;have T1:=T0.call (bC _ (.cells #[.slice b1 x.aQ.length k1,.slice b2 x.aJ.length k2] 49));clear T0 g0 g1 g2 g3 g4
 go_loopw [27] (fun z wr=>∃(k:Nat),k<=2∧z=.int .i64 k∧(∀j l,j<k->[x.aQ,x.aJ][j]?=some l->l.all (mY f.aC)=true)∧bD w [(27,#[n,p1,.slice (some ⟨b,off,none⟩) aB.length cp,p3,hd]),(40,#[ok,.slice a1 f.aH.length c1,.slice a2 f.aC.length c2,f3]),(51,#[.slice U x.aA.length k0,.slice b1 x.aQ.length k1,.slice b2 x.aJ.length k2,.slice V x.over.length k3,.slice b4 x.aW.length k4])] wr ∧
   wr.cell? ⟨w.heap.size+1+1+1,0,none⟩=some (.slice b1 x.aQ.length k1)∧wr.cell? ⟨w.heap.size+1+1+1,1,none⟩=some (.slice b2 x.aJ.length k2)) (fun z _=>2-(intOf z).toNat)
 case atStart=>exact⟨0,by omega,rfl,fun j l hj=>by omega,T1,by rw[World.cell?_alloc_at _ _ _ _ (by simp)]; rfl,by rw[World.cell?_alloc_at _ _ _ _ (by simp)]; rfl⟩
 case round=>
  obtain⟨k,hk,rfl,I,T2,P,l1⟩:=hrel;rename World=>Q;have HO:=aD I;clear I T1;by_cases aU:k<2
  ·obtain⟨a,T,W,c,Y,r,m⟩:∃(a:List (Int×Int)) (T:Option Addr) (W:Nat),[x.aQ,x.aJ][k]?=some a∧Lies (In w) w (.slice T a.length W) a∧Q.cell? ⟨w.heap.size+1+1+1,k,none⟩=some (.slice T a.length W)∧∀y∈a,0<=y.1∧y.1<f.aC.length:=by
    rcases k with _ | _ | k
    ·exact⟨x.aQ,b1,k1,rfl,a6,P,fun y o=>HL.out y (.inl o)⟩
    ·exact⟨x.aJ,b2,k2,rfl,a7,l1,fun y o=>HL.out y (.inr o)⟩
    ·omega
   have a4:a.length<=30:=by
    rcases k with _ | _ | k
    ·cases c; exact K.out.2.1
    ·cases c; exact K.out.2.2.1
    ·omega
   have B:=aD c;have HM:=aD m;obtain⟨a',c',Z,G⟩:=Y
   cases Z
   have R:=aD G;have L0:=aD P;have L1:=aD l1;clear c m G P l1;go_wp2;clear r
   go_loopw [33] (fun z wr=>∃(q:Nat),q<=a.length∧z=.int .i64 q∧(a.take q).all (mY f.aC)=true∧bD w [(27,#[n,p1,.slice (some ⟨b,off,none⟩) aB.length cp,p3,hd]),(40,#[ok,.slice a1 f.aH.length c1,.slice a2 f.aC.length c2,f3]),(51,#[.slice U x.aA.length k0,.slice b1 x.aQ.length k1,.slice b2 x.aJ.length k2,.slice V x.over.length k3,.slice b4 x.aW.length k4])] wr∧Below Q.heap.size Q wr) (fun z _=>a.length-(intOf z).toNat)
   case atStart=>exact⟨0,Nat.zero_le _,rfl,by simp,T2,Below.refl _ _⟩
   case round=>
    obtain⟨q,hq,rfl,g,T3,F⟩:=hrel;have HA:=aD g;clear g;by_cases J:q<a.length
    ·obtain h0 | ⟨bl,ol,rfl,D,O⟩:=R.out
     ·omega
     obtain⟨y,o⟩:=bG a (aD rfl) J;obtain⟨g0,g1⟩:=O q J y o;rw[← T3.below.cell (p:=⟨bl,_,none⟩) D] at g0 g1;obtain⟨aO,aP⟩:=HM.out y (List.mem_of_getElem? o);obtain h0 | ⟨bp,op,rfl,X,t⟩:=aG.out
     ·omega
     obtain⟨d,v⟩:∃d,f.aC[y.1.toNat]?=some d:=⟨f.aC[y.1.toNat]'(by omega),List.getElem?_eq_getElem _⟩;obtain⟨j0,j1⟩:=t y.1.toNat (by omega) d v;have C:=T3.call (bC _ (.cells #[.int .i64 y.1,.int .i64 y.2] 58));rw[← C.below.cell (p:=⟨bp,_,none⟩) X] at j0 j1
     have m0:(wr.alloc (.cells #[.int .i64 y.1,.int .i64 y.2] 58)).cell? ⟨wr.heap.size,0,none⟩=some (.int .i64 y.1):=by simp
     have m1:(wr.alloc (.cells #[.int .i64 y.1,.int .i64 y.2] 58)).cell? ⟨wr.heap.size,1,none⟩=some (.int .i64 y.2):=by simp
     have fr:(wr.alloc (.cells #[.int .i64 y.1,.int .i64 y.2] 58)).cell? ⟨w.heap.size+1,2,none⟩=some (.slice (some ⟨bp,op,none⟩) f.aC.length c2):=C.c 1 2 rfl rfl
     have H:mY f.aC y=(d.1 == y.2&&d.2 == y.2):=by unfold mY; rw[v]
     have A:=aD H;have Hy:=aD o;have N:=F.alloc F.size (.cells #[.int .i64 y.1,.int .i64 y.2] 58);have a9:=aD N;clear o O t v H F N;by_cases M:d.1=y.2
     ·by_cases e1:d.2=y.2
      ·have t0:(d.1 != y.2)=false:=by simp[M]
       have t1:(d.2 != y.2)=false:=by simp[e1]
       have E:=aD (And.intro M e1);clear M e1;go_wp2
       go_quiet (fail)
       go_wp2;go_roundw
       case rel=>exact⟨q+1,by omega,by go_num,xT HA.out Hy.out (by rw[A.out,E.out.1,E.out.2]; simp),C.call (fC _ _),below_drewN a9.out _⟩
       case measure=>simp[intOf]; omega
      ·have t0:(d.1 != y.2)=false:=by simp[M]
       have t1:(d.2 != y.2)=true:=by simp[e1]
       have E:=aD e1;clear M e1;go_wp2
       go_quiet (fail)
       go_wp2;go_ret;refine⟨bI ?_,(C.call (fC _ _)).below⟩;exact (Cl B.out (vD Hy.out (by rw[A.out]; simp[E.out]))).symm
     ·have t0:(d.1 != y.2)=true:=by simp[M]
      have E:=aD M;clear M;go_wp2
      go_quiet (fail)
      go_wp2;go_ret;refine⟨bI ?_,(C.call (fC _ _)).below⟩;exact (Cl B.out (vD Hy.out (by rw[A.out]; simp[E.out]))).symm
    ·have h:=xV HA.out (by omega);have S:=aD h;clear h;go_wp2;go_roundw
     case rel=>exact⟨k+1,by omega,by go_num,fun j l hj u=>by
      by_cases e:j=k
      ·subst e; rw[B.out] at u; cases u; exact S.out
      ·exact HO.out j l (by omega) u,T3,bP L0.out F,bP L1.out F⟩
     case measure=>simp[intOf]; omega
  ·have w0:Q.cell? ⟨w.heap.size+1+1,0,none⟩=some (.slice U x.aA.length k0):=T2.c 2 0 rfl rfl;have w3:Q.cell? ⟨w.heap.size+1+1,3,none⟩=some (.slice V x.over.length k3):=T2.c 2 3 rfl rfl;have N1:Hid (∀j l,j<2->[x.aQ,x.aJ][j]?=some l->l.all (mY f.aC)=true):=fun j l hj=>HO.out j l (by omega);clear HO P l1;go_wp2;have T3:=T2.call (bC _ (.cells #[.slice U x.aA.length k0,.slice V x.over.length k3] 23));clear T2 w0 w3
   go_loopw [67] (fun z wr=>∃(k:Nat),k<=2∧z=.int .i64 k∧(∀j l,j<k->[x.aA,x.over][j]?=some l->l.all (lI f.aH)=true)∧bD w [(27,#[n,p1,.slice (some ⟨b,off,none⟩) aB.length cp,p3,hd]),(40,#[ok,.slice a1 f.aH.length c1,.slice a2 f.aC.length c2,f3]),(51,#[.slice U x.aA.length k0,.slice b1 x.aQ.length k1,.slice b2 x.aJ.length k2,.slice V x.over.length k3,.slice b4 x.aW.length k4])] wr ∧
     wr.cell? ⟨Q.heap.size,0,none⟩=some (.slice U x.aA.length k0)∧wr.cell? ⟨Q.heap.size,1,none⟩=some (.slice V x.over.length k3)) (fun z _=>2-(intOf z).toNat)
   case atStart=>exact⟨0,by omega,rfl,fun j l hj=>by omega,T3,by simp,by simp⟩
   case round=>
    obtain⟨L,aV,rfl,I,C,P,l1⟩:=hrel;rename World=>wp;have HO:=aD I;clear I T3;by_cases aX:L<2
    ·obtain⟨a,T,W,c,Y,r,m⟩:∃(a:List Int) (T:Option Addr) (W:Nat),[x.aA,x.over][L]?=some a∧Ints (In w) w (.slice T a.length W) a∧wp.cell? ⟨Q.heap.size,L,none⟩=some (.slice T a.length W)∧∀y∈a,0<=y∧y<f.aH.length:=by
      rcases L with _ | _ | L
      ·exact⟨x.aA,U,k0,rfl,a5,P,fun y o=>a0.out y (.inl o)⟩
      ·exact⟨x.over,V,k3,rfl,a8,l1,fun y o=>a0.out y (.inr o)⟩
      ·omega
     have a4:a.length<=30:=by
      rcases L with _ | _ | L
      ·cases c; exact K.out.1
      ·cases c; exact K.out.2.2.2.1
      ·omega
     have B:=aD c;have HM:=aD m;obtain⟨a',c',Z,G⟩:=Y
     cases Z
     have R:=aD G;have L0:=aD P;have L1:=aD l1;clear c m G P l1;go_wp2;clear r
     go_loop [73] (fun z=>∃(q:Nat),q<=a.length∧z=.int .i64 q∧(a.take q).all (lI f.aH)=true) (fun z=>a.length-(intOf z).toNat)
     case atStart=>exact⟨0,Nat.zero_le _,rfl,by simp⟩
     case round=>
      obtain⟨q,hq,rfl,g⟩:=hrel;have HA:=aD g;clear g;by_cases J:q<a.length
      ·obtain h0 | ⟨bl,ol,rfl,D,O⟩:=R.out
       ·omega
       obtain⟨y,o⟩:=bG a (aD rfl) J;have g0:=O q J y o;rw[← C.below.cell (p:=⟨bl,_,none⟩) D] at g0;obtain⟨aO,aP⟩:=HM.out y (List.mem_of_getElem? o);obtain h0 | ⟨bp,op,rfl,X,t⟩:=aE.out
       ·omega
       obtain⟨d,v⟩:∃d,f.aH[y.toNat]?=some d:=⟨f.aH[y.toNat]'(by omega),List.getElem?_eq_getElem _⟩;have j0:=t y.toNat (by omega) d v;rw[← C.below.cell (p:=⟨bp,_,none⟩) X] at j0;have fr:wp.cell? ⟨w.heap.size+1,1,none⟩=some (.slice (some ⟨bp,op,none⟩) f.aH.length c1):=C.c 1 1 rfl rfl
       have H:lI f.aH y=!d:=by unfold lI; rw[v]
       have A:=aD H;have Hy:=aD o;clear o O t v H
       cases d
       ·go_wp2
        go_round
        case rel=>exact⟨q+1,by omega,by go_num,xT HA.out Hy.out (by rw[A.out]; rfl)⟩
        case measure=>simp[intOf]; omega
       ·go_wp2;go_ret;exact⟨bI (Ha B.out (vD Hy.out (by rw[A.out]; rfl))).symm,C.below⟩
      ·have h:=xV HA.out (by omega);have S:=aD h;clear h;go_wp2;go_roundw
       case rel=>exact⟨L+1,by omega,by go_num,fun j l hj u=>by
        by_cases e:j=L
        ·subst e; rw[B.out] at u; cases u; exact S.out
        ·exact HO.out j l (by omega) u,C,L0.out,L1.out⟩
       case measure=>simp[intOf]; omega
    ·go_wp2;go_ret;exact⟨bI (Hd N1.out fun j l hj=>HO.out j l (by omega)).symm,C.below⟩
section
open Classical
def fD (aI:Int) (n:Nat) (h:aM):Prop:=
 bN h.state 0 4∧h.aL.length=n∧bN h.gone 0 ((n:Int)-1)∧(h.state≠4->(∀(k:Nat) b,h.aL[k]?=some b->b=false)∧h.gone=0)∧(∀k:Nat,(k:Int)<h.gone->h.aL[k]?=some true) ∧
 (h.state=3->h.aR=true∧bN h.aN 1 aI)∧(h.state≠3->h.aN=0∧(h.state=0->h.aR=false)∧(h.state=2->h.aR=true))
set_option maxRecDepth 100000 in
set_option maxHeartbeats 2000000 in
theorem Gg (n ok:Value) (aI:Int) (p1 p2 p3 f1 f2 f3:Value) (aB:List aT) (d:List aM) (i:Nat) (x:aT) (h:aM) (w:World) (hp:eY (In w) w p2 aB) (hf:dF (In w) w f3 d)
  (hi:aB[i]?=some x) (s:d[i]?=some h) (_hw:aB.length<=100) (hs:x.Small 30) (a9:d.length=aB.length) (aJ:h.aL.length<=1048576) :
  Calls Tryz.prog 117 #[.agg #[n,p1,p2,p3,.int .i64 aI],.agg #[ok,f1,f2,f3],.int .i64 i] w fun e w'=>e=.returned (.bool (B (fD aI x.aA.length h)))∧Below w.heap.size w w':=by
 obtain⟨ap,cp,rfl,a6⟩:=hp;obtain⟨af,cf,rfl,a5⟩:=hf;have a7:i<aB.length:=(List.getElem?_eq_some_iff.1 hi).1;have a8:i<d.length:=(List.getElem?_eq_some_iff.1 s).1;obtain h0 | ⟨b,off,rfl,a1,W⟩:=a6
 ·omega
 obtain h0 | ⟨bf,of,rfl,a4,V⟩:=a5
 ·omega
 obtain⟨v0,v1,v2,v3,v4,⟨⟨a0,k0,rfl,-⟩,-⟩,g0,-,-,-,-⟩:=W i a7 x hi;obtain⟨u2,⟨a2,k2,rfl,U⟩,j0,j1,j2,j3,j4⟩:=V i a8 h s;have O:=aD U;have p:=iE w 27 40 44 #[n,p1,.slice (some ⟨b,off,none⟩) aB.length cp,p3,.int .i64 aI] #[ok,f1,f2,.slice (some ⟨bf,of,none⟩) d.length cf] #[.int .i64 h.state,.int .i64 h.gone,.slice a2 h.aL.length k2,.bool h.aR,.int .i64 h.aN]
 have aO:(i:Int)<(aB.length:Int):=by omega
 have aP:(i:Int)<(d.length:Int):=by omega
 have aY:x.aA.length<=30:=hs.1;have aU:b<w.heap.size:=a1;have aK:bf<w.heap.size:=a4;have G0:=bP g0 p.below;clear U W V hi s hs a9 g0;go_enter Tryz.func117,Tryz.ntmps117
 go_wp2_with fail
 refine (mG h.state 0 4 _).mono ?_;rintro e w' ⟨rfl,rfl⟩;by_cases K:bN h.state 0 4
 case neg=>
  rw[bE K];have Q:=aD K;clear K;go_wp2;go_ret;exact⟨bI (bE fun h=>Q.out h.1).symm,p.below⟩
 rw[bQ K];have Q0:=aD K;clear K;by_cases q1:h.aL.length=x.aA.length
 case neg=>
  have aC:((h.aL.length:Int) != (x.aA.length:Int))=true:=by simp; omega
  have Q:=aD q1;clear q1;go_wp2;go_ret;exact⟨bI (bE fun h=>Q.out h.2.1).symm,p.below⟩
 have aC:((h.aL.length:Int) != (x.aA.length:Int))=false:=by simp; omega
 have Q1:=aD q1;clear q1
 go_wp2_with fail
 refine (mG h.gone 0 ((x.aA.length:Int)-1) _).mono ?_;rintro e w' ⟨rfl,rfl⟩;by_cases L:bN h.gone 0 ((x.aA.length:Int)-1)
 case neg=>
  rw[bE L];have Q:=aD L;clear L;go_wp2;go_ret;exact⟨bI (bE fun h=>Q.out h.2.2.1).symm,p.below⟩
 rw[bQ L];have Q2:=aD L;obtain⟨aV,aW⟩:=L;clear G0 j0 j1 j2 j3 j4;by_cases v:h.state=4
 ·have aE:(h.state != 4)=false:=by simp[v]
  have aS:(h.state == 3)=false:=by simp[v]
  have aZ:(h.state != 0)=true:=by simp[v]
  have b0:(h.state != 2)=true:=by simp[v]
  have A:=aD v;clear v;go_wp2
  go_loop [11] (fun z=>∃(k:Nat),(k:Int)<=h.gone∧z=.int .i64 k∧∀j:Nat,j<k->h.aL[j]?=some true) (fun z=>h.gone.toNat-(intOf z).toNat)
  case atStart=>exact⟨0,by omega,rfl,fun j s=>by omega⟩
  case round=>
   obtain⟨k,hk,rfl,l⟩:=hrel;have I:=aD l;clear l;by_cases u:(k:Int)<h.gone
   ·have X:k<h.aL.length:=by have:=Q1.out; omega
    obtain h0 | ⟨bb,ob,rfl,a3,hcb⟩:=O.out
    ·omega
    obtain⟨y,E⟩:=bG h.aL (aD rfl) X;have gy:=bP (hcb k X y E) p.below
    have aQ:(k:Int)<(h.aL.length:Int):=by omega
    have P:=aD E;clear E hcb
    cases y
    ·go_wp2;go_ret;refine⟨bI (bE fun m=>?_).symm,p.below⟩;have:=m.2.2.2.2.1 k u;rw[P.out] at this
     cases this
    ·go_wp2
     go_round
     case rel=>exact⟨k+1,by omega,by go_num,fun j s=>by
      by_cases e:j=k
      ·subst e; exact P.out
      ·exact I.out j (by omega)⟩
     case measure=>simp[intOf]; omega
   ·have Z:Hid (∀k:Nat,(k:Int)<h.gone->h.aL[k]?=some true):=fun j s=>I.out j (by omega);by_cases q:h.aN=0
    ·have G:(h.aN == 0)=true:=by simp[q]
     have C:=aD q;clear q;go_wp2;go_ret;refine⟨bI ?_,p.below⟩;rw[bQ ⟨Q0.out,Q1.out,Q2.out,fun e=>absurd A.out e,Z.out,fun e=>absurd (A.out.symm.trans e) (by omega),fun _=>⟨C.out,fun e=>absurd (A.out.symm.trans e) (by omega),fun e=>absurd (A.out.symm.trans e) (by omega)⟩⟩]
    ·have G:(h.aN == 0)=false:=by simp[q]
     have C:=aD q;clear q;go_wp2;go_ret;refine⟨bI ?_,p.below⟩;rw[bE fun m=>C.out (m.2.2.2.2.2.2 (by rw[A.out]; omega)).1]
 ·have aE:(h.state != 4)=true:=by simp[v]
  have A:=aD v;clear v;go_wp2
  go_loop [49] (fun z=>∃(k:Nat),k<=h.aL.length∧z=.int .i64 k∧∀(j:Nat) b,j<k->h.aL[j]?=some b->b=false) (fun z=>h.aL.length-(intOf z).toNat)
  case atStart=>exact⟨0,by omega,rfl,fun j b s=>by omega⟩
  case round=>
   obtain⟨k,hk,rfl,l⟩:=hrel;have I:=aD l;clear l;by_cases u:k<h.aL.length
   ·obtain h0 | ⟨bb,ob,rfl,a3,hcb⟩:=O.out
    ·omega
    obtain⟨y,E⟩:=bG h.aL (aD rfl) u;have gy:=bP (hcb k u y E) p.below;have P:=aD E;clear E hcb
    cases y
    ·go_wp2
     go_round
     case rel=>exact⟨k+1,by omega,by go_num,fun j b s J=>by
      by_cases e:j=k
      ·subst e; rw[P.out] at J; cases J; rfl
      ·exact I.out j b (by omega) J⟩
     case measure=>simp[intOf]; omega
    ·go_wp2;go_ret;refine⟨bI (bE fun m=>?_).symm,p.below⟩;exact Bool.noConfusion ((m.2.2.2.1 A.out).1 k true P.out)
   ·have N4:Hid (∀(k:Nat) b,h.aL[k]?=some b->b=false):=fun j b J=>I.out j b (by have:=(List.getElem?_eq_some_iff.1 J).1; omega) J;clear I;by_cases q:h.gone=0
    case neg=>
     have G:(h.gone != 0)=true:=by simp[q]
     have C:=aD q;clear q;go_wp2;go_ret;exact⟨bI (bE fun m=>C.out (m.2.2.2.1 A.out).2).symm,p.below⟩
    have G:(h.gone != 0)=false:=by simp[q]
    have C:=aD q
    have aX:h.gone<=0:=by omega
    clear q;go_wp2;refine wp_loop_rounds 1 ?_;rw[rounds_succ]
    have Z:Hid (∀k:Nat,(k:Int)<h.gone->h.aL[k]?=some true):=fun j s=>by omega
    by_cases M:h.state=3
    ·have aF:(h.state == 3)=true:=by simp[M]
     have D:=aD M;clear M;have S:=p.below;have g:=aD S;clear S;by_cases f:h.aR=true
     ·have c:=aD f
      go_wp2_with fail
      refine (mG h.aN 1 aI _).mono ?_;rintro e w' ⟨rfl,rfl⟩;go_wp2;go_ret;refine⟨bI ?_,by have t:=g.out; rw[c.out] at t; exact t⟩;by_cases r:bN h.aN 1 aI
      ·rw[bQ r,bQ ⟨Q0.out,Q1.out,Q2.out,fun _=>⟨N4.out,C.out⟩,Z.out,fun _=>⟨c.out,r⟩,fun e=>absurd D.out e⟩]
      ·rw[bE r,bE fun m=>r (m.2.2.2.2.2.1 D.out).2]
     ·have o:h.aR=false:=by simpa using f
      have c:=aD o;clear f;go_wp2;go_ret;refine⟨bI (bE fun m=>?_).symm,by have t:=g.out; rw[c.out] at t; exact t⟩;have:=(m.2.2.2.2.2.1 D.out).1;rw[c.out] at this
      cases this
    ·have aF:(h.state == 3)=false:=by simp[M]
     have D:=aD M;clear M;have S:=p.below;have g:=aD S;clear S;by_cases r:h.aN=0
     case neg=>
      have aG:(h.aN == 0)=false:=by simp[r]
      have Q7:=aD r;clear r;go_wp2;go_ret;exact⟨bI (bE fun m=>Q7.out (m.2.2.2.2.2.2 D.out).1).symm,g.out⟩
     have aG:(h.aN == 0)=true:=by simp[r]
     have Q7:=aD r;clear r
     have T:(h.state=0->h.aR=false)->(h.state=2->h.aR=true)->B (fD aI x.aA.length h)=true:=
      fun a b=>bQ ⟨Q0.out,Q1.out,Q2.out,fun _=>⟨N4.out,C.out⟩,Z.out,fun e=>absurd e D.out,fun _=>⟨Q7.out,a,b⟩⟩
     have F:=aD T;clear T;by_cases H:h.state=0
     ·have aH:(h.state != 0)=false:=by simp[H]
      have Y:(h.state != 2)=true:=by simp[H]
      have R:=aD H;clear H;by_cases f:h.aR=true
      ·have c:=aD f;go_wp2;go_ret;refine⟨bI (bE fun m=>?_).symm,by have t:=g.out; rw[c.out] at t; exact t⟩;have:=(m.2.2.2.2.2.2 D.out).2.1 R.out;rw[c.out] at this
       cases this
      ·have o:h.aR=false:=by simpa using f
       have c:=aD o;clear f;go_wp2;go_ret;exact⟨bI (F.out (fun _=>c.out) (fun e=>absurd (R.out.symm.trans e) (by omega))).symm,by have t:=g.out; rw[c.out] at t; exact t⟩
     ·have aH:(h.state != 0)=true:=by simp[H]
      have R:=aD H;clear H;by_cases N:h.state=2
      ·have Y:(h.state != 2)=false:=by simp[N]
       have Q9:=aD N;clear N;by_cases f:h.aR=true
       ·have c:=aD f;go_wp2;go_ret;exact⟨bI (F.out (fun e=>absurd e R.out) (fun _=>c.out)).symm,by have t:=g.out; rw[c.out] at t; exact t⟩
       ·have o:h.aR=false:=by simpa using f
        have c:=aD o;clear f;go_wp2;go_ret;refine⟨bI (bE fun m=>?_).symm,by have t:=g.out; rw[c.out] at t; exact t⟩;have:=(m.2.2.2.2.2.2 D.out).2.2 Q9.out;rw[c.out] at this
        cases this
      ·have Y:(h.state != 2)=true:=by simp[N]
       have Q9:=aD N;clear N;go_wp2;go_ret;exact⟨bI (F.out (fun e=>absurd e R.out) (fun e=>absurd e Q9.out)).symm,g.out⟩
end
end Go.Proofs.YtdhinkgjiapigaaGreatDoor

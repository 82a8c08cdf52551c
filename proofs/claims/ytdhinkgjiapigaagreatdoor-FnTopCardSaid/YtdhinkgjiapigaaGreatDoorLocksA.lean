import Derived.Test.YtdhinkgjiapigaaGreatDoorCopyA
namespace Go.Proofs.YtdhinkgjiapigaaGreatDoor
open Go.Deep Go.RowKit
set_option maxRecDepth 100000 in
set_option maxHeartbeats 2000000 in
theorem D5 (n R ok W X Y f1 N O:Value) (aB:List aT) (a:List aM) (i:Nat) (x:aT) (h:aM) (s:Int) (w:World) (hp:eY (In w) w X aB) (hf:dF (In w) w O a)
  (hi:aB[i]?=some x) (c:a[i]?=some h) (_hw:aB.length<=1048576) (_hh:a.length<=1048576) (l:x.aA.length<=1048576) (H:0<=h.gone) :
  Calls Tryz.prog 94 #[.agg #[n,W,X,Y,R],.agg #[ok,f1,N,O],.int .i64 i,.int .i64 s] w fun e w'=>e=.returned (.bool (iP x h s))∧Below w.heap.size w w':=by
 obtain⟨ap,cp,rfl,G⟩:=hp;obtain⟨af,cf,rfl,F⟩:=hf;have I:i<aB.length:=(List.getElem?_eq_some_iff.1 hi).1;have J:i<a.length:=(List.getElem?_eq_some_iff.1 c).1;obtain Q | ⟨b,off,rfl,a2,r⟩:=G
 ·omega
 obtain Q | ⟨bf,of,rfl,a3,o⟩:=F
 ·omega
 obtain⟨v0,v1,v2,v3,v4,⟨⟨a0,k0,rfl,u⟩,-⟩,P,-,-,-,-⟩:=r i I x hi;obtain⟨u2,-,U,V,-⟩:=o i J h c;have f:=eB w 27 40 #[n,W,.slice (some ⟨b,off,none⟩) aB.length cp,Y,R] #[ok,f1,N,.slice (some ⟨bf,of,none⟩) a.length cf];have Z:=aD u
 have S:(i:Int)<(aB.length:Int):=by omega
 have T:(i:Int)<(a.length:Int):=by omega
 have G0:=bP P f.below;have J0:=bP U f.below;have J1:=bP V f.below;clear r o hi c u P U V;go_enter Tryz.func94,Tryz.ntmps94;by_cases m:h.state=0
 ·have L:(h.state == 0)=true:=by simp[m]
  have D:=aD m;clear m;go_wp2;go_ret;exact⟨bI (CQ H fun q=>q.1 D.out).symm,f.below⟩
 have L:(h.state == 0)=false:=by simp[m]
 have D:=aD m;clear m;go_wp2
 go_loop [25] (fun z=>∃(k:Nat),k<=x.aA.length∧z=.int .i64 k∧∀j:Nat,j<k->x.aA[j]?=some s->¬h.gone<=j) (fun z=>x.aA.length-(intOf z).toNat)
 case atStart=>exact⟨0,by omega,rfl,fun j c=>by omega⟩
 case round=>
  obtain⟨k,hk,rfl,d⟩:=hrel;have C:=aD d;clear d;by_cases t:k<x.aA.length
  ·obtain Q | ⟨bs,os,rfl,a4,p⟩:=Z.out
   ·omega
   obtain⟨y,K⟩:=bG x.aA (aD rfl) t;have gy:=bP (p k t y K) f.below;have M:=aD K;clear K p;by_cases g:y=s
   ·have E:(y == s)=true:=by simp[g]
    have A:=aD g;clear g;by_cases v:h.gone<=(k:Int)
    ·have B:=aD v;go_wp2;go_ret;exact⟨bI ((Cf H).2 ⟨D.out,k,by rw[M.out,A.out],B.out⟩).symm,f.below⟩
    ·have a1:decide (h.gone<=(k:Int))=false:=by simpa using v
     have B:=aD v;clear v;go_wp2
     go_round
     case rel=>exact⟨k+1,by omega,by go_num,fun j c l=>by
      by_cases e:j=k
      ·subst e; exact B.out
      ·exact C.out j (by omega) l⟩
     case measure=>simp[intOf]; omega
   ·have E:(y == s)=false:=by simp[g]
    have A:=aD g;clear g;go_wp2
    go_round
    case rel=>exact⟨k+1,by omega,by go_num,fun j c l=>by
     by_cases e:j=k
     ·subst e; rw[M.out] at l; cases l; exact absurd rfl A.out
     ·exact C.out j (by omega) l⟩
    case measure=>simp[intOf]; omega
  ·go_wp2;go_ret
   exact⟨bI (CQ H fun q=>by
    obtain⟨-,j,c,a5⟩:=q;have:=C.out j (by have:=(List.getElem?_eq_some_iff.1 c).1; omega) c
    omega).symm,f.below⟩
set_option maxRecDepth 100000 in
set_option maxHeartbeats 2000000 in
theorem G7 (n O ok p1 p2 P f1 N f3:Value) (f:List Int) (aB:List aT) (a:List aM) (i:Nat) (x:aT) (h:aM) (q:Nat) (w:World) (aR:Ints (In w) w p1 f) (hp:eY (In w) w p2 aB) (hf:dF (In w) w f3 a)
  (hi:aB[i]?=some x) (C:a[i]?=some h) (hw:aB.length<=1048576) (hh:a.length<=1048576) (hs:x.Small 1048576) (hg:0<=h.gone) (hq:q<f.length) (_hsl:f.length<=1048576) :
  Calls Tryz.prog 133 #[.agg #[n,p1,p2,P,O],.agg #[ok,f1,N,f3],.int .i64 i,.int .i64 q] w fun e w'=>e=.returned (.int .i64 (oJ f x h q))∧Below w.heap.size w w':=by
 have HP:=aD hp;have HF:=aD hf;have HI:=aD hi;have HJ:=aD C;obtain⟨a1,c1,rfl,u⟩:=aR;obtain⟨ap,M,rfl,aN⟩:=hp;obtain⟨af,cf,rfl,aL⟩:=hf;have aO:i<aB.length:=(List.getElem?_eq_some_iff.1 hi).1;have aP:i<a.length:=(List.getElem?_eq_some_iff.1 C).1;obtain h0 | ⟨Z,o1,rfl,b2,u⟩:=u
 ·omega
 obtain h0 | ⟨b,off,rfl,b0,a4⟩:=aN
 ·omega
 obtain h0 | ⟨bf,of,rfl,b3,a0⟩:=aL
 ·omega
 obtain⟨v0,v1,v2,v3,v4,⟨-,⟨a2,J,rfl,a9⟩,⟨a3,k3,rfl,aA⟩,-⟩,-,F,g2,-,-⟩:=a4 i aO x hi;obtain⟨u2,-,j0,-⟩:=a0 i aP h C;obtain⟨Q,H⟩:=bG f (aD rfl) hq;have s0:=u q hq Q H;have X:=eB w 27 40 #[n,.slice (some ⟨Z,o1,none⟩) f.length c1,.slice (some ⟨b,off,none⟩) aB.length M,P,O] #[ok,f1,N,.slice (some ⟨bf,of,none⟩) a.length cf];have aI:=aD a9;have aK:=aD aA;have aH:=aD H
 have aV:(i:Int)<(aB.length:Int):=by omega
 have aW:(i:Int)<(a.length:Int):=by omega
 have b5:(q:Int)<(f.length:Int):=by omega
 have J0:=bP j0 X.below;have G2:=bP g2 X.below;have aE:=aD F;have aG:=aD s0;obtain⟨aS,aY,aZ,-⟩:=hs;clear a4 a0 hi C a9 aA F g2 j0 H s0 u;go_enter Tryz.func133,Tryz.ntmps133;by_cases S:h.state=0
 ·have aU:(h.state == 0)=true:=by simp[S]
  have Y:=aD S;clear S;go_wp2;go_ret;exact⟨vV (A8 Y.out).symm,X.below⟩
 have aU:(h.state == 0)=false:=by simp[S]
 have Y:=aD S;clear S;go_wp2
 go_loopw [27] (fun z wr=>∃(k:Nat),k<=x.aJ.length∧z=.int .i64 k∧(∀(j:Nat) y,j<k->x.aJ[j]?=some y->(y.1 == (q:Int))=false)∧bD w [(27,#[n,.slice (some ⟨Z,o1,none⟩) f.length c1,.slice (some ⟨b,off,none⟩) aB.length M,P,O]),(40,#[ok,f1,N,.slice (some ⟨bf,of,none⟩) a.length cf])] wr) (fun z _=>x.aJ.length-(intOf z).toNat)
 case atStart=>exact⟨0,by omega,rfl,fun j _ C=>by omega,X⟩
 case round=>
  obtain⟨k,hk,rfl,d,K⟩:=hrel;have v:=aD d;clear d X J0 G2;by_cases a6:k<x.aJ.length
  ·obtain h0 | ⟨bs,os,rfl,G,t⟩:=aK.out
   ·omega
   obtain⟨y,I⟩:=bG x.aJ (aD rfl) a6;obtain⟨g0,F⟩:=t k a6 y I;rw[← K.below.cell (p:=⟨bs,_,none⟩) G] at g0 F;have W:=aD I;have L:=K.call (bC wr (.cells #[.int .i64 y.1,.int .i64 y.2] 58));clear I t;by_cases B:y.1=(q:Int)
   ·have r:(y.1 == (q:Int))=true:=by simp[B]
    have E1:=aD r;clear B;go_wp2;go_ret;exact⟨vV (C8 Y.out (CO v.out W.out E1.out)).symm,L.below⟩
   ·have r:(y.1 == (q:Int))=false:=by simp[B]
    have E1:=aD r;clear B;go_wp2;go_roundw
    case rel=>exact⟨k+1,by omega,by go_num,fun j R C m=>by
     by_cases e:j=k
     ·subst e; rw[W.out] at m; cases m; exact E1.out
     ·exact v.out j R (by omega) m,L⟩
    case measure=>simp[intOf]; omega
  ·have a7:x.aJ.find? (fun y=>y.1 == (q:Int))=none:=CN v.out (by omega);have V:=aD a7;have r2:wr.cell? ⟨w.heap.size,2,none⟩=some (.slice (some ⟨b,off,none⟩) aB.length M):=K.c 0 2 rfl rfl;have G1:=bP aE.out K.below;clear a7 v;go_wp2;clear r2 G1;rename World=>wo
   go_loopw [45] (fun z wr=>∃(k:Nat),k<=x.aQ.length∧z=.int .i64 k∧(∀(j:Nat) y,j<k->x.aQ[j]?=some y->(y.1 == (q:Int)&&iP x h (f.getD (q:Int).toNat 0))=false)∧bD w [(27,#[n,.slice (some ⟨Z,o1,none⟩) f.length c1,.slice (some ⟨b,off,none⟩) aB.length M,P,O]),(40,#[ok,f1,N,.slice (some ⟨bf,of,none⟩) a.length cf])] wr) (fun z _=>x.aQ.length-(intOf z).toNat)
   case atStart=>exact⟨0,by omega,rfl,fun j _ C=>by omega,K⟩
   case round=>
    obtain⟨J,b4,rfl,d,L⟩:=hrel;have v:=aD d;clear d K;by_cases D:J<x.aQ.length
    ·obtain h0 | ⟨bs,os,rfl,G,t⟩:=aI.out
     ·omega
     obtain⟨⟨c,g⟩,I⟩:=bG x.aQ (aD rfl) D;obtain⟨g0,F⟩:=t J D (c,g) I;simp only at g0 F;rw[← L.below.cell (p:=⟨bs,_,none⟩) G] at g0 F;have W:=aD I;have l:=L.call (bC wr (.cells #[.int .i64 c,.int .i64 g] 58))
     have a5:f.getD (q:Int).toNat 0=Q:=by rw[Int.toNat_natCast,List.getD_eq_getElem?_getD,aH.out]; rfl
     have U:=aD a5;clear I t a5;have aX:=Ext.any (wr.alloc (.cells #[.int .i64 c,.int .i64 g] 58));have E0:=Ext.cell (show (wr.alloc (.cells #[.int .i64 c,.int .i64 g] 58)).cell? ⟨wr.heap.size,0,none⟩=some (.int .i64 c) by simp);have E1:=Ext.cell (show (wr.alloc (.cells #[.int .i64 c,.int .i64 g] 58)).cell? ⟨wr.heap.size,1,none⟩=some (.int .i64 g) by simp);have P0:=Ext.cell (show (wr.alloc (.cells #[.int .i64 c,.int .i64 g] 58)).cell? ⟨w.heap.size,0,none⟩=some n from l.c 0 0 rfl rfl);have P1:=Ext.cell (show (wr.alloc (.cells #[.int .i64 c,.int .i64 g] 58)).cell? ⟨w.heap.size,1,none⟩=some (.slice (some ⟨Z,o1,none⟩) f.length c1) from l.c 0 1 rfl rfl);have P2:=Ext.cell (show (wr.alloc (.cells #[.int .i64 c,.int .i64 g] 58)).cell? ⟨w.heap.size,2,none⟩=some (.slice (some ⟨b,off,none⟩) aB.length M) from l.c 0 2 rfl rfl);have P3:=Ext.cell (show (wr.alloc (.cells #[.int .i64 c,.int .i64 g] 58)).cell? ⟨w.heap.size,3,none⟩=some P from l.c 0 3 rfl rfl);have P4:=Ext.cell (show (wr.alloc (.cells #[.int .i64 c,.int .i64 g] 58)).cell? ⟨w.heap.size,4,none⟩=some O from l.c 0 4 rfl rfl);have F0:=Ext.cell (show (wr.alloc (.cells #[.int .i64 c,.int .i64 g] 58)).cell? ⟨w.heap.size+1,0,none⟩=some ok from l.c 1 0 rfl rfl);have F1:=Ext.cell (show (wr.alloc (.cells #[.int .i64 c,.int .i64 g] 58)).cell? ⟨w.heap.size+1,1,none⟩=some f1 from l.c 1 1 rfl rfl)
     have F2:=Ext.cell (show (wr.alloc (.cells #[.int .i64 c,.int .i64 g] 58)).cell? ⟨w.heap.size+1,2,none⟩=some N from l.c 1 2 rfl rfl);have F3:=Ext.cell (show (wr.alloc (.cells #[.int .i64 c,.int .i64 g] 58)).cell? ⟨w.heap.size+1,3,none⟩=some (.slice (some ⟨bf,of,none⟩) a.length cf) from l.c 1 3 rfl rfl);have S0:=Ext.cell (bP aG.out l.below)
     have s:∀o:Ext (wr.alloc (.cells #[.int .i64 c,.int .i64 g] 58)),Calls Tryz.prog 94 #[.agg #[n,.slice (some ⟨Z,o1,none⟩) f.length c1,.slice (some ⟨b,off,none⟩) aB.length M,P,O],.agg #[ok,f1,N,.slice (some ⟨bf,of,none⟩) a.length cf],.int .i64 i,.int .i64 Q] o.w fun e w'=>e=.returned (.bool (iP x h Q))∧Below o.w.heap.size o.w w':=fun o=>by
      have hB:=l.below.trans (o.below.mono l.below.size);exact D5 _ _ _ _ _ _ _ _ _ aB a i x h Q o.w (HP.out.keep (In.keep hB).1 (In.keep hB).2) (HF.out.keep (In.keep hB).1 (In.keep hB).2) HI.out HJ.out hw hh aS hg
     have T:=aD s;clear s
     have aC:(c == (q:Int)&&iP x h (f.getD (q:Int).toNat 0))=false->∀(j:Nat) R,j<J+1->x.aQ[j]?=some R->(R.1 == (q:Int)&&iP x h (f.getD (q:Int).toNat 0))=false:=fun hs j R C m=>by
      by_cases e:j=J
      ·subst e; rw[W.out] at m; cases m; exact hs
      ·exact v.out j R (by omega) m
     have A:=aD aC;clear aC;by_cases B:c=(q:Int)
     ·subst B
      have EE:Hid (((q:Int) == (q:Int))=true):=by show ((q:Int) == (q:Int))=true; simp
      cases hhb:iP x h Q
      ·rw[hhb] at T;have E:=aD hhb;clear hhb;go_wp2;refine gQ (by kernel_rfl) (by kernel_rfl) ?_
       repeat (go_big_quiet_step ((go_at_call 94; exact eO (T.out _))))
       refine wpQuiet_nil ?_;rintro _ ⟨o,rfl⟩;go_wp2;go_roundw
       case rel=>exact⟨J+1,by omega,by go_num,A.out (by rw[U.out,E.out,Bool.and_false]),l.call o.below⟩
       case measure=>simp[intOf]; omega
      ·rw[hhb] at T;have E:=aD hhb;clear hhb;go_wp2;refine gQ (by kernel_rfl) (by kernel_rfl) ?_
       repeat (go_big_quiet_step ((go_at_call 94; exact eO (T.out _))))
       refine wpQuiet_nil ?_;rintro _ ⟨o,rfl⟩;go_wp2;go_ret;exact⟨vV (Cp Y.out V.out (CO v.out W.out (by rw[U.out,E.out,EE.out]; rfl))).symm,(l.call o.below).below⟩
     ·have r:(c == (q:Int))=false:=by simp[B]
      have EE:=aD r;clear B;go_wp2;refine gQ (by kernel_rfl) (by kernel_rfl) ?_
      repeat (go_big_quiet_step ((go_at_call 94; exact eO (T.out _))))
      refine wpQuiet_nil ?_;rintro _ ⟨o,rfl⟩;go_wp2;go_roundw
      case rel=>exact⟨J+1,by omega,by go_num,A.out (by rw[EE.out,Bool.false_and]),l.call o.below⟩
      case measure=>simp[intOf]; omega
    ·have a8:x.aQ.find? (fun y=>y.1 == (q:Int)&&iP x h (f.getD (q:Int).toNat 0))=none:=CN v.out (by omega);have aF:=aD a8;clear a8;go_wp2;go_ret;exact⟨vV (A9 Y.out V.out aF.out).symm,L.below⟩
theorem bD.but {w:World}{a:List (TypeId×Array Value)}{W W':World}{K:Nat->Prop}(h:bD w a W) (b:But K W W') (d:∀c,c<w.heap.size+a.length->K c):bD w a W':=by
 refine⟨h.below.trans (b.below h.below.size fun c g=>d c (by omega)),fun j t c e=>?_⟩;have f:=(List.getElem?_eq_some_iff.1 e).1;exact b.row (h.row j t c e) (d _ (by omega))
theorem mH {W W':World}{base:Nat}{e size:Nat}{v:Value}{n:Nat}{xs:List Value}(a:W.ownsRow base e size v n xs) (d:W.grownBy W' v.ownBlock) {B:Nat}(c:B<=base) (b:B<=W.heap.size):Below B W W':=
 (Below.refl _ _).grown d b fun _k f=>Nat.le_trans c (gJ a f).1
def dD (l:List Int):List Value:=l.map (Value.int .i64)
theorem xD (a b:List Int):dD (a++b)=dD a++dD b:=List.map_append
theorem tP (l:List Int):(dD l).length=l.length:=List.length_map _
theorem oF {w:World}{base:Nat}{v:Value}{l:List Int}{n:Nat}(h:w.ownsRow base 3 1 v n (dD l)):n=l.length∧Ints (fun c=>base<=c∧c<w.heap.size) w v l:=by
 have b:n=l.length:=by have:=h.1; rw[tP] at this; omega
 refine⟨b,?_⟩;subst b;rcases Nat.eq_zero_or_pos l.length with e | e
 ·obtain⟨-,⟨rfl,-⟩ | ⟨g,a,cur,rfl,-⟩⟩:=h
  ·exact⟨none,0,by rw[e],.inl e⟩
  ·exact⟨_,a,rfl,.inl e⟩
 ·obtain⟨g,a,f,rfl,j,d,o,k⟩:=zdt h e;exact⟨_,a,rfl,.inr ⟨g,0,rfl,⟨j,d.lt⟩,fun i hi x m=>by rw[Nat.zero_add,d.cell (by omega),k i (.int .i64 x) (by unfold dD; rw[List.getElem?_map,m]; rfl)]⟩⟩
set_option maxRecDepth 100000 in
set_option maxHeartbeats 2000000 in
theorem Aw (n O ok p1 p2 T f1 M f3:Value) (p:aK) (d:aF) (q:Nat) (w:World) (R:Ints (In w) w p1 p.aE) (hp:eY (In w) w p2 p.aB) (hf:dF (In w) w f3 d.aB)
  (hl:d.aB.length=p.aB.length) (hs:p.Small 1048576) (hg:∀(i:Nat) h,d.aB[i]?=some h->0<=h.gone) (hq:q<p.aE.length) :
  Calls Tryz.prog 84 #[.agg #[n,p1,p2,T,O],.agg #[ok,f1,M,f3],.int .i64 q] w fun e w'=>∃v,e=.returned v∧Below w.heap.size w w'∧∃m,w'.ownsRow (w.heap.size+1+1) 3 1 v m (dD (gS p d q)):=by
 have a5:=aD R;have HP:=aD hp;have HF:=aD hf;have HL:=aD hl;have HG:=aD hg;have HS:=aD hs;obtain⟨U,X,rfl,-⟩:=R;obtain⟨W,Z,rfl,-⟩:=hp;obtain⟨V,Y,rfl,-⟩:=hf;obtain⟨a8,a9,-⟩:=hs;have T0:=eB w 27 40 #[n,.slice U p.aE.length X,.slice W p.aB.length Z,T,O] #[ok,f1,M,.slice V d.aB.length Y];clear hl hg;go_enter Tryz.func84,Tryz.ntmps84;go_wp2
 go_loopw [7,12] (fun o z wr=>∃(i m:Nat) (v:Value),i<=p.aB.length∧z=.int .i64 i∧o=v∧wr.ownsRow (w.heap.size+1+1) 3 1 v m (dD (((List.range i).filter fun j=>decide (0<pR p d q j)).map fun j:Nat=>(j:Int)))∧bD w [(27,#[n,.slice U p.aE.length X,.slice W p.aB.length Z,T,O]),(40,#[ok,f1,M,.slice V d.aB.length Y])] wr) (fun _ z _=>p.aB.length-(intOf z).toNat)
 case atStart=>exact⟨0,0,_,by omega,rfl,rfl,World.ownsRow_nil _ _ _ _,T0⟩
 case round=>
  obtain⟨i,m,v,hi,rfl,rfl,s,a⟩:=hrel;have t:=aD s;clear T0 s;by_cases Q:i<p.aB.length
  ·obtain⟨x,hx⟩:=bG p.aB (aD rfl) Q;obtain⟨h,hh⟩:=bG d.aB (aD HL.out) Q;have r0:wr.cell? ⟨w.heap.size,0,none⟩=some n:=a.c 0 0 rfl rfl;have r1:wr.cell? ⟨w.heap.size,1,none⟩=some (.slice U p.aE.length X):=a.c 0 1 rfl rfl;have r2:wr.cell? ⟨w.heap.size,2,none⟩=some (.slice W p.aB.length Z):=a.c 0 2 rfl rfl;have r3:wr.cell? ⟨w.heap.size,3,none⟩=some T:=a.c 0 3 rfl rfl;have r4:wr.cell? ⟨w.heap.size,4,none⟩=some O:=a.c 0 4 rfl rfl;have t0:wr.cell? ⟨w.heap.size+1,0,none⟩=some ok:=a.c 1 0 rfl rfl;have t1:wr.cell? ⟨w.heap.size+1,1,none⟩=some f1:=a.c 1 1 rfl rfl;have t2:wr.cell? ⟨w.heap.size+1,2,none⟩=some M:=a.c 1 2 rfl rfl;have t3:wr.cell? ⟨w.heap.size+1,3,none⟩=some (.slice V d.aB.length Y):=a.c 1 3 rfl rfl
   have S:pR p d q i=oJ p.aE x h q:=by unfold pR; rw[hx,hh]
   have G:=aD S
   have f:=G7 n O ok (.slice U p.aE.length X) (.slice W p.aB.length Z) T f1 M (.slice V d.aB.length Y) p.aE p.aB d.aB i x h q wr (a5.out.keep (In.keep a.below).1 (In.keep a.below).2) (HP.out.keep (In.keep a.below).1 (In.keep a.below).2) (HF.out.keep (In.keep a.below).1 (In.keep a.below).2)
    hx hh a9 (by have:=HL.out; omega) (HS.out.2.2.1 x (List.mem_of_getElem? hx)) (HG.out i h hh) hq a8
   have HC:=aD f;clear hx hh S f
   go_wp2_with fail
   refine HC.out.mono ?_;rintro e E ⟨rfl,N⟩;have T2:=a.call N;have b:=gD (K:=fun _=>True) t.out (But.aG N) fun _ _=>trivial;clear r0 r1 r2 r3 r4 t0 t1 t2 t3 HC;obtain⟨wt,B⟩:∃c,oJ p.aE x h q=c:=⟨_,rfl⟩;rw[B];have H:Hid (pR p d q i=wt):=G.out.trans B;clear B G;by_cases D:0<wt
   ·have a7:decide (0<wt)=true:=by simpa using D
    have E1:=aD D;clear D;have y:=bC E (.cells #[.int .i64 (i:Int)] 3);have l:=aD (gD (K:=fun _=>True) b (But.aG y) fun _ _=>trivial);have TY:=T2.call y
    have L:Hid (1=0∨∃A,(some (⟨E.heap.size,0,none⟩:Addr))=some A∧∀j u,([.int .i64 (i:Int)]:List Value)[j]?=some u->(E.alloc (.cells #[.int .i64 (i:Int)] 3)).cell? (A.add j)=some u):=by
     refine .inr ⟨_,rfl,fun j u hj=>?_⟩;rw[mJ,Nat.zero_add];have aA:j<1:=(List.getElem?_eq_some_iff.1 hj).1
     obtain rfl:j=0:=by omega
     rw[(dH E 3 #[.int .i64 (i:Int)]).cell (by simp)];exact hj
    have J:Hid (∀u∈([.int .i64 (i:Int)]:List Value),u.oneCell'=true):=by
     intro u hu;simp at hu;subst hu;rfl
    have hm:m<=i:=by
     have h1:=t.out.1;rw[tP] at h1;have h2:=CW (fun j=>decide (0<pR p d q j)) i;omega
    have a2:Hid (m+1<=maxLen):=by show m+1<=maxLen; unfold maxLen; omega
    have a3:Hid ((m+1)*8<=140737488355328):=by show (m+1)*8<=140737488355328; omega
    have I:Hid (w.heap.size+1+1<=(E.alloc (.cells #[.int .i64 (i:Int)] 3)).heap.size):=TY.lt (j:=1) rfl;obtain⟨xs,C⟩:∃xs,xs=dD (((List.range i).filter fun j=>decide (0<pR p d q j)).map fun j:Nat=>(j:Int)):=⟨_,rfl⟩;have a6:=aD C;rw[← C] at l;have F:=aD TY;clear C TY y b T2
    go_wp2_with (at_builtin; refine iN rfl _ _ 23 rfl (w.heap.size+1+1) 3 (.int .i64 0) 1 8 Tryz.underlying23 Tryz.dA rfl (by decide) _ m xs rfl l.out (some ⟨E.heap.size,0,none⟩) 1 1 [.int .i64 (i:Int)] rfl rfl L.out J.out a2.out a3.out I.out ?_)
    intro u5 w5 g r
    have T5:=F.out.but (W':=w5) (K:=fun c=>c<w.heap.size+1+1) (But.of_below (mH l.out r (Nat.le_refl _) I.out) fun _ _ z=>z) fun c hc=>by simpa using hc
    have k:w5.ownsRow (w.heap.size+1+1) 3 1 u5 (m+1) (dD (((List.range (i+1)).filter fun j=>decide (0<pR p d q j)).map fun j:Nat=>(j:Int))):=by
     rw[Av,if_pos (by rw[H.out]; simpa using E1.out),xD,← a6.out];exact g
    have a4:=aD k;clear g k r l L J F;go_wp2;go_roundw
    case rel=>exact⟨i+1,m+1,_,by omega,by go_num,rfl,a4.out,T5⟩
    case measure=>simp[intOf]; omega
   ·have a7:decide (0<wt)=false:=by simpa using D
    have E1:=aD D;clear D;go_wp2;go_roundw
    case rel=>exact⟨i+1,m,_,by omega,by go_num,rfl,by rw[Av,if_neg (by rw[H.out]; simpa using E1.out),List.append_nil]; exact b,T2⟩
    case measure=>simp[intOf]; omega
  ·have P:i=p.aB.length:=by omega
   have a0:=aD P;clear P;go_wp2;go_ret;exact⟨_,rfl,a.below,m,by have:=t.out; rw[a0.out] at this; exact this⟩
end Go.Proofs.YtdhinkgjiapigaaGreatDoor

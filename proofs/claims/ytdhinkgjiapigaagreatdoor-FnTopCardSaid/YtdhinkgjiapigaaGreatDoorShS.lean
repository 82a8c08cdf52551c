import Derived.Test.YtdhinkgjiapigaaGreatDoorWhyS
namespace Go.Proofs.YtdhinkgjiapigaaGreatDoor
open Classical Go.Deep Go.RowKit
def tx (l:List UInt8):ByteArray:=⟨l.toArray⟩
theorem oO (l m:List UInt8):tx l++tx m=tx (l++m):=by unfold tx; rw[ByteArray.mk_append_mk]
theorem mQ (l:List UInt8):(tx l).size=l.length:=by unfold tx; simp[ByteArray.size]
theorem AA {a b:List UInt8}(h:a=b):Ending.returned (.string (tx a))=.returned (.string (tx b)):=by rw[h]
def hasB (p:aK) (d:aF) (i:Nat) (s:Int):Bool:=match p.aB[i]?,d.aB[i]? with
 | some x,some h=>iP x h s
 | _,_=>false
def oP (p:aK) (d:aF) (s:Int) (n:Nat):Bool:=(List.range n).any fun i=>hasB p d i s
theorem oR (p:aK) (d:aF) (s:Int) (n:Nat):oP p d s (n+1)=(oP p d s n || hasB p d n s):=by unfold oP; rw[List.range_succ,List.any_append]; simp
def nO (p:aK) (d:aF) (s:Nat):UInt8:=if d.aH.getD s false=true then 35 else if oP p d (s:Int) p.aB.length=true then 61 else 46
def iC (x:Int×Int):UInt8:=if x.2=x.1 then (if x.2=1 then 60 else 62) else 63
def tM (p:aK) (d:aF) (k:Nat):List UInt8:=iC (d.aC.getD k (0,0)) :: if 0<(gS p d (k:Int)).length then [33] else []
def nT (s:Int):UInt8:=if s=0 then 45 else if s=1 then 115 else if s=2 then 67 else if s=3 then 116 else 117
def eM (p:aK) (d:aF) (n:Nat):List UInt8:=(List.range n).map (nO p d)
def jX (p:aK) (d:aF) (n:Nat):List UInt8:=(List.range n).flatMap (tM p d)
def lG (d:aF) (n:Nat):List UInt8:=(List.range n).map fun i=>nT ((d.aB[i]?.map fun h=>h.state).getD 0)
def lF (p:aK) (d:aF):List UInt8:=eM p d d.aH.length++[32]++jX p d d.aC.length++[32]++lG d d.aB.length
theorem yH (p:aK) (d:aF) (n:Nat):eM p d (n+1)=eM p d n++[nO p d n]:=by unfold eM; rw[List.range_succ,List.map_append]; rfl
theorem yI (p:aK) (d:aF) (n:Nat):jX p d (n+1)=jX p d n++tM p d n:=by unfold jX; rw[List.range_succ,List.flatMap_append]; simp
theorem Ex (d:aF) (n:Nat):lG d (n+1)=lG d n++[nT ((d.aB[n]?.map fun h=>h.state).getD 0)]:=by unfold lG; rw[List.range_succ,List.map_append]; rfl
theorem pV (p:aK) (d:aF) (n:Nat):(eM p d n).length=n:=by unfold eM; simp
theorem Br (d:aF) (n:Nat):(lG d n).length=n:=by unfold lG; simp
theorem tA (p:aK) (d:aF) (k:Nat):(tM p d k).length<=2:=by
 unfold tM;split
 ·exact Nat.le_refl _
 ·show 1<=2;omega
theorem vZ (p:aK) (d:aF):∀n,(jX p d n).length<=2*n
 | 0=>Nat.le_refl _
 | n+1=>by
  rw[yI,List.length_append]
  have:=vZ p d n
  have:=tA p d n
  omega
set_option maxRecDepth 100000 in
set_option maxHeartbeats 900000 in
theorem KM (p1 p2 p3 f1 f2 f3:Value) (p:aK) (d:aF) (w:World) (hp:aZ (In w) w p1 p2 p3 p) (hf:bB (In w) w f1 f2 f3 d) (hs:p.Small 1048576) (hR:cJ p d) :
  Calls Tryz.prog 49 #[.agg #[.int .i64 p.aA,p1,p2,p3,.int .i64 p.aI],.agg #[.bool d.ok,f1,f2,f3]] w fun e w'=>e=.returned (.string (tx (lF p d)))∧Below w.heap.size w w':=by
 have T0:=eB w 27 40 #[.int .i64 p.aA,p1,p2,p3,.int .i64 p.aI] #[.bool d.ok,f1,f2,f3];have KP:=aD fun (W:World) (h:Below w.heap.size w W)=>hp.keep (Q:=In W) (In.keep h).1 (In.keep h).2;have KF:=aD fun (W:World) (h:Below w.heap.size w W)=>hf.keep (Q:=In W) (In.keep h).1 (In.keep h).2;obtain⟨a1,c1,rfl⟩:=hp.1.size;obtain⟨a2,c2,rfl⟩:=hp.2.1.size;obtain⟨a3,c3,rfl⟩:=hp.2.2.size;obtain⟨o1,m1,rfl⟩:=hf.1.size;obtain⟨o2,m2,rfl⟩:=hf.2.1.size;obtain⟨o3,m3,rfl⟩:=hf.2.2.size;obtain⟨Y,I⟩:∃n,n=d.aH.length:=⟨_,rfl⟩;obtain⟨N,J⟩:∃n,n=d.aC.length:=⟨_,rfl⟩;obtain⟨l,D⟩:∃n,n=p.aB.length:=⟨_,rfl⟩;have U:d.aB.length=p.aB.length:=hR.2.2.2.2.1;have aG:d.aC.length=p.aE.length:=hR.2.2.2.1
 have bS:Y<=100:=by rw[I]; have h1:=hR.2.2.1; have h2:p.aA<=60:=hR.1.parts.1.1.2; omega
 have bT:N<=100:=by rw[J,aG]; have:=hR.1.parts.1.2.1; omega
 have H:l<=100:=by rw[D]; exact hR.1.parts.1.2.2.1
 rw[← I,← J,U,← D] at T0;rw[← D] at KP;rw[← I,← J,U,← D] at KF;have HS:=aD hs;have HR:=aD hR;have a0:=aD I;have O:=aD J;have m:=aD D;have s:=aD U;have bH:=aD aG;rw[← I,← J,U,← D];clear hp hf hs hR I J D U aG;have e1:=T0.c 1 1 rfl rfl;have aW:=aD T0;clear T0;go_enter Tryz.func49,Tryz.ntmps49;go_wp2;clear e1
 go_loopw [5,17] (fun o z wr=>∃k:Nat,k<=Y∧z=.int .i64 (k:Int)∧o=.string (tx (eM p d k))∧bD w [(27,#[.int .i64 p.aA,.slice a1 p.aE.length c1,.slice a2 l c2,.slice a3 p.aO.length c3,.int .i64 p.aI]),(40,#[.bool d.ok,.slice o1 Y m1,.slice o2 N m2,.slice o3 l m3])] wr) (fun _ z _=>Y-(intOf z).toNat)
 case atStart=>exact⟨0,Nat.zero_le _,rfl,rfl,aW.out⟩
 case round=>
  obtain⟨k,hk,rfl,rfl,b⟩:=hrel;rename World=>wo;clear aW;by_cases bX:k<Y
  ·have b8:decide ((k:Int)<(Y:Int))=true:=decide_eq_true (by omega)
   have bW:(k:Int)<(Y:Int):=by omega
   have b2:=b.c 0 2 rfl rfl;rw[Nat.add_zero] at b2;have f:=aD b;clear b;go_wp2;clear b2
   go_loopw [7,23] (fun c z wk=>∃(i:Nat) (q:ByteArray),i<=l∧z=.int .i64 (i:Int)∧c=.string q∧q=tx [if oP p d (k:Int) i=true then 61 else 46]∧bD w [(27,#[.int .i64 p.aA,.slice a1 p.aE.length c1,.slice a2 l c2,.slice a3 p.aO.length c3,.int .i64 p.aI]),(40,#[.bool d.ok,.slice o1 Y m1,.slice o2 N m2,.slice o3 l m3])] wk) (fun _ z _=>l-(intOf z).toNat)
   case atStart=>exact⟨0,_,Nat.zero_le _,rfl,rfl,rfl,f.out⟩
   case round=>
    obtain⟨i,q,hi,rfl,rfl,hcb,b⟩:=hrel;rename World=>wk;clear f;by_cases b7:i<l
    ·have C:decide ((i:Int)<(l:Int))=true:=decide_eq_true (by omega);obtain⟨x,E⟩:=eU p.aB (show i<p.aB.length by have:=m.out; omega);obtain⟨h,A⟩:=eU d.aB (show i<d.aB.length by have:=m.out; have:=s.out; omega);have V:0<=h.gone:=(HR.out.2.2.2.2.2.2.1 i (List.getElem?_eq_some_iff.1 A).1 x h E A).1.2.2.1.1;have HL:=aD (D5 (.int .i64 p.aA) (.int .i64 p.aI) (.bool d.ok) (.slice a1 p.aE.length c1) _ (.slice a3 p.aO.length c3) (.slice o1 Y m1) (.slice o2 N m2) _ p.aB d.aB i x h (k:Int) wk (KP.out _ b.below).2.1 (KF.out _ b.below).2.2 E A (by have:=m.out; omega) (by have:=m.out; have:=s.out; omega) (HS.out.2.2.1 x (List.mem_of_getElem? E)).1 V)
     have L:oP p d (k:Int) (i+1)=(oP p d (k:Int) i || iP x h (k:Int)):=by rw[oR]; unfold hasB; rw[E,A]
     have aV:=aD L;have G:=aD hcb;have b0:=b.c 0 0 rfl rfl;have b1:=b.c 0 1 rfl rfl;have b2:=b.c 0 2 rfl rfl;have b3:=b.c 0 3 rfl rfl;have b4:=b.c 0 4 rfl rfl;have q0:=b.c 1 0 rfl rfl;have q1:=b.c 1 1 rfl rfl;have q2:=b.c 1 2 rfl rfl;have q3:=b.c 1 3 rfl rfl;rw[Nat.add_zero] at b0 b1 b2 b3 b4;have f:=aD b;clear b E A V L hcb
     go_wp2_with fail
     refine HL.out.mono ?_;rintro e w3 ⟨rfl,H⟩;have R:=aD (f.out.call H);clear b0 b1 b2 b3 b4 q0 q1 q2 q3 H HL f
     cases hh1:iP x h (k:Int)
     ·have a:Hid (q=tx [if oP p d (k:Int) (i+1)=true then 61 else 46]):=by show q=_; rw[aV.out,hh1,Bool.or_false]; exact G.out
      clear hh1;go_wp2;go_roundw
      case rel=>exact⟨i+1,q,by omega,by go_num,rfl,a.out,R.out⟩
      case measure=>simp[intOf]; omega
     ·have a:Hid (tx [61]=tx [if oP p d (k:Int) (i+1)=true then 61 else 46]):=by show tx [61]=_; rw[aV.out,hh1,Bool.or_true]; rfl
      clear hh1;go_wp2;go_roundw
      case rel=>exact⟨i+1,_,by omega,by go_num,rfl,a.out,R.out⟩
      case measure=>simp[intOf]; omega
    ·have C:decide ((i:Int)<(l:Int))=false:=decide_eq_false (by omega)
     obtain rfl:i=l:=by omega
     obtain⟨o,ho⟩:=eU d.aH (show k<d.aH.length by have:=a0.out; omega);obtain⟨ax,kx,ex,h0 | ⟨bo,oo,rfl,-,aX⟩⟩:=(KF.out _ b.below).1
     ·have:=a0.out; omega
     cases ex
     have co:=aX k (by have:=a0.out; omega) o ho;have q1:=b.c 1 1 rfl rfl
     have M:¬ 9223372036854775807<(tx (eM p d k)).size+q.size:=by rw[hcb,mQ,mQ,pV]; show ¬_<k+1; omega
     have bQ:¬ 9223372036854775807<(tx (eM p d k)).size+1:=by rw[mQ,pV]; omega
     have HO:=aD ho;have G:=aD hcb;have f:=aD b;clear b aX ho hcb
     cases o
     ·have a:Hid (.string (tx (eM p d k)++q)=Value.string (tx (eM p d (k+1)))):=by
       show Value.string (tx (eM p d k)++q)=_;rw[yH,← oO,G.out];unfold nO;rw[List.getD_eq_getElem?_getD,HO.out,m.out];rfl
      go_wp2;go_roundw
      case rel=>exact⟨k+1,by omega,by go_num,a.out,f.out⟩
      case measure=>simp[intOf]; omega
     ·have a:Hid (.string (tx (eM p d k)++⟨#[35]⟩)=Value.string (tx (eM p d (k+1)))):=by
       show Value.string (tx (eM p d k)++tx [35])=_;rw[yH,oO];unfold nO;rw[List.getD_eq_getElem?_getD,HO.out];rfl
      go_wp2;go_roundw
      case rel=>exact⟨k+1,by omega,by go_num,a.out,f.out⟩
      case measure=>simp[intOf]; omega
  ·have b8:decide ((k:Int)<(Y:Int))=false:=decide_eq_false (by omega)
   obtain rfl:k=Y:=by omega
   have q2:=b.c 1 2 rfl rfl
   have M:¬ 9223372036854775807<(tx (eM p d k)).size+1:=by rw[mQ,pV]; omega
   have f:=aD b
   have P:Hid (Value.string (tx (eM p d k)++⟨#[32]⟩)=.string (tx (eM p d k++[32]++jX p d 0))):=by
    show Value.string (tx (eM p d k)++tx [32])=_;rw[oO];show _=Value.string (tx (eM p d k++[32]++[]));rw[List.append_nil]
   clear b;go_wp2;clear q2 M
   go_loopw [5,46] (fun o z wr=>∃g:Nat,g<=N∧z=.int .i64 (g:Int)∧o=.string (tx (eM p d k++[32]++jX p d g))∧bD w [(27,#[.int .i64 p.aA,.slice a1 p.aE.length c1,.slice a2 l c2,.slice a3 p.aO.length c3,.int .i64 p.aI]),(40,#[.bool d.ok,.slice o1 k m1,.slice o2 N m2,.slice o3 l m3])] wr) (fun _ z _=>N-(intOf z).toNat)
   case atStart=>exact⟨0,Nat.zero_le _,rfl,P.out,f.out⟩
   case round=>
    obtain⟨g,bU,rfl,rfl,b⟩:=hrel;rename World=>wq;clear f P
    have bI:(eM p d k++[32]++jX p d g).length<=1000:=by
     rw[List.length_append,List.length_append,pV];have:=vZ p d g;show k+1+_<=_;omega
    obtain⟨y,a7⟩:∃B,B=eM p d k++[32]++jX p d g:=⟨_,rfl⟩;rw[← a7] at bI ⊢;have a6:=aD a7;clear a7;by_cases b7:g<N
    ·have C:decide ((g:Int)<(N:Int))=true:=decide_eq_true (by omega)
     have bL:(g:Int)<(N:Int):=by omega
     obtain⟨⟨F,xl⟩,E⟩:=eU d.aC (show g<d.aC.length by have:=O.out; omega);have a5:=HR.out.2.2.2.2.2.1 g _ E;have c0:(1:Int)<=F:=a5.1.1;obtain⟨r,rfl⟩:∃n:Nat,xl=(n:Int):=⟨xl.toNat,by have h2:(0:Int)<=xl:=a5.2.1; omega⟩
     have c4:r<3:=by have h3:(r:Int)<=2:=a5.2.2; omega
     obtain⟨ax,kx,ex,h0 | ⟨bq,oq,S,-,aY⟩⟩:=(KF.out _ b.below).2.1
     ·have:=O.out; omega
     obtain rfl:o2=some ⟨bq,oq,none⟩:=by cases ex; exact S
     clear ex S;obtain⟨z0,z1⟩:=aY g (by have:=O.out; omega) _ E;simp only at z0 z1;have q2:=b.c 1 2 rfl rfl;have u:=eB wq 46 9 #[.int .i64 F,.int .i64 (r:Int)] #[.string ⟨#[63]⟩,.string ⟨#[60]⟩,.string ⟨#[62]⟩];have y0:=u.c 0 0 rfl rfl;have y1:=u.c 0 1 rfl rfl;rw[Nat.add_zero] at y0 y1
     obtain⟨s0,aJ,K⟩:∃s0:ByteArray,((wq.alloc (.cells #[.int .i64 F,.int .i64 (r:Int)] 46)).alloc (.cells #[.string ⟨#[63]⟩,.string ⟨#[60]⟩,.string ⟨#[62]⟩] 9)).cell? ⟨wq.heap.size+1,r,none⟩=some (.string s0)∧((r:Int)=F->s0=tx [iC (F,(r:Int))]):=by
      obtain rfl | rfl | rfl:r=0∨r=1∨r=2:=by omega
      ·exact⟨_,u.c 1 0 rfl rfl,fun z=>by omega⟩
      ·refine⟨_,u.c 1 1 rfl rfl,fun z=>?_⟩;subst z;rfl
      ·refine⟨_,u.c 1 2 rfl rfl,fun z=>?_⟩;subst z;rfl
     have bR:(r:Int)<3:=by omega
     have aT:=aD K
     have aU:Hid ((r:Int)≠F->tx [63]=tx [iC (F,(r:Int))]):=fun z=>by unfold iC; rw[if_neg z]
     have f:=aD (b.call u.below);have HX:=aD E;obtain⟨wB,bE⟩:∃W,W=(wq.alloc (.cells #[.int .i64 F,.int .i64 (r:Int)] 46)).alloc (.cells #[.string ⟨#[63]⟩,.string ⟨#[60]⟩,.string ⟨#[62]⟩] 9):=⟨_,rfl⟩;have bK:=q2;clear aY E b u K a5
     go_upto_if 60 with fail
     rw[← bE] at f y0 y1 aJ ⊢;clear bE z0 z1 q2 bK aJ
     go_cut [11] (fun v wc=>v=.string (tx [iC (F,(r:Int))])∧wc=wB)
     case first=>
      by_cases hq:(r:Int)=F
      ·have bJ:((r:Int) != F)=false:=by simp[hq]
       have a:=aD (aT.out hq);clear hq;go_wp2;go_meet
       case rel=>exact⟨by rw[a.out],rfl⟩
      ·have bJ:((r:Int) != F)=true:=by simp[hq]
       have a:=aD (aU.out hq);clear hq;go_wp2;go_meet
       case rel=>exact⟨congrArg Value.string a.out,rfl⟩
     case rest=>
      obtain⟨rfl,bF⟩:=hcut;have bG:=bF.symm;subst bG;clear bF y0 y1 aT aU;have b0:=f.out.c 0 0 rfl rfl;have b1:=f.out.c 0 1 rfl rfl;have b2:=f.out.c 0 2 rfl rfl;have b3:=f.out.c 0 3 rfl rfl;have b4:=f.out.c 0 4 rfl rfl;have q0:=f.out.c 1 0 rfl rfl;have q1:=f.out.c 1 1 rfl rfl;have q2:=f.out.c 1 2 rfl rfl;have q3:=f.out.c 1 3 rfl rfl;rw[Nat.add_zero] at b0 b1 b2 b3 b4
      have V:∀(i:Nat) h,d.aB[i]?=some h->0<=h.gone:=fun i h A=>by
       obtain⟨x,E⟩:=eU p.aB (show i<p.aB.length by have:=(List.getElem?_eq_some_iff.1 A).1; have:=s.out; omega);exact (HR.out.2.2.2.2.2.2.1 i (List.getElem?_eq_some_iff.1 A).1 x h E A).1.2.2.1.1
      have aS:=aD (Aw (.int .i64 p.aA) (.int .i64 p.aI) (.bool d.ok) _ _ (.slice a3 p.aO.length c3) (.slice o1 k m1) (.slice (some ⟨bq,oq,none⟩) N m2) _ p d g wB (KP.out _ f.out.below).1 (KP.out _ f.out.below).2.1 (KF.out _ f.out.below).2.2 s.out HS.out V (by have:=O.out; have:=bH.out; omega));obtain⟨q,hcb⟩:∃q,q=tx [iC (F,(r:Int))]:=⟨_,rfl⟩;rw[← hcb];have G:=aD hcb
      have T:q.size=1:=by rw[hcb,mQ]; rfl
      clear V hcb
      go_wp2_with fail
      refine aS.out.mono ?_;clear b0 b1 b2 b3 b4 q0 q1 q2 q3 aS;rintro e w3 ⟨v,rfl,H,mm,X⟩;obtain⟨av,cv,rfl⟩:=zag X;have b9:mm=(gS p d (g:Int)).length:=(oF X).1;have R:=aD (f.out.call H)
      have bA:tM p d g=iC (F,(r:Int)) :: if 0<mm then [33] else []:=by
       unfold tM;rw[List.getD_eq_getElem?_getD,HX.out,b9];rfl
      have aQ:=aD bA
      have M:¬ 9223372036854775807<(tx y).size+q.size:=by rw[T,mQ]; omega
      clear H X b9 bA f;by_cases a4:0<mm
      ·have bZ:decide ((0:Int)<(mm:Int))=true:=decide_eq_true (by omega)
       have bY:(0:Int)<(mm:Int):=by omega
       have c5:¬ 9223372036854775807<q.size+1:=by rw[T]; omega
       have c6:¬ 9223372036854775807<(tx y).size+(q.size+1):=by rw[T,mQ]; omega
       have a:Hid (Value.string (tx y++(q++⟨#[33]⟩))=.string (tx (eM p d k++[32]++jX p d (g+1)))):=by
        show Value.string (tx y++(q++tx [33]))=_;rw[G.out,oO,oO,yI,aQ.out,if_pos a4,a6.out];simp
       clear T a4;go_wp2;go_roundw
       case rel=>exact⟨g+1,by omega,by go_num,a.out,R.out⟩
       case measure=>simp[intOf]; omega
      ·obtain rfl:mm=0:=by omega
       have a:Hid (Value.string (tx y++q)=.string (tx (eM p d k++[32]++jX p d (g+1)))):=by
        show Value.string (tx y++q)=_;rw[G.out,oO,yI,aQ.out,if_neg a4,a6.out];simp
       clear T a4;go_wp2;go_roundw
       case rel=>exact⟨g+1,by omega,by go_num,a.out,R.out⟩
       case measure=>simp[intOf]; omega
    ·have C:decide ((g:Int)<(N:Int))=false:=decide_eq_false (by omega)
     obtain rfl:g=N:=by omega
     have q3:=b.c 1 3 rfl rfl
     have M:¬ 9223372036854775807<(tx y).size+1:=by rw[mQ]; omega
     have f:=aD b
     have P:Hid (Value.string (tx y++⟨#[32]⟩)=.string (tx (y++[32]++lG d 0))):=by
      show Value.string (tx y++tx [32])=_;rw[oO];show _=Value.string (tx (y++[32]++[]));rw[List.append_nil]
     clear b;go_wp2;clear q3 M
     go_loopw [5,78] (fun o z wr=>∃t:Nat,t<=l∧z=.int .i64 (t:Int)∧o=.string (tx (y++[32]++lG d t))∧bD w [(27,#[.int .i64 p.aA,.slice a1 p.aE.length c1,.slice a2 l c2,.slice a3 p.aO.length c3,.int .i64 p.aI]),(40,#[.bool d.ok,.slice o1 k m1,.slice o2 g m2,.slice o3 l m3])] wr) (fun _ z _=>l-(intOf z).toNat)
     case atStart=>exact⟨0,Nat.zero_le _,rfl,P.out,f.out⟩
     case round=>
      obtain⟨t,bV,rfl,rfl,b⟩:=hrel;rename World=>wv;clear f P
      have b6:(y++[32]++lG d t).length<=2000:=by
       rw[List.length_append,List.length_append,Br];show _+1+_<=_;omega
      obtain⟨B3,a8⟩:∃B,B=y++[32]++lG d t:=⟨_,rfl⟩;rw[← a8] at b6 ⊢;have aP:=aD a8;clear a8;by_cases bN:t<l
      ·have a9:decide ((t:Int)<(l:Int))=true:=decide_eq_true (by omega)
       have bM:(t:Int)<(l:Int):=by omega
       obtain⟨h,A⟩:=eU d.aB (show t<d.aB.length by have:=m.out; have:=s.out; omega);obtain⟨x,E⟩:=eU p.aB (show t<p.aB.length by have:=m.out; omega);have L:=(HR.out.2.2.2.2.2.2.1 t (List.getElem?_eq_some_iff.1 A).1 x h E A).1.1;obtain⟨ax,kx,ex,h0 | ⟨bw,ow,S,-,b5⟩⟩:=(KF.out _ b.below).2.2
       ·have:=m.out; have:=s.out; omega
       obtain rfl:o3=some ⟨bw,ow,none⟩:=by cases ex; exact S
       clear ex S;obtain⟨vb,bC,z0,z1,z2,z3,z4⟩:=b5 t (by have:=m.out; have:=s.out; omega) h A;obtain⟨ab,kb,rfl⟩:=bC.size;have q3:=b.c 1 3 rfl rfl;obtain⟨Z,aM⟩:∃n:Nat,h.state=(n:Int):=⟨h.state.toNat,by have h2:(0:Int)<=h.state:=L.1; omega⟩
       have bO:Z<5:=by have h3:h.state<=(4:Int):=L.2; omega
       rw[aM] at z0;have u:=eB wv 44 9 #[.int .i64 (Z:Int),.int .i64 h.gone,.slice ab h.aL.length kb,.bool h.aR,.int .i64 h.aN] #[.string ⟨#[45]⟩,.string ⟨#[115]⟩,.string ⟨#[67]⟩,.string ⟨#[116]⟩,.string ⟨#[117]⟩];have y0:=u.c 0 0 rfl rfl;rw[Nat.add_zero] at y0
       obtain⟨s0,aJ,K⟩:∃s0:ByteArray,((wv.alloc (.cells #[.int .i64 (Z:Int),.int .i64 h.gone,.slice ab h.aL.length kb,.bool h.aR,.int .i64 h.aN] 44)).alloc (.cells #[.string ⟨#[45]⟩,.string ⟨#[115]⟩,.string ⟨#[67]⟩,.string ⟨#[116]⟩,.string ⟨#[117]⟩] 9)).cell? ⟨wv.heap.size+1,Z,none⟩=some (.string s0)∧s0=tx [nT (Z:Int)]:=by
        obtain rfl | rfl | rfl | rfl | rfl:Z=0∨Z=1∨Z=2∨Z=3∨Z=4:=by omega
        ·exact⟨_,u.c 1 0 rfl rfl,rfl⟩
        ·exact⟨_,u.c 1 1 rfl rfl,rfl⟩
        ·exact⟨_,u.c 1 2 rfl rfl,rfl⟩
        ·exact⟨_,u.c 1 3 rfl rfl,rfl⟩
        ·exact⟨_,u.c 1 4 rfl rfl,rfl⟩
       have bP:(Z:Int)<5:=by omega
       have M:¬ 9223372036854775807<(tx B3).size+s0.size:=by rw[K,mQ,mQ]; show ¬_<_+1; omega
       have a:Hid (Value.string (tx B3++s0)=.string (tx (y++[32]++lG d (t+1)))):=by
        show Value.string (tx B3++s0)=_;rw[K,oO,Ex,A,← List.append_assoc,← aP.out];show _=Value.string (tx (B3++[nT h.state]));rw[aM]
       have f:=aD (b.call u.below);clear b5 bC b u K L A E aM;go_wp2;go_roundw
       case rel=>exact⟨t+1,by omega,by go_num,a.out,f.out⟩
       case measure=>simp[intOf]; omega
      ·have a9:decide ((t:Int)<(l:Int))=false:=decide_eq_false (by omega)
       obtain rfl:t=l:=by omega
       have a:Hid (B3=lF p d):=by
        show B3=_;unfold lF;rw[aP.out,a6.out,a0.out,O.out,s.out,m.out]
       have f:=aD b.below;clear b;go_wp2;go_ret;exact⟨AA a.out,f.out⟩
end Go.Proofs.YtdhinkgjiapigaaGreatDoor

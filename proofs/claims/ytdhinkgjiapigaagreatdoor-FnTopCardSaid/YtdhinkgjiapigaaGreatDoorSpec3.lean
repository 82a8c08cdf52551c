import Derived.Test.YtdhinkgjiapigaaGreatDoorSpA
import Derived.Test.YtdhinkgjiapigaaGreatDoorToA
namespace Go.Proofs.YtdhinkgjiapigaaGreatDoor
open Classical Go.Deep Go.RowKit
set_option maxHeartbeats 2000000 in
theorem IQ (n:Int) (hd v1 v2 v3 u0 u1 u2 u3 u4:Value) (f:List Int) (d:aT) (w:World) (aC:Ints (In w) w v1 f) (hw:cC (In w) w u0 u1 u2 u3 u4 d)
  (h1:1<=n) (D:n<=60) (hm:f.length<=40) (hs:d.Small 1048576) :
  Calls Tryz.prog 76 #[.agg #[.int .i64 n,v1,v2,v3,hd],.agg #[u0,u1,u2,u3,u4]] w fun e w'=>e=.returned (.bool (B (dG n f d)))∧Below w.heap.size w w':=by
 have r:=lL.start w 27 51 (.int .i64 n) v1 v2 v3 hd u0 u1 u2 u3 u4;have hk:∀W,lL w 27 51 (dE (.int .i64 n) v1 v2 v3 hd) (dE u0 u1 u2 u3 u4) W->cC (In W) W u0 u1 u2 u3 u4 d∧Ints (In W) W v1 f:=fun W h=>⟨hw.keep (In.keep h.below).1 (In.keep h.below).2,aC.keep (In.keep h.below).1 (In.keep h.below).2⟩;have u:=aD hk;clear hk;obtain⟨av,cv,rfl,m⟩:=aC;obtain⟨⟨a0,c0,rfl,aH⟩,⟨a1,c1,rfl,a5⟩,⟨a2,c2,rfl,a6⟩,⟨a3,c3,rfl,aI⟩,⟨a4,c4,rfl,aK⟩⟩:=hw;obtain⟨s0,s1,s2,s3,s4⟩:=hs;have HV:=aD m;have H1:=aD a5;have H2:=aD a6;clear m aH a5 a6 aI aK;go_enter Tryz.func76,Tryz.ntmps76;by_cases c:d.aA.length=0
 ·have aL:((d.aA.length:Int) == 0)=true:=by simpa using c
  have Hz:=aD c;clear c;go_wp2;go_ret;exact⟨bI (bE fun h=>h.1 (List.length_eq_zero_iff.1 Hz.out)).symm,r.below⟩
 have aL:((d.aA.length:Int) == 0)=false:=by simpa using c
 have Hz:=aD c;clear c
 go_wp2_with fail
 refine (Ar _ d.aA n _ (u.out _ r).1.1 s0 h1 D).mono ?_;rintro e w' ⟨rfl,rfl⟩;by_cases a:bJ n d.aA
 case neg=>
  rw[bE a];go_wp2;go_ret;exact⟨bI (bE fun h=>a h.2.1).symm,r.below⟩
 rw[bQ a];have Q0:=aD a;clear a
 go_wp2_with fail
 refine (Ar _ d.over n _ (u.out _ r).1.2.2.2.1 s3 h1 D).mono ?_;rintro e w' ⟨rfl,rfl⟩;by_cases a:bJ n d.over
 case neg=>
  rw[bE a];go_wp2;go_ret;exact⟨bI (bE fun h=>a h.2.2.1).symm,r.below⟩
 rw[bQ a];have Q1:=aD a;clear a
 go_wp2_with fail
 refine (Ar _ d.aW n _ (u.out _ r).1.2.2.2.2 s4 h1 D).mono ?_;rintro e w' ⟨rfl,rfl⟩;by_cases a:bJ n d.aW
 case neg=>
  rw[bE a];go_wp2;go_ret;exact⟨bI (bE fun h=>a h.2.2.2.1).symm,r.below⟩
 rw[bQ a];have Q2:=aD a;clear a
 go_wp2_with fail
 refine (Cj _ _ _ _ _ _ av f.length cv d.aQ _ rfl (u.out _ r).1.2.1 s1 (by omega)).mono ?_;rintro e w1 ⟨rfl,Y⟩;have U:=r.call Y;clear r Y;obtain⟨⟨J,K,L,M,N⟩,⟨O,P,Q,R,S⟩⟩:=U.cells;by_cases a:dJ f.length d.aQ
 case neg=>
  rw[bE a];go_wp2;go_ret;exact⟨bI (bE fun h=>a h.2.2.2.2.1).symm,U.below⟩
 rw[bQ a];have Q3:=aD a;clear a
 go_wp2_with fail
 refine (Cj _ _ _ _ _ _ av f.length cv d.aJ _ rfl (u.out _ U).1.2.2.1 s2 (by omega)).mono ?_;clear J K L M N O P Q R S;rintro e w2 ⟨rfl,Y⟩;have T2:=U.call Y;clear U Y;obtain⟨⟨J,K,L,M,N⟩,⟨O,P,Q,R,S⟩⟩:=T2.cells;by_cases a:dJ f.length d.aJ
 case neg=>
  rw[bE a];go_wp2;go_ret;exact⟨bI (bE fun h=>a h.2.2.2.2.2.1).symm,T2.below⟩
 rw[bQ a];have Q4:=aD a;clear a;go_wp2;clear J K L M N O P Q R S
 go_loopw [54] (fun i wr=>∃(k:Nat),k<=d.aQ.length∧i=.int .i64 k∧(∀j x,j<k->d.aQ[j]?=some x->zV f d x)∧lL w 27 51 (dE (.int .i64 n) (.slice av f.length cv) v2 v3 hd) (dE (.slice a0 d.aA.length c0) (.slice a1 d.aQ.length c1) (.slice a2 d.aJ.length c2) (.slice a3 d.over.length c3) (.slice a4 d.aW.length c4)) wr) (fun i _=>d.aQ.length-(intOf i).toNat)
 case atStart=>exact⟨0,Nat.zero_le _,rfl,fun j _ hj=>by omega,T2⟩
 case round=>
  obtain⟨k,hk,rfl,a9,C⟩:=hrel;rename World=>wo;have HO:=aD a9;clear a9;obtain⟨⟨J,K,L,M,N⟩,⟨O,P,Q,R,S⟩⟩:=C.cells;by_cases E:k<d.aQ.length
  ·obtain h0 | ⟨b,off,rfl,aE,Z⟩:=H1.out
   ·omega
   obtain⟨x,hx⟩:=bG d.aQ (aD rfl) E;obtain⟨g0,g1⟩:=Z k E x hx;rw[← C.below.cell (p:=⟨b,_,none⟩) aE] at g0 g1;have Hx:=aD hx;clear hx Z;have aX:=C.two.lt
   have aM:w.heap.size<wo.heap.size:=by omega
   go_wp2;clear J K L M N O P Q R S
   go_loopw [61] (fun i wr=>∃(q:Nat),q<=d.aJ.length∧i=.int .i64 q∧(∀j y,j<q->d.aJ[j]?=some y->x.1≠y.1)∧lL w 27 51 (dE (.int .i64 n) (.slice av f.length cv) v2 v3 hd) (dE (.slice a0 d.aA.length c0) (.slice (some ⟨b,off,none⟩) d.aQ.length c1) (.slice a2 d.aJ.length c2) (.slice a3 d.over.length c3) (.slice a4 d.aW.length c4)) wr∧wr.cell? ⟨wo.heap.size,0,none⟩=some (.int .i64 x.1)) (fun i _=>d.aJ.length-(intOf i).toNat)
   case atStart=>exact⟨0,Nat.zero_le _,rfl,fun j _ hj=>by omega,C.call (bC _ _),by simp⟩
   case round=>
    obtain⟨q,hq,rfl,a8,I,H⟩:=hrel;have HN:=aD a8;clear a8 g0 g1;obtain⟨⟨J,K,L,M,N⟩,⟨O,P,Q,R,S⟩⟩:=I.cells;by_cases aB:q<d.aJ.length
    ·obtain h0 | ⟨bf,aN,rfl,aF,Z⟩:=H2.out
     ·omega
     obtain⟨y,hy⟩:=bG d.aJ (aD rfl) aB;obtain⟨g0,g1⟩:=Z q aB y hy;rw[← I.below.cell (p:=⟨bf,_,none⟩) aF] at g0 g1;have Hy:=aD hy;have T5:=I.call (bC _ (.cells #[.int .i64 y.1,.int .i64 y.2] 58));have v:=Az (o:=.cells #[.int .i64 y.1,.int .i64 y.2] 58) H;clear hy Z;by_cases he:x.1=y.1
     ·rw[he] at H v;go_wp2;go_ret;refine⟨bI (bE fun h=>?_).symm,T5.below⟩;exact (h.2.2.2.2.2.2.1 x (List.mem_of_getElem? Hx.out)).1 y (List.mem_of_getElem? Hy.out) he
     ·have aP:(x.1 == y.1)=false:=by simpa using he
      have He:=aD he;clear he;go_wp2;go_roundw
      case rel=>exact⟨q+1,by omega,by go_num,fun j z hj c=>by
       by_cases e:j=q
       ·subst e; rw[Hy.out] at c; cases c; exact He.out
       ·exact HN.out j z (by omega) c,T5,v⟩
      case measure=>simp[intOf]; omega
    ·have a7:=(Q3.out.1 k E x Hx.out).1.1;obtain⟨aY,aZ⟩:=a7;obtain⟨l,F⟩:∃l,f[x.1.toNat]?=some l:=⟨f[x.1.toNat]'(by omega),List.getElem?_eq_getElem _⟩;obtain h0 | ⟨bv,aO,rfl,aG,m⟩:=HV.out
     ·omega
     have gv:=m x.1.toNat (by omega) l F;rw[← I.below.cell (p:=⟨bv,_,none⟩) aG] at gv
     have b5:x.1<(f.length:Int):=by omega
     have T:=aD F;clear m F;have aR:=I.two.lt
     have aS:w.heap.size<wr.heap.size:=by omega
     have aU:wo.heap.size<wr.heap.size:=World.block_lt_of_cell? _ _ H;have aV:bv<wr.heap.size:=World.block_lt_of_cell? _ _ gv;have T6:lL w 27 51 _ _ ((wr.alloc (.cells #[.int .i64 l] 3)).drew):=(I.call (bC _ (.cells #[.int .i64 l] 3))).call (cT _)
     have hq:Calls Tryz.prog 77 #[.slice (some ⟨wr.heap.size,0,none⟩) 1 1,.slice a0 d.aA.length c0] (wr.alloc (.cells #[.int .i64 l] 3)).drew fun e w'=>e=.returned (.bool (B (Meet [l] d.aA)))∧w'=(wr.alloc (.cells #[.int .i64 l] 3)).drew:=by
      refine tH _ _ [l] d.aA _ ⟨_,_,rfl,.inr ⟨wr.heap.size,0,rfl,?_,?_⟩⟩ (u.out _ T6).1.1 (by simp) s0
      ·show wr.heap.size<_; simp
      ·intro i hi z c
       obtain rfl:i=0:=by simp at hi; omega
       cases c
       simp
     have HQ:=aD hq;clear hq;have V:=aD T6;clear T6;by_cases g:Meet [l] d.aA
     ·rw[bQ g] at HQ;have A:=aD g;clear g;go_wp2
      go_region_with (go_at_call 77; refine HQ.out.mono ?_; rintro e w1 ⟨rfl,rfl⟩)
      all_goals
       go_wp2;go_roundw
       case rel=>exact⟨k+1,by omega,by go_num,fun j z hj c=>by
        by_cases e:j=k
        ·subst e; rw[Hx.out] at c; cases c;obtain⟨t,ht,G⟩:=A.out;refine⟨fun y hy=>?_,l,T.out,by simp at ht; exact ht ▸ G⟩;obtain⟨i,hi⟩:=List.getElem?_of_mem hy;exact HN.out i y (by have:=(List.getElem?_eq_some_iff.1 hi).1; omega) hi
        ·exact HO.out j z (by omega) c,V.out⟩
       case measure=>simp[intOf]; omega
     ·rw[bE g] at HQ;have A:=aD g;clear g;go_wp2
      go_region_with (go_at_call 77; refine HQ.out.mono ?_; rintro e w1 ⟨rfl,rfl⟩)
      all_goals
       go_wp2;go_ret;refine⟨bI (bE fun h=>?_).symm,V.out.below⟩;obtain⟨t,ht,G⟩:=(h.2.2.2.2.2.2.1 x (List.mem_of_getElem? Hx.out)).2;rw[T.out] at ht;exact A.out ⟨l,by simp,by cases ht; exact G⟩
  ·go_wp2_with fail
   refine (tH _ _ d.over d.aA _ (u.out _ C).1.2.2.2.1 (u.out _ C).1.1 s3 s0).mono ?_;rintro e w' ⟨rfl,rfl⟩;go_wp2;go_ret;refine⟨bI ?_,C.below⟩;by_cases s:Meet d.over d.aA
   ·rw[bQ s,bE fun h=>h.2.2.2.2.2.2.2 s]; rfl
   ·have X:∀x∈d.aQ,zV f d x:=fun x hx=>by
     obtain⟨i,hi⟩:=List.getElem?_of_mem hx;exact HO.out i x (by have:=(List.getElem?_eq_some_iff.1 hi).1; omega) hi
    rw[bE s,bQ ⟨fun h=>Hz.out (by rw[h]; rfl),Q0.out,Q1.out,Q2.out,Q3.out,Q4.out,X,s⟩]; rfl
structure Bp (w:World) (t tr:TypeId) (f:Nat->Value) (W:World):Prop where
 below:Below w.heap.size w W
 one:W.rowIs w.heap.size t 5 f
 res:∃g,W.rowIs (w.heap.size+1) tr 2 g
theorem fC (w:World) (m:Nat):Below w.heap.size w (w.drewN m):=below_drewN (Below.refl _ _) m
theorem Bp.call {w:World}{t b:TypeId}{f:Nat->Value}{W W':World}(h:Bp w t b f W) (a:Below W.heap.size W W'):Bp w t b f W':=
 ⟨h.below.trans (a.mono h.below.size),eV h.one a,h.res.imp fun _ k=>eV k a⟩
theorem Bp.start (w:World) (t f:TypeId) (a b c d e g h:Value):Bp w t f (dE a b c d e) ((w.alloc (.cells #[a,b,c,d,e] t)).alloc (.cells #[g,h] f)):=by
 refine⟨(((Below.refl _ _).alloc (Nat.le_refl _) _).alloc (by simp) _),(dH _ _ _).alloc _,?_⟩;have:=dH (w.alloc (.cells #[a,b,c,d,e] t)) f #[g,h];rw[show (w.alloc (.cells #[a,b,c,d,e] t)).heap.size=w.heap.size+1 by simp] at this;exact⟨_,this⟩
theorem Bp.cells {w:World}{t f:TypeId}{a b c d e:Value}{W:World}(h:Bp w t f (dE a b c d e) W) :
  W.cell? ⟨w.heap.size,0,none⟩=some a∧W.cell? ⟨w.heap.size,1,none⟩=some b∧W.cell? ⟨w.heap.size,2,none⟩=some c∧W.cell? ⟨w.heap.size,3,none⟩=some d∧W.cell? ⟨w.heap.size,4,none⟩=some e:=
 jD.cells ⟨h.below,h.one⟩
theorem Bp.slot {w:World}{t b:TypeId}{f:Nat->Value}{W:World}(h:Bp w t b f W) :
  ∃x y,W.cell? ⟨w.heap.size+1,0,none⟩=some x∧W.cell? ⟨w.heap.size+1,1,none⟩=some y∧W.frozen? ⟨w.heap.size+1,0,none⟩=false∧W.frozen? ⟨w.heap.size+1,1,none⟩=false:=by
 obtain⟨g,a⟩:=h.res;exact⟨_,_,a.cell (i:=0) (by omega),a.cell (i:=1) (by omega),a.frozen 0,a.frozen 1⟩
theorem Bp.ret {w:World}{t a:TypeId}{f:Nat->Value}{W:World}(h:Bp w t a f W) (x y:Value):Below w.heap.size w ((W.setCell ⟨w.heap.size+1,0,none⟩ x).setCell ⟨w.heap.size+1,1,none⟩ y):=
 (h.below.setCell (by show w.heap.size<=w.heap.size+1; omega) _).setCell (by show w.heap.size<=w.heap.size+1; omega) _
set_option maxRecDepth 100000 in
set_option maxHeartbeats 4000000 in
theorem FN (v1 v2 v3:Value) (d:aK) (w:World) (G:aZ (In w) w v1 v2 v3 d) (hs:d.Small 1048576) :
  Calls Tryz.prog 33 #[.agg #[.int .i64 d.aA,v1,v2,v3,.int .i64 d.aI]] w fun e w'=>∃c a,e=.returned (.agg #[.int .i64 c,.int .i64 a])∧bR (rS d) d c a∧Below w.heap.size w w':=by
 have T0:=Bp.start w 27 68 (.int .i64 d.aA) v1 v2 v3 (.int .i64 d.aI) (.int .i64 0) (.int .i64 0);have hk:∀W,Bp w 27 68 (dE (.int .i64 d.aA) v1 v2 v3 (.int .i64 d.aI)) W->aZ (In W) W v1 v2 v3 d:=fun W h=>G.keep (In.keep h.below).1 (In.keep h.below).2;have HK:=aD hk;obtain⟨bT,bU,aV,bV,aW⟩:=hs;have a8:=aD aV;have bO:=aD aW;obtain⟨⟨a1,c1,rfl,aF⟩,⟨a2,c2,rfl,aG⟩,⟨a3,c3,rfl,aH⟩⟩:=G;have H1:=aD aF;have H2:=aD aG;have H3:=aD aH;clear aF aG aH hk aV aW;go_enter Tryz.func33,Tryz.ntmps33
 go_wp2_with fail
 refine (mG d.aA 1 60 _).mono ?_;rintro e w' ⟨rfl,rfl⟩;by_cases q0:bN d.aA 1 60
 case neg=>
  rw[bE q0];go_wp2;exact bodyPost_ret (v:=.agg #[.int .i64 1,.int .i64 0]) (by simp[results,Tryz.results33,go_sem]) rfl ⟨1,0,rfl,xW fun h=>q0 h.1,(((Below.refl _ _).alloc (Nat.le_refl _) _).alloc (by simp) _)⟩
 rw[bQ q0];have Q0:=aD q0;by_cases q1:d.aE.length<=40
 case neg=>
  go_wp2;exact bodyPost_ret (v:=.agg #[.int .i64 1,.int .i64 0]) (by simp[results,Tryz.results33,go_sem]) rfl ⟨1,0,rfl,xW fun h=>q1 h.2.1,(((Below.refl _ _).alloc (Nat.le_refl _) _).alloc (by simp) _)⟩
 by_cases q2:d.aB.length<=100
 case neg=>
  go_wp2;exact bodyPost_ret (v:=.agg #[.int .i64 1,.int .i64 0]) (by simp[results,Tryz.results33,go_sem]) rfl ⟨1,0,rfl,xW fun h=>q2 h.2.2.1,(((Below.refl _ _).alloc (Nat.le_refl _) _).alloc (by simp) _)⟩
 go_wp2_with fail
 refine (mG d.aI 1 300 _).mono ?_;rintro e w' ⟨rfl,rfl⟩;by_cases q3:bN d.aI 1 300
 case neg=>
  rw[bE q3];go_wp2;exact bodyPost_ret (v:=.agg #[.int .i64 1,.int .i64 0]) (by simp[results,Tryz.results33,go_sem]) rfl ⟨1,0,rfl,xW fun h=>q3 h.2.2.2,(((Below.refl _ _).alloc (Nat.le_refl _) _).alloc (by simp) _)⟩
 rw[bQ q3];have J:Hid (¬pJ d):=fun h=>h ⟨q0,q1,q2,q3⟩;obtain⟨n1,bM⟩:=q0;clear q3 Q0;go_wp2
 go_loopw [39] (fun i wr=>∃(k:Nat),k<=d.aE.length∧i=.int .i64 k∧(∀j,j<k->¬mN d j)∧Bp w 27 68 (dE (.int .i64 d.aA) (.slice a1 d.aE.length c1) (.slice a2 d.aB.length c2) (.slice a3 d.aO.length c3) (.int .i64 d.aI)) wr) (fun i _=>d.aE.length-(intOf i).toNat)
 case atStart=>exact⟨0,Nat.zero_le _,rfl,fun j hj=>by omega,T0⟩
 case round=>
  obtain⟨k,hk,rfl,g,T1⟩:=hrel;rename World=>wa;have m:=aD g;clear g T0;obtain⟨L,M,H,b3,N⟩:=T1.cells;obtain⟨r0,r1,n,r,O,f1⟩:=T1.slot;by_cases aS:k<d.aE.length
  ·obtain h0 | ⟨b,off,rfl,u,F⟩:=H1.out
   ·omega
   obtain⟨x,A⟩:=bG d.aE (aD rfl) aS;have R:=F k aS x A;rw[← T1.below.cell (p:=⟨b,_,none⟩) u] at R;have Z:=aD A;clear A F
   go_wp2_with fail
   refine (mG x 0 (d.aA-1) _).mono ?_;rintro e w' ⟨rfl,rfl⟩;by_cases f:bN x 0 (d.aA-1)
   ·rw[bQ f];have l:=aD f;clear f;go_wp2;go_roundw
    case rel=>exact⟨k+1,by omega,by go_num,pP m.out fun h=>(zH Z.out).1 h l.out,T1⟩
    case measure=>simp[intOf]; omega
   ·rw[bE f];have l:=aD f;clear f;go_wp2;exact bodyPost_ret (v:=.agg #[.int .i64 2,.int .i64 k]) (by simp[results,Tryz.results33,go_sem,n,r]) rfl ⟨2,k,rfl,ES J.out ⟨(zH Z.out).2 l.out,m.out⟩,T1.ret _ _⟩
  ·have Q:Hid (∀k,¬mN d k):=CG m.out (by omega);clear m;go_wp2;clear L M H b3 N n r O f1
   go_loopw [56] (fun i wr=>∃(k:Nat),k<=d.aB.length∧i=.int .i64 k∧(∀j,j<k->¬mX d j)∧Bp w 27 68 (dE (.int .i64 d.aA) (.slice a1 d.aE.length c1) (.slice a2 d.aB.length c2) (.slice a3 d.aO.length c3) (.int .i64 d.aI)) wr) (fun i _=>d.aB.length-(intOf i).toNat)
   case atStart=>exact⟨0,Nat.zero_le _,rfl,fun j hj=>by omega,T1⟩
   case round=>
    obtain⟨k2,bP,rfl,g,T2⟩:=hrel;rename World=>wb;have m:=aD g;clear g T1;obtain⟨L,M,H,b3,N⟩:=T2.cells;obtain⟨r0,r1,n,r,O,f1⟩:=T2.slot;by_cases a0:k2<d.aB.length
    ·obtain h0 | ⟨b,off,rfl,u,F⟩:=H2.out
     ·omega
     obtain⟨x,A⟩:=bG d.aB (aD rfl) a0;obtain⟨u0,u1,u2,u3,u4,hw,R,g1,g2,g3,g4⟩:=F k2 a0 x A;rw[← T2.below.cell (p:=⟨b,_,none⟩) u] at R g1 g2 g3 g4;have aX:=a8.out x (List.mem_of_getElem? A);have Z:=aD A;have aY:=World.block_lt_of_cell? _ _ n;simp only at aY
     have b5:w.heap.size<wb.heap.size:=by omega
     have D:=T2.call (bC _ (.cells #[u0,u1,u2,u3,u4] 51));have hq:=IQ d.aA (.int .i64 d.aI) (.slice a1 d.aE.length c1) (.slice (some ⟨b,off,none⟩) d.aB.length c2) (.slice a3 d.aO.length c3) u0 u1 u2 u3 u4 d.aE x _ (HK.out _ D).1 (hw.keep (In.keep D.below).1 (In.keep D.below).2) n1 bM q1 aX;have HQ:=aD hq;obtain⟨⟨p0,o0,rfl,-⟩,⟨p1,o1,rfl,-⟩,⟨p2,o2,rfl,-⟩,⟨p3,o3,rfl,-⟩,⟨p4,o4,rfl,-⟩⟩:=hw;clear A F hq aX
     go_wp2_with fail
     refine HQ.out.mono ?_;rintro e w3 ⟨rfl,aC⟩;have K:=D.call aC;clear T2 D L M H b3 N n r O f1 R g1 g2 g3 g4 HQ aC aY b5;obtain⟨r0,r1,n,r,O,f1⟩:=K.slot;by_cases f:dG d.aA d.aE x
     ·rw[bQ f];have l:=aD f;clear f;go_wp2;go_roundw
      case rel=>exact⟨k2+1,by omega,by go_num,pP m.out fun h=>(xP Z.out).1 h l.out,K⟩
      case measure=>simp[intOf]; omega
     ·rw[bE f];have l:=aD f;clear f;go_wp2;exact bodyPost_ret (v:=.agg #[.int .i64 3,.int .i64 k2]) (by simp[results,Tryz.results33,go_sem,n,r]) rfl ⟨3,k2,rfl,ET J.out Q.out ⟨(xP Z.out).2 l.out,m.out⟩,K.ret _ _⟩
    ·have N3:Hid (∀k,¬mX d k):=CH m.out (by omega);clear m;by_cases C:d.aO.length=d.aB.length
     case neg=>
      have bI:((d.aO.length:Int) != (d.aB.length:Int))=true:=by simp; omega
      have t:=aD C;clear C;go_wp2;exact bodyPost_ret (v:=.agg #[.int .i64 4,.int .i64 0]) (by simp[results,Tryz.results33,go_sem,n,r]) rfl ⟨4,0,rfl,Dp J.out Q.out N3.out t.out,T2.ret _ _⟩
     have bI:((d.aO.length:Int) != (d.aB.length:Int))=false:=by simp; omega
     have t:=aD C;clear C;go_wp2;clear L M H b3 N n r O f1
     go_loopw [79] (fun i wr=>∃(k:Nat),k<=d.aO.length∧i=.int .i64 k∧(∀j,j<k->¬oM d j)∧Bp w 27 68 (dE (.int .i64 d.aA) (.slice a1 d.aE.length c1) (.slice a2 d.aB.length c2) (.slice a3 d.aO.length c3) (.int .i64 d.aI)) wr) (fun i _=>d.aO.length-(intOf i).toNat)
     case atStart=>exact⟨0,Nat.zero_le _,rfl,fun j hj=>by omega,T2⟩
     case round=>
      obtain⟨k3,bS,rfl,g,D⟩:=hrel;rename World=>wc;have m:=aD g;clear g T2;obtain⟨L,M,H,b3,N⟩:=D.cells;obtain⟨r0,r1,n,r,O,f1⟩:=D.slot;by_cases a4:k3<d.aO.length
      ·obtain h0 | ⟨b,off,rfl,u,F⟩:=H3.out
       ·omega
       obtain⟨x,A⟩:=bG d.aO (aD rfl) a4;obtain⟨u0,⟨p0,o0,rfl,-⟩,R⟩:=F k3 a4 x A;rw[← D.below.cell (p:=⟨b,_,none⟩) u] at R;have Z:=aD A;clear A F;by_cases f:x.length=d.aB.length
       ·have aP:((x.length:Int) != (d.aB.length:Int))=false:=by simp; omega
        have l:=aD f;clear f;go_wp2;go_roundw
        case rel=>exact⟨k3+1,by omega,by go_num,pP m.out fun h=>(vQ Z.out).1 h l.out,D⟩
        case measure=>simp[intOf]; omega
       ·have aP:((x.length:Int) != (d.aB.length:Int))=true:=by simp; omega
        have l:=aD f;clear f;go_wp2;exact bodyPost_ret (v:=.agg #[.int .i64 4,.int .i64 k3]) (by simp[results,Tryz.results33,go_sem,n,r]) rfl ⟨4,k3,rfl,Dq J.out Q.out N3.out t.out ⟨(vQ Z.out).2 l.out,m.out⟩,D.ret _ _⟩
      ·have N4:Hid (∀k,¬oM d k):=CI m.out (by omega);clear m;go_wp2;clear L M H b3 N n r O f1
       go_loopw [96] (fun i wr=>∃(k:Nat),k<=d.aO.length∧i=.int .i64 k∧(∀j,j<k->¬rS d j)∧Bp w 27 68 (dE (.int .i64 d.aA) (.slice a1 d.aE.length c1) (.slice a2 d.aB.length c2) (.slice a3 d.aO.length c3) (.int .i64 d.aI)) wr) (fun i _=>d.aO.length-(intOf i).toNat)
       case atStart=>exact⟨0,Nat.zero_le _,rfl,fun j hj=>by omega,D⟩
       case round=>
        obtain⟨i,hi,rfl,g,K⟩:=hrel;rename World=>wd;have m:=aD g;clear g D;obtain⟨L,M,H,b3,N⟩:=K.cells;obtain⟨r0,r1,n,r,O,f1⟩:=K.slot;by_cases a5:i<d.aO.length
        ·obtain h0 | ⟨b,off,rfl,u,F⟩:=H3.out
         ·omega
         obtain h0 | ⟨H,b8,rfl,bD,aM⟩:=H2.out
         ·exact absurd t.out (by omega)
         have aT:i<d.aB.length:=by have:=t.out; omega
         obtain⟨ri,T⟩:=bG d.aO (aD rfl) a5;obtain⟨u0,bL,R⟩:=F i a5 ri T;have a7:ri.length=d.aB.length:=Classical.byContradiction fun h=>N4.out i ⟨ri,T,h⟩;obtain⟨p0,o0,rfl,bJ⟩:=bL;obtain h0 | ⟨bi,oi,rfl,bF,aJ⟩:=bJ
         ·omega
         rw[← K.below.cell (p:=⟨b,_,none⟩) u] at R;have bB:=aD T;have Y:=aD a7;have bA:=aD aJ;have b9:=aD F;have a9:=aD aM;clear T a7 aJ F aM;go_wp2;clear L M H b3 N n r O f1 R
         go_loopw [103] (fun z wr=>∃(k:Nat),k<=ri.length∧z=.int .i64 k∧(∀j,j<k->¬Pair d i j)∧Bp w 27 68 (dE (.int .i64 d.aA) (.slice a1 d.aE.length c1) (.slice (some ⟨H,b8,none⟩) d.aB.length c2) (.slice (some ⟨b,off,none⟩) d.aO.length c3) (.int .i64 d.aI)) wr) (fun z _=>ri.length-(intOf z).toNat)
         case atStart=>exact⟨0,Nat.zero_le _,rfl,fun j hj=>by omega,K⟩
         case round=>
          obtain⟨k,hk,rfl,g,o⟩:=hrel;have HN:=aD g;clear g K;by_cases a6:k<ri.length
          ·obtain⟨L,M,bw,bb,N⟩:=o.cells;obtain⟨r0,r1,n,r,O,f1⟩:=o.slot
           have aR:k<d.aB.length:=by have:=Y.out; omega
           have aQ:k<d.aO.length:=by have:=t.out; omega
           obtain⟨x,A⟩:=bG ri (aD rfl) a6;obtain⟨rk,U⟩:=bG d.aO (aD rfl) aQ;have aU:rk.length=d.aB.length:=Classical.byContradiction fun h=>N4.out k ⟨rk,U,h⟩;obtain⟨u1,⟨p1,o1,rfl,bK⟩,g1⟩:=b9.out k aQ rk U;obtain h0 | ⟨bk,ok,rfl,bH,aL⟩:=bK
           ·omega
           obtain⟨y,hy⟩:=bG rk (aD rfl) (show i<rk.length by omega);obtain⟨vi,V⟩:=bG d.aB (aD rfl) aT;obtain⟨vk,X⟩:=bG d.aB (aD rfl) aR;obtain⟨s0,_,_,_,_,b6,g2,-,-,-,-⟩:=a9.out i aT vi V;obtain⟨s1,_,_,_,_,b7,g3,-,-,-,-⟩:=a9.out k aR vk X;have gx:=bA.out k a6 x A;have gy:=aL i (by omega) y hy;rw[← o.below.cell (p:=⟨b,_,none⟩) u] at g1;rw[← o.below.cell (p:=⟨bi,_,none⟩) bF] at gx;rw[← o.below.cell (p:=⟨bk,_,none⟩) bH] at gy;rw[← o.below.cell (p:=⟨H,_,none⟩) bD] at g2 g3;have I:=Dd (vW bB.out A) (vW U hy) V X;have s:=aD I
           have hq:∀j,Calls Tryz.prog 77 #[s0,s1] (wr.drewN j) fun e w'=>e=.returned (.bool (B (Meet vi.aA vk.aA)))∧w'=wr.drewN j:=fun j=>
            tH s0 s1 vi.aA vk.aA (wr.drewN j) (b6.1.keep (In.keep (o.call (fC _ j)).below).1 (In.keep (o.call (fC _ j)).below).2) (b7.1.keep (In.keep (o.call (fC _ j)).below).1 (In.keep (o.call (fC _ j)).below).2) (a8.out vi (List.mem_of_getElem? V)).1 (a8.out vk (List.mem_of_getElem? X)).1
           have HQ:=aD hq
           have i1:(k:Int)<(d.aO.length:Int):=by omega
           have i2:(i:Int)<(rk.length:Int):=by omega
           have i3:(i:Int)<(d.aB.length:Int):=by omega
           have i4:(k:Int)<(d.aB.length:Int):=by omega
           clear A U aU hy V X b6 b7 aL I hq L M N;by_cases S:i=k
           ·have aN:((i:Int) != (k:Int))=false:=by simp; omega
            have P:=aD S;clear S
            cases x <;> cases y
            case' false.false=>
             go_wp2
             go_quiet (fail)
             go_wp2;go_roundw
             case rel=>exact⟨k+1,by omega,by go_num,pP HN.out fun G=>by rcases s.out.1 G with h | h; exact h rfl; exact h.1 P.out,o.call (fC _ _)⟩
             case measure=>simp[intOf]; omega
            case' true.true=>
             go_wp2
             go_quiet (fail)
             go_wp2;go_roundw
             case rel=>exact⟨k+1,by omega,by go_num,pP HN.out fun G=>by rcases s.out.1 G with h | h; exact h rfl; exact h.1 P.out,o.call (fC _ _)⟩
             case measure=>simp[intOf]; omega
            case' false.true=>
             go_wp2
             go_quiet (fail)
             go_wp2;exact bodyPost_ret (v:=.agg #[.int .i64 5,.int .i64 i]) (by simp[results,Tryz.results33,go_sem,n,r]) rfl ⟨5,i,rfl,vR J.out Q.out N3.out t.out N4.out ⟨⟨by have:=t.out; omega,k,by omega,s.out.2 (.inl (by decide))⟩,m.out⟩,(o.call (fC _ _)).ret _ _⟩
            case' true.false=>
             go_wp2
             go_quiet (fail)
             go_wp2;exact bodyPost_ret (v:=.agg #[.int .i64 5,.int .i64 i]) (by simp[results,Tryz.results33,go_sem,n,r]) rfl ⟨5,i,rfl,vR J.out Q.out N3.out t.out N4.out ⟨⟨by have:=t.out; omega,k,by omega,s.out.2 (.inl (by decide))⟩,m.out⟩,(o.call (fC _ _)).ret _ _⟩
           ·have aN:((i:Int) != (k:Int))=true:=by simp; omega
            have P:=aD S;clear S
            cases x <;> cases y
            case' true.true=>
             go_wp2
             go_quiet (fail)
             go_wp2;go_roundw
             case rel=>exact⟨k+1,by omega,by go_num,pP HN.out fun G=>by rcases s.out.1 G with h | h; exact h rfl; exact Bool.noConfusion h.2.1,o.call (fC _ _)⟩
             case measure=>simp[intOf]; omega
            case' false.true=>
             go_wp2
             go_quiet (fail)
             go_wp2;exact bodyPost_ret (v:=.agg #[.int .i64 5,.int .i64 i]) (by simp[results,Tryz.results33,go_sem,n,r]) rfl ⟨5,i,rfl,vR J.out Q.out N3.out t.out N4.out ⟨⟨by have:=t.out; omega,k,by omega,s.out.2 (.inl (by decide))⟩,m.out⟩,(o.call (fC _ _)).ret _ _⟩
            case' true.false=>
             go_wp2
             go_quiet (fail)
             go_wp2;exact bodyPost_ret (v:=.agg #[.int .i64 5,.int .i64 i]) (by simp[results,Tryz.results33,go_sem,n,r]) rfl ⟨5,i,rfl,vR J.out Q.out N3.out t.out N4.out ⟨⟨by have:=t.out; omega,k,by omega,s.out.2 (.inl (by decide))⟩,m.out⟩,(o.call (fC _ _)).ret _ _⟩
            case' false.false=>
             by_cases E:Meet vi.aA vk.aA
             ·rw[bQ E] at HQ;have HM:=aD E;clear E;go_wp2
              go_quiet ((go_at_call 77; exact Calls.quiet_of_same (HQ.out _)))
              go_wp2;exact bodyPost_ret (v:=.agg #[.int .i64 5,.int .i64 i]) (by simp[results,Tryz.results33,go_sem,n,r]) rfl ⟨5,i,rfl,vR J.out Q.out N3.out t.out N4.out ⟨⟨by have:=t.out; omega,k,by omega,s.out.2 (.inr ⟨P.out,by first | trivial | rfl,HM.out⟩)⟩,m.out⟩,(o.call (fC _ _)).ret _ _⟩
             ·rw[bE E] at HQ;have HM:=aD E;clear E;go_wp2
              go_quiet ((go_at_call 77; exact Calls.quiet_of_same (HQ.out _)))
              go_wp2;go_roundw
              case rel=>exact⟨k+1,by omega,by go_num,pP HN.out fun G=>by rcases s.out.1 G with h | h; exact h rfl; exact HM.out h.2.2,o.call (fC _ _)⟩
              case measure=>simp[intOf]; omega
          ·go_wp2;go_roundw
           case rel=>exact⟨i+1,by omega,by go_num,pP m.out fun hb=>by
            obtain⟨-,q,hq,G⟩:=hb
            exact HN.out q (by have:=Y.out; omega) G,o⟩
           case measure=>simp[intOf]; omega
        ·have N5:Hid (∀k,¬rS d k):=fun k hb=>m.out k (by have:=hb.1; have:=t.out; omega) hb;go_wp2;exact bodyPost_ret (v:=.agg #[.int .i64 0,.int .i64 0]) (by simp[results,Tryz.results33,go_sem,n,r]) rfl ⟨0,0,rfl,ER J.out Q.out N3.out t.out N4.out N5.out,K.ret _ _⟩
def Right (d:aK):Prop:=bR (rS d) d 0 0
theorem DN {d:aK}{c a:Int}(h:bR (rS d) d c a):c=0↔Right d:=by
 constructor
 ·rintro rfl
  have b:a=0:=by
   rcases h with ⟨-,h,-⟩ | ⟨-,⟨k,-,h,-⟩ | ⟨-,⟨k,-,h,-⟩ | ⟨-,⟨-,h,-⟩ | ⟨-,⟨k,-,h,-⟩ | ⟨-,⟨k,-,h,-⟩ | ⟨-,-,h⟩⟩⟩⟩⟩⟩
   all_goals first | exact h | omega
  rw[b] at h;exact h
 ·exact fun e=>(bR.uniq _ _ _ _ _ _ h e).1
set_option maxHeartbeats 400000 in
theorem B6 (v1 v2 v3:Value) (d:aK) (w:World) (p:aZ (In w) w v1 v2 v3 d) (s:d.Small 1048576) :
  Calls Tryz.prog 37 #[.agg #[.int .i64 d.aA,v1,v2,v3,.int .i64 d.aI]] w fun e w'=>e=.returned (.bool (B (Right d)))∧Below w.heap.size w w':=by
 have g:=cZ w 27 #[.int .i64 d.aA,v1,v2,v3,.int .i64 d.aI];have f:=p.keep (In.keep g.below).1 (In.keep g.below).2;clear p;go_enter Tryz.func37,Tryz.ntmps37
 go_wp2_with fail
 refine (FN v1 v2 v3 d _ f s).mono ?_;rintro e t ⟨c,a,rfl,o,n⟩;have q:=DN o;have l:=g.call n;have m:=l.call (bC _ (.cells #[.int .i64 c,.int .i64 a] 68));have k:=aD q;clear q o g l n f;by_cases j:c=0
 ·subst j;have b:B (Right d)=true:=bQ (k.out.1 rfl);have i:=aD b;clear b;go_wp2;go_ret;exact⟨bI (by rw[i.out]),m.below⟩
 ·have r:(c == 0)=false:=by simpa using j
  have b:B (Right d)=false:=bE fun h=>j (k.out.2 h);have i:=aD b;clear b;go_wp2;go_ret;exact⟨bI (by rw[i.out]),m.below⟩
theorem Right.parts {p:aK}(h:Right p):(bN p.aA 1 60∧p.aE.length<=40∧p.aB.length<=100∧bN p.aI 1 300)∧(∀k,¬mN p k)∧(∀k,¬mX p k)∧p.aO.length=p.aB.length∧(∀k,¬oM p k)∧∀k,¬rS p k:=by
 rcases h with ⟨-,h,-⟩ | ⟨a,⟨k,-,h,-⟩ | ⟨b,⟨k,-,h,-⟩ | ⟨c,⟨-,h,-⟩ | ⟨d,⟨k,-,h,-⟩ | ⟨e,⟨k,-,h,-⟩ | ⟨f,-,h⟩⟩⟩⟩⟩⟩
 all_goals first | (exfalso; omega) | skip
 exact⟨Decidable.byContradiction a,b,c,Decidable.byContradiction d,e,f⟩
end Go.Proofs.YtdhinkgjiapigaaGreatDoor

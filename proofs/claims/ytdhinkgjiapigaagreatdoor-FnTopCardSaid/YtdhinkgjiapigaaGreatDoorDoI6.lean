import Derived.Test.YtdhinkgjiapigaaGreatDoorDoI4
namespace Go.Proofs.YtdhinkgjiapigaaGreatDoor
open Classical Go.Deep Go.RowKit
set_option maxRecDepth 100000 in
set_option maxHeartbeats 8000000 in
theorem I9 (P Q:Nat->Prop) (n hd ok p1 p2 p3 v1 v2 v3:Value) (p:aK) (d:aF) (I bp O:Nat) (bb:Nat->Nat) (w:World)
  (hp:eY Q w p2 p.aB) (hQ:∀c,Q c->c<w.heap.size∧¬P c) (hf:aP P w v1 v2 v3 d I bp O bb) (T:Fits p.aB d) (b7:Stand p.aB d) (bV:∀c,P c->c<w.heap.size) (c6:∀(i:Nat) h,d.aB[i]?=some h->h.state=3->1<=h.aN∧h.aN<=1048576) :
  Calls Tryz.prog 168 #[.agg #[n,p1,p2,p3,hd],.agg #[ok,v1,v2,v3],.agg #[.int .i64 7,.int .i64 0,.int .i64 0]] w fun e w'=>kD P w v1 v2 v3 I bp O (cO p d 7 0 0) e w':=by
 obtain⟨b5,cV,d4,d5,T⟩:=T;have bR:=aD T;have Z:=aD b5;have cF:=aD c6;clear b5;have bT:=aD b7;obtain⟨a2,k2,rfl,-⟩:=id hp;have HP:=aD hp;have HQ:=aD hQ;obtain⟨g1,N1,q1,rfl,-⟩:=id hf.aH;obtain⟨a4,q2,rfl,-⟩:=id hf.aC;obtain⟨a3,q3,rfl,-⟩:=id hf.aB;have T0:=iE w 27 40 55 #[n,p1,.slice a2 p.aB.length k2,p3,hd] #[ok,.slice (some ⟨I,0,none⟩) d.aH.length q1,.slice a4 d.aC.length q2,.slice a3 d.aB.length q3] #[.int .i64 7,.int .i64 0,.int .i64 0]
 have aZ:iR dW P (((w.alloc (.cells #[n,p1,.slice a2 p.aB.length k2,p3,hd] 27)).alloc (.cells #[ok,.slice (some ⟨I,0,none⟩) d.aH.length q1,.slice a4 d.aC.length q2,.slice a3 d.aB.length q3] 40)).alloc (.cells #[.int .i64 7,.int .i64 0,.int .i64 0] 55)) (.slice (some ⟨I,0,none⟩) d.aH.length q1) (.slice a4 d.aC.length q2) (.slice a3 d.aB.length q3) d I bp O 0 (((w.alloc (.cells #[n,p1,.slice a2 p.aB.length k2,p3,hd] 27)).alloc (.cells #[ok,.slice (some ⟨I,0,none⟩) d.aH.length q1,.slice a4 d.aC.length q2,.slice a3 d.aB.length q3] 40)).alloc (.cells #[.int .i64 7,.int .i64 0,.int .i64 0] 55)):=
  ⟨d.aB,bb,rfl,fun j _ hj=>by omega,fun _ _=>rfl,hf.but (K:=fun _=>True) (But.aG T0.below) (fun _ _=>trivial) fun _ z=>.inl z,But.refl _ _⟩
 have bS:=aD aZ;have HF:=aD hf;have cD:=aD bV;clear T hp hQ aZ hf b7 bV c6;go_enter Tryz.func168,Tryz.ntmps168;go_wp2;obtain⟨W0,bH⟩:∃W0,W0=((w.alloc (.cells #[n,p1,.slice a2 p.aB.length k2,p3,hd] 27)).alloc (.cells #[ok,.slice (some ⟨I,0,none⟩) d.aH.length q1,.slice a4 d.aC.length q2,.slice a3 d.aB.length q3] 40)).alloc (.cells #[.int .i64 7,.int .i64 0,.int .i64 0] 55):=⟨_,rfl⟩
 have hz:W0.heap.size=w.heap.size+3:=by rw[bH]; simp
 have HZ:=aD hz;rw[← bH] at bS T0 ⊢;have bA:=aD T0;have cA:Hid (∀c,w.heap.size<=c->¬P c):=fun c hc z=>absurd (cD.out _ z) (by omega);clear bH hz T0
 go_loopw [14] (fun z wr=>∃(i:Nat),i<=p.aB.length∧z=.int .i64 i∧iR dW P W0 (.slice (some ⟨I,0,none⟩) d.aH.length q1) (.slice a4 d.aC.length q2) (.slice a3 d.aB.length q3) d I bp O i wr) (fun z _=>p.aB.length-(intOf z).toNat)
 case atStart=>exact⟨0,by omega,rfl,bS.out⟩
 case round=>
  obtain⟨i,hi,rfl,aU⟩:=hrel;by_cases bK:i<p.aB.length
  ·obtain⟨x,hx⟩:=bG p.aB (aD rfl) bK;obtain⟨h,hh⟩:=bG d.aB (aD Z.out) bK;obtain⟨cur,X,c0,bN,b2,b1,C⟩:=aU
   have d3:i<d.aB.length:=by have:=Z.out; omega
   have cW:(i:Int)<(d.aB.length:Int):=by omega
   have cX:(i:Int)<(p.aB.length:Int):=by omega
   obtain⟨bX,b6,c4,d1,d2,cR,cS⟩:=bR.out i x h hx hh;obtain⟨s,c5,c2,c3⟩:=bT.out i x h hx hh;have cE:=aD (cF.out i h hh);have b4:cur[i]?=some h:=(b2 i (Nat.le_refl _)).trans hh
   obtain⟨f,N,cL,hr,hN,b0⟩:∃f N,a3=some ⟨O,0,none⟩∧wr.rowIs O 44 N f∧cur.length*5<=N∧∀(j:Nat) y,cur[j]?=some y->cB wr f j y (X j):=by
    obtain⟨a,cI,hv,h0 | ⟨ha,f,N,hr,hN,b0⟩⟩:=b1.aB
    ·have cY:cur.length=0:=h0;omega
    ·injection hv with ea _ _;exact⟨f,N,ea.trans ha,hr,hN,b0⟩
   subst cL;have ho:=b0 i h b4
   have cQ:i*5+5<=N:=by omega
   have c1:Same Q w wr:=fun c hc o=>by
    have h1:=HQ.out c hc;exact (World.cell?_of_block (w:=W0) (C.block c (by have:=HZ.out; omega) h1.2)).trans (bA.out.below.cell (p:=⟨c,o,none⟩) h1.1)
   obtain⟨v0,v1,v2,v3,v4,bq,oq,A,cK,r0,r1,r2,r3,r4⟩:∃v0 v1 v2 v3 v4 bq oq,cC Q wr v0 v1 v2 v3 v4 x∧a2=some ⟨bq,oq,none⟩∧wr.cell? ⟨bq,oq+i*5,none⟩=some v0∧wr.cell? ⟨bq,oq+i*5+1,none⟩=some v1∧wr.cell? ⟨bq,oq+i*5+2,none⟩=some v2∧wr.cell? ⟨bq,oq+i*5+3,none⟩=some v3∧wr.cell? ⟨bq,oq+i*5+4,none⟩=some v4:=by
    obtain⟨a,cI,hv,h0 | ⟨bq,oq,ha,d0,cN⟩⟩:=HP.out.keep c1 fun _ z=>z
    ·omega
    ·cases hv
     obtain⟨v0,v1,v2,v3,v4,hw,hc⟩:=cN i bK x hx;exact⟨v0,v1,v2,v3,v4,bq,oq,hw,ha,hc⟩
   subst cK;obtain⟨a0,a8,rfl⟩:=A.1.size;obtain⟨a1,a9,rfl⟩:=A.2.1.size;obtain⟨a5,aE,rfl⟩:=A.2.2.1.size;obtain⟨a6,aI,rfl⟩:=A.2.2.2.1.size;obtain⟨a7,aM,rfl⟩:=A.2.2.2.2.size;obtain⟨bU,t0,t1,t2,t3,t4,-,-⟩:=ho.cells hr cQ
   have G:∀W',aX wr W' O N i f (X i) (dW h)->iR dW P W0 (.slice (some ⟨I,0,none⟩) d.aH.length q1) (.slice a4 d.aC.length q2) (.slice (some ⟨O,0,none⟩) d.aB.length q3) d I bp O (i+1) W':=
    fun W' hs=>iR.next c0 bN b2 b1 C hh hr hs
   have aY:∀W',dW h=h->Below wr.heap.size wr W'->iR dW P W0 (.slice (some ⟨I,0,none⟩) d.aH.length q1) (.slice a4 d.aC.length q2) (.slice (some ⟨O,0,none⟩) d.aB.length q3) d I bp O (i+1) W':=
    fun W' hg hB=>iR.stay c0 bN b2 b1 C hh hg hB
   have U:=aD (And.intro G aY)
   have c7:cC (In wr) wr (.slice a0 x.aA.length a8) (.slice a1 x.aQ.length a9) (.slice a5 x.aJ.length aE) (.slice a6 x.over.length aI) (.slice a7 x.aW.length aM) x:=A.keep (hU _ _) fun c hc=>by have:=(HQ.out c hc).1; have:=C.size; have:=HZ.out; show c<wr.heap.size; omega
   have bY:=ho.2.2.1
   have aS:aV wr (.slice (some ⟨X i,0,none⟩) h.aL.length bU) h.aL (X i):=by
    have e:=(hr.cell (i:=i*5+2) (by omega)).symm.trans t2;rw[← Option.some.inj e];exact bY
   have KB:=aD fun (W:World) (hW:Below wr.heap.size wr W)=>(aS.read (P:=In wr) aS.lt).keep (Q:=In W) (In.keep hW).1 (In.keep hW).2;have KW:=aD fun (W:World) (hW:Below wr.heap.size wr W)=>c7.keep (Q:=In W) (In.keep hW).1 (In.keep hW).2;have HR:=aD hr;have E:=aD (And.intro c5 (And.intro c2 c3));have b8:=aD bX;have b9:=aD c4;have bJ:=C.cell (bA.out.c 1 3 rfl rfl) (cA.out _ (by omega));have c8:=aD bJ;have BW:=bC wr (.cells #[.slice a0 x.aA.length a8,.slice a1 x.aQ.length a9,.slice a5 x.aJ.length aE,.slice a6 x.over.length aI,.slice a7 x.aW.length aM] 51);have TW:=cZ wr 51 #[.slice a0 x.aA.length a8,.slice a1 x.aQ.length a9,.slice a5 x.aJ.length aE,.slice a6 x.over.length aI,.slice a7 x.aW.length aM];have y0:=bP t0 BW;have y1:=bP t1 BW;have y2:=bP t2 BW;have y3:=bP t3 BW;have y4:=bP t4 BW;have y5:=bP bJ BW;clear bN b2 hx hh b4 b0 G aY A c7 bY aS b1 C c5 c2 c3 hr ho cR cS c1 bX c4 t0 t1 t2 t3 t4 bJ
   go_wp2_with fail
   refine (yO h _ _ (KB.out _ BW) (by have:=b8.out; have:=b9.out.1; omega) (by have:=b8.out; omega)).mono ?_;rintro e w1 ⟨rfl,bI⟩;rw[E.out.1];have u:=BW.trans (bI.mono BW.size);have V:=TW.call bI;clear y0 y1 y2 y3 y4 y5 r0 r1 r2 r3 r4 BW TW bI;simp only[vG]
   cases s using bL.by with
   | idle=>
    simp only[dO];have ta:=Tryz.fS (.agg #[])
    have r:h.state=0:=by rw[← E.out.2.2]; rfl
    have HB:=aD (u.trans ((bC w1 (.cells #[.int .i64 0] 235)).mono u.size));have q:=aD (show dW h=h by unfold dW; rw[if_neg (by rw[r]; decide)]);clear r u V;go_wp2;go_roundw
    case rel=>exact⟨i+1,by omega,by go_num,U.out.2 _ q.out HB.out⟩
    case measure=>simp[intOf]; omega
   | set b=>
    simp only[dO];have ta:=Tryz.gG (.agg #[.bool b])
    have r:h.state=1:=by rw[← E.out.2.2]; rfl
    have HB:=aD (u.trans ((bC w1 (.cells #[.int .i64 0] 235)).mono u.size));have q:=aD (show dW h=h by unfold dW; rw[if_neg (by rw[r]; decide)]);clear r u V;go_wp2;go_roundw
    case rel=>exact⟨i+1,by omega,by go_num,U.out.2 _ q.out HB.out⟩
    case measure=>simp[intOf]; omega
   | clear=>
    simp only[dO];have ta:=Tryz.fF (.agg #[])
    have r:h.state=2:=by rw[← E.out.2.2]; rfl
    have HB:=aD (u.trans ((bC w1 (.cells #[.int .i64 0] 235)).mono u.size));have q:=aD (show dW h=h by unfold dW; rw[if_neg (by rw[r]; decide)]);clear r u V;go_wp2;go_roundw
    case rel=>exact⟨i+1,by omega,by go_num,U.out.2 _ q.out HB.out⟩
    case measure=>simp[intOf]; omega
   | used g l b=>
    simp only[dO];have ta:=Tryz.fU (.agg (dI g l b))
    have r:h.state=4:=by rw[← E.out.2.2]; rfl
    have HB:=aD (u.trans ((bC w1 (.cells #[.int .i64 0] 235)).mono u.size));have q:=aD (show dW h=h by unfold dW; rw[if_neg (by rw[r]; decide)]);clear r u V;go_wp2;go_roundw
    case rel=>exact⟨i+1,by omega,by go_num,U.out.2 _ q.out HB.out⟩
    case measure=>simp[intOf]; omega
   | taking t=>
    simp only[dO];have ta:=Tryz.eT (.agg #[.int .i64 t])
    have r:h.state=3:=by rw[← E.out.2.2]; rfl
    have bQ:h.aN=t:=by rw[← E.out.2.2]; rfl
    have b3:=cE.out r;rw[bQ] at b3
    have q:Hid (bO x.aA.length (rB t)=dW h):=by
     unfold dW rB;rw[if_pos r,bQ];by_cases e:t<=1
     ·rw[if_pos e,if_pos (by omega),b8.out]; rfl
     ·rw[if_neg e,if_neg (by omega),← E.out.2.2]; rfl
    clear r bQ;have BS:=bC w1 (.cells #[.int .i64 t] 235);have TS:=cZ w1 235 #[.int .i64 t]
    go_wp2_with fail
    obtain⟨WB,bW⟩:∃WB,WB=w1.alloc (.cells #[.int .i64 t] 235):=⟨_,rfl⟩;rw[← bW] at BS TS ⊢;have D:=aD (u.trans (BS.mono u.size))
    have bZ:∀W,Below WB.heap.size WB W->Below WB.heap.size WB W∧W.cell? ⟨w.heap.size+1,3,none⟩=some (.slice (some ⟨O,0,none⟩) d.aB.length q3)∧W.cell? ⟨w1.heap.size,0,none⟩=some (.int .i64 t) ∧
     (W.cell? ⟨wr.heap.size,0,none⟩=some (.slice a0 x.aA.length a8)∧W.cell? ⟨wr.heap.size,1,none⟩=some (.slice a1 x.aQ.length a9)∧W.cell? ⟨wr.heap.size,2,none⟩=some (.slice a5 x.aJ.length aE)∧W.cell? ⟨wr.heap.size,3,none⟩=some (.slice a6 x.over.length aI)∧W.cell? ⟨wr.heap.size,4,none⟩=some (.slice a7 x.aW.length aM)):=fun W hW=>by
     have cU:=D.out.trans (hW.mono D.out.size);have aO:=V.call (BS.trans (hW.mono BS.size));have cJ:=TS.call hW;exact⟨hW,bP c8.out cU,cJ.c 0 0 rfl rfl,aO.c 0 0 rfl rfl,aO.c 0 1 rfl rfl,aO.c 0 2 rfl rfl,aO.c 0 3 rfl rfl,aO.c 0 4 rfl rfl⟩
    have KS:=aD bZ;clear bZ BS TS V bW u
    refine mV (S:=fun W=>Below WB.heap.size WB W∧W.cell? ⟨w.heap.size+1,3,none⟩=some (.slice (some ⟨O,0,none⟩) d.aB.length q3)∧W.cell? ⟨w1.heap.size,0,none⟩=some (.int .i64 t) ∧
     (W.cell? ⟨wr.heap.size,0,none⟩=some (.slice a0 x.aA.length a8)∧W.cell? ⟨wr.heap.size,1,none⟩=some (.slice a1 x.aQ.length a9)∧W.cell? ⟨wr.heap.size,2,none⟩=some (.slice a5 x.aJ.length aE)∧W.cell? ⟨wr.heap.size,3,none⟩=some (.slice a6 x.over.length aI)∧W.cell? ⟨wr.heap.size,4,none⟩=some (.slice a7 x.aW.length aM))) 8 (by kernel_rfl) (KS.out _ (cT _)) (fun hS=>?_)
    refine bM (v:=?v0) At.z (by kernel_rfl) (fun _ _ _ h=>h) rfl ?h0 hS ?_
    case h0=>intro _ s;(try dsimp only at s);go_simp;try with_reducible rfl
    try simp only[Act.put,sA,sB,sC]
    refine bM (v:=?v1) At.z.s (by kernel_rfl) (fun _ _ _ h=>h) rfl ?h1 hS ?_
    case h1=>intro _ s;(try dsimp only at s);go_simp;try with_reducible rfl
    try simp only[Act.put,sA,sB,sC]
    refine bM (v:=?v2) At.z.s.s (by kernel_rfl) (fun _ _ _ h=>h) rfl ?h2 hS ?_
    case h2=>intro _ s;(try dsimp only at s);go_simp;try with_reducible rfl
    try simp only[Act.put,sA,sB,sC]
    refine bM (v:=?v3) At.z.s.s.s (by kernel_rfl) (fun _ _ _ h=>h) rfl ?h3 hS ?_
    case h3=>intro _ s;(try dsimp only at s);go_simp;try with_reducible rfl
    try simp only[Act.put,sA,sB,sC]
    refine bM (v:=?v5) At.z.f (by kernel_rfl) (fun _ _ _ h=>h) rfl ?h5 hS ?_
    case h5=>intro _ s;(try dsimp only at s);go_simp;try with_reducible rfl
    try simp only[Act.put,sA,sB,sC]
    have hD:=hS.1;refine dX (i:=4) At.z.s.s.s.s (by kernel_rfl) (fun K R=>?_);go_simp;refine (Hq t _ b3.1 b3.2).mono ?_;rintro e w2 ⟨rfl,C⟩;have F:=hD.trans (C.mono hD.size);have Y:=D.out.trans (F.mono D.out.size);have bE:=KS.out _ F;refine R.out _ _ bE ?_;clear R K C hS hD b3
    try simp only[Act.put,sA,sB,sC]
    unfold rB at q ⊢;by_cases e1:t<=1
    ·rw[if_pos e1] at q ⊢;have HE:=q;clear q;simp only[dO];have m2:=Tryz.cH (.agg #[]);refine dX (i:=6) At.z.f.s (by kernel_rfl) (fun K R=>?_);go_simp;refine (uW _ _ _ _ _ x.aA _ (KW.out _ Y).1 b6 b9.out.1).mono ?_;rintro e w3 ⟨vb,bD,rfl,B,aT,aR⟩;obtain⟨y,hy⟩:∃y,y=bO x.aA.length (.idle):=⟨_,rfl⟩;have HY:=aD (hy.trans HE.out);rw[← hy] at B ⊢;have J:=F.trans (aR.mono F.size);have M:=D.out.trans (J.mono D.out.size);have L:=KS.out _ J;have H:wr.heap.size<=bD:=Nat.le_trans Y.size aT;obtain⟨fb,Nb,cb,rfl,-⟩:=id B;refine R.out _ _ L ?_;clear R K aR bE F Y hy m2
     try simp only[Act.put,sA,sB,sC]
     refine nW (i:=7) (v:=?vv101) At.z.f.s.s (by kernel_rfl) (by kernel_rfl) (by kernel_rfl) (by kernel_rfl) (fun _ _ _ h=>h) rfl ?hy101 L ?rest101
     case hy101=>(intro w' bF; (try dsimp only at bF); go_simp; try with_reducible rfl)
     try simp only[Act.put,sA,sB,sC]
     have k:=dP HR.out M;have t0:=k.cell (i:=i*5) (by omega);have t1:=k.cell (i:=i*5+1) (by omega);have t2:=k.cell (i:=i*5+2) (by omega);have t3:=k.cell (i:=i*5+3) (by omega);have t4:=k.cell (i:=i*5+4) (by omega);have z0:=k.frozen (i*5);have z1:=k.frozen (i*5+1);have z2:=k.frozen (i*5+2);have z3:=k.frozen (i*5+3);have z4:=k.frozen (i*5+4);have HH:=aD (pF (i:=i) (b:=X i) HR.out M B H);clear B M aT H J k L;refine iQ (m:=8) At.z.f.s.s.s (by kernel_rfl) (by kernel_rfl) (fun K R=>?_);go_simp;refine R.out _ _ ?_;clear R K t0 t1 t2 t3 t4 z0 z1 z2 z3 z4;go_wp2;go_roundw
     case rel=>exact⟨i+1,by omega,by go_num,U.out.1 _ (by rw[← HY.out]; exact HH.out)⟩
     case measure=>simp[intOf]; omega
    ·rw[if_neg e1] at q ⊢;have HE:=q;clear q;simp only[dO];have m2:=Tryz.cG (.agg #[.int .i64 (t-1)]);refine dX (i:=6) At.z.f.s (by kernel_rfl) (fun K R=>?_);go_simp;refine (xG (t-1) _ _ _ _ _ x.aA _ (KW.out _ Y).1 b6 b9.out.1).mono ?_;rintro e w3 ⟨vb,bD,rfl,B,aT,aR⟩;obtain⟨y,hy⟩:∃y,y=bO x.aA.length (.taking (t-1)):=⟨_,rfl⟩;have HY:=aD (hy.trans HE.out);rw[← hy] at B ⊢;have J:=F.trans (aR.mono F.size);have M:=D.out.trans (J.mono D.out.size);have L:=KS.out _ J;have H:wr.heap.size<=bD:=Nat.le_trans Y.size aT;obtain⟨fb,Nb,cb,rfl,-⟩:=id B;refine R.out _ _ L ?_;clear R K aR bE F Y hy m2
     try simp only[Act.put,sA,sB,sC]
     refine nW (i:=7) (v:=?vv102) At.z.f.s.s (by kernel_rfl) (by kernel_rfl) (by kernel_rfl) (by kernel_rfl) (fun _ _ _ h=>h) rfl ?hy102 L ?rest102
     case hy102=>(intro w' bF; (try dsimp only at bF); go_simp; try with_reducible rfl)
     try simp only[Act.put,sA,sB,sC]
     have k:=dP HR.out M;have t0:=k.cell (i:=i*5) (by omega);have t1:=k.cell (i:=i*5+1) (by omega);have t2:=k.cell (i:=i*5+2) (by omega);have t3:=k.cell (i:=i*5+3) (by omega);have t4:=k.cell (i:=i*5+4) (by omega);have z0:=k.frozen (i*5);have z1:=k.frozen (i*5+1);have z2:=k.frozen (i*5+2);have z3:=k.frozen (i*5+3);have z4:=k.frozen (i*5+4);have HH:=aD (pF (i:=i) (b:=X i) HR.out M B H);clear B M aT H J k L;refine iQ (m:=8) At.z.f.s.s.s (by kernel_rfl) (by kernel_rfl) (fun K R=>?_);go_simp;refine R.out _ _ ?_;clear R K t0 t1 t2 t3 t4 z0 z1 z2 z3 z4;go_wp2;go_roundw
     case rel=>exact⟨i+1,by omega,by go_num,U.out.1 _ (by rw[← HY.out]; exact HH.out)⟩
     case measure=>simp[intOf]; omega
  ·have G:∃bB,aP (fun c=>P c∨New w wr c) wr (.slice (some ⟨I,0,none⟩) d.aH.length q1) (.slice a4 d.aC.length q2) (.slice a3 d.aB.length q3) { d with aB:=d.aB.map dW } I bp O bB∧But (fun c=>¬P c) w wr:=by
    obtain⟨bB,cP,cM⟩:=aU.end (by have:=Z.out; omega);exact⟨bB,cP.bound fun c hc hl=>hc.imp id fun z=>⟨by have:=HZ.out; omega,hl⟩,(But.aG bA.out.below).trans cM⟩
   have c9:=aD G;have HE:=aD (show cO p d 7 0 0=(0,{ d with aB:=d.aB.map dW }) by simp[cO]);clear G aU;go_wp2;go_ret;rw[HE.out];exact⟨rfl,c9.out⟩
theorem DZ (aH:List Bool) (x:aT) (a:∀s∈x.aW,0<=s∧s<aH.length):(!(x.aW.all (lI aH)))=vE aH x:=by
 unfold vE
 revert a
 generalize x.aW=l;intro a
 induction l with
 | nil=>rfl
 | cons s l ih=>
  have e:=a s List.mem_cons_self
  have b:lI aH s=!eA aH s:=by
   obtain⟨o,c⟩:∃o,aH[s.toNat]?=some o:=⟨aH[s.toNat]'(by omega),List.getElem?_eq_getElem _⟩;unfold lI eA;rw[c]
  rw[List.all_cons,List.any_cons,← ih fun t d=>a t (List.mem_cons_of_mem _ d),b]
  cases eA aH s <;> simp
set_option maxRecDepth 100000 in
set_option maxHeartbeats 8000000 in
theorem GK (P Q:Nat->Prop) (n ok p1 p2 p3 v1 v2 v3:Value) (p:aK) (d:aF) (k:Nat) (x:aT) (h:aM) (s:bL) (bo bp bw:Nat) (bb:Nat->Nat) (w:World)
  (hp:eY Q w p2 p.aB) (hQ:∀c,Q c->c<w.heap.size∧¬P c) (hf:aP P w v1 v2 v3 d bo bp bw bb) (hx:p.aB[k]?=some x) (hh:d.aB[k]?=some h) (bV:iG h=some s) (bT:bO x.aA.length s=h) (bN:h.aL.length=x.aA.length) (bU:x.Small 30) (aO:0<x.aA.length)
  (b4:∀s∈x.aW,0<=s∧s<d.aH.length) (_hl1:p.aB.length<=1048576) (_hl2:d.aB.length<=1048576) (bS:d.aH.length<=1048576) :
  Calls Tryz.prog 163 #[.agg #[n,p1,p2,p3,.int .i64 p.aI],.agg #[ok,v1,v2,v3],.agg #[.int .i64 2,.int .i64 (k:Int),.int .i64 0]] w fun e w'=>kD P w v1 v2 v3 bo bp bw (cO p d 2 (k:Int) 0) e w':=by
 have bY:k<p.aB.length:=(List.getElem?_eq_some_iff.1 hx).1;have bR:k<d.aB.length:=(List.getElem?_eq_some_iff.1 hh).1;obtain⟨a2,k2,rfl,bB⟩:=id hp;obtain h0 | ⟨bq,oq,rfl,c1,bB⟩:=bB
 ·omega
 obtain⟨u0,u1,u2,u3,u4,a7,g0,g1,g2,g3,g4⟩:=bB k bY x hx;obtain⟨G,M,rfl⟩:=a7.1.size;obtain⟨H,O,rfl⟩:=a7.2.1.size;obtain⟨I,R,rfl⟩:=a7.2.2.1.size;obtain⟨J,T,rfl⟩:=a7.2.2.2.1.size;obtain⟨L,U,rfl⟩:=a7.2.2.2.2.size;obtain⟨q3,f,N,rfl,hr,bX,ho⟩:=hf.aB.cells hh;obtain⟨c0,N1,q1,rfl,-⟩:=id hf.aH;obtain⟨a4,q2,rfl,-⟩:=id hf.aC;obtain⟨bI,t0,t1,t2,t3,t4,-,-⟩:=ho.cells hr bX;have T0:=iE w 27 40 55 #[n,p1,.slice (some ⟨bq,oq,none⟩) p.aB.length k2,p3,.int .i64 p.aI] #[ok,.slice (some ⟨bo,0,none⟩) d.aH.length q1,.slice a4 d.aC.length q2,.slice (some ⟨bw,0,none⟩) d.aB.length q3] #[.int .i64 2,.int .i64 (k:Int),.int .i64 0]
 have b3:aV w (.slice (some ⟨bb k,0,none⟩) h.aL.length bI) h.aL (bb k):=by
  have e:=(hr.cell (i:=k*5+2) (by omega)).symm.trans t2;rw[← Option.some.inj e];exact ho.2.2.1
 have bW:cC (In w) w (.slice G x.aA.length M) (.slice H x.aQ.length O) (.slice I x.aJ.length R) (.slice J x.over.length T) (.slice L x.aW.length U) x:=a7.keep (hU _ _) fun c hc=>(hQ c hc).1;have bQ:=(hf.bound (Q:=In w) fun _ _ z=>z).read;have KB:=aD fun (W:World) (X:Below w.heap.size w W)=>(b3.read (P:=In w) b3.lt).keep (Q:=In W) (In.keep X).1 (In.keep X).2;have KW:=aD fun (W:World) (X:Below w.heap.size w W)=>bW.keep (Q:=In W) (In.keep X).1 (In.keep X).2;have KF:=aD fun (W:World) (X:Below w.heap.size w W)=>bQ.keep (Q:=In W) (In.keep X).1 (In.keep X).2;have KO:=aD fun (W:World) (X:Below w.heap.size w W)=>hf.but (K:=fun _=>True) (Q:=P) (But.aG X) (fun _ _=>trivial) fun _ z=>z
 have B:∀W' y,aX w W' bw N k f (bb k) y->∃bD,aP (fun c=>P c∨New w W' c) W' (.slice (some ⟨bo,0,none⟩) d.aH.length q1) (.slice a4 d.aC.length q2) (.slice (some ⟨bw,0,none⟩) d.aB.length q3) { d with aB:=d.aB.set k y } bo bp bw bD∧But (fun c=>¬P c) w W':=fun W' y hs=>by
  obtain⟨bD,h1,h2⟩:=hf.step (Q:=fun c=>P c∨New w W' c) bR (x:=y) (w':=W') (fun f' N' bZ _ _=>hs.from hr bZ) (fun _ z=>.inl z) (fun b h1 h2=>.inr ⟨h1,h2⟩);exact⟨bD,h1,h2.mono fun c _ hc=>⟨fun e=>hc (e ▸ hf.pw (by omega)),fun e=>hc (e ▸ hf.pb k bR)⟩⟩
 have b1:=aD B;have HR:=aD hr;have a5:=aD (And.intro bV bT);have b0:=aD bN;have aN:=aD bU;have bA:=aD b4;have aZ:=aD (show cO p d 2 (k:Int) 0=jP p d k x h by simp[cO,hx,hh]);have HG:=aD (And.intro g0 (And.intro g1 (And.intro g2 (And.intro g3 g4))));have y0:=bP t0 T0.below;have y1:=bP t1 T0.below;have y2:=bP t2 T0.below;have y3:=bP t3 T0.below;have y4:=bP t4 T0.below
 have c2:(k:Int)<(d.aB.length:Int):=by omega
 have c3:(k:Int)<(p.aB.length:Int):=by omega
 clear hp hQ hf hx hh bV bT bN bU b4 bB a7 g0 g1 g2 g3 g4 hr ho t0 t1 t2 t3 t4 b3 bW bQ B;go_enter Tryz.func163,Tryz.ntmps163
 go_wp2_with fail
 refine (yO h _ _ (KB.out _ T0.below) (by have:=b0.out; have:=aN.out.1; omega) (by have:=b0.out; omega)).mono ?_;rintro e o ⟨rfl,bK⟩;rw[a5.out.1];have T1:=T0.call bK;clear y0 y1 y2 y3 y4 bK T0;simp only[vG]
 cases s using bL.by with
 | idle=>
  simp only[dO];have ta:=Tryz.eF (.agg #[]);have tb:=Tryz.dL (.agg #[])
  have B:h.state=0:=by rw[← a5.out.2]; rfl
  have HE:=aD (show cO p d 2 (k:Int) 0=(2,d) by rw[aZ.out]; unfold jP; rw[if_neg (by rw[B]; decide)]);clear B;go_wp2;go_ret;exact kD.of HE.out (KO.out _ T1.below) (But.aG T1.below)
 | taking t=>
  simp only[dO];have ta:=Tryz.dM (.agg #[.int .i64 t]);have tb:=Tryz.cW (.agg #[.int .i64 t])
  have B:h.state=3:=by rw[← a5.out.2]; rfl
  have HE:=aD (show cO p d 2 (k:Int) 0=(2,d) by rw[aZ.out]; unfold jP; rw[if_neg (by rw[B]; decide)]);clear B;go_wp2;go_ret;exact kD.of HE.out (KO.out _ T1.below) (But.aG T1.below)
 | used g l b=>
  simp only[dO];have ta:=Tryz.eG (.agg (dI g l b));have tb:=Tryz.dN (.agg (dI g l b))
  have B:h.state=4:=by rw[← a5.out.2]; rfl
  have HE:=aD (show cO p d 2 (k:Int) 0=(2,d) by rw[aZ.out]; unfold jP; rw[if_neg (by rw[B]; decide)]);clear B;go_wp2;go_ret;exact kD.of HE.out (KO.out _ T1.below) (But.aG T1.below)
 | clear=>
  simp only[dO];have ta:=Tryz.dV (.agg #[]);have tb:=Tryz.dB (.agg #[])
  have B:h.state=2:=by rw[← a5.out.2]; rfl
  have a8:h.aR=true:=by rw[← a5.out.2]; rfl
  have aU:=aD (show cO p d 2 (k:Int) 0=(0,{ d with aB:=d.aB.set k (iO p.aI d.aH x h) }) by rw[aZ.out]; unfold jP; rw[if_pos (by rw[B]; decide)]);have Y:=T1.call (bC o (.cells #[] 187))
  have a6:(o.alloc (.cells #[] 187)).heap.size=o.heap.size+1:=by simp
  have aS:=Y.c 0 2 rfl rfl;have b2:=Y.c 2 1 rfl rfl;rw[Nat.add_zero] at aS;have b5:=bP HG.out.1 Y.below;have b6:=bP HG.out.2.1 Y.below;have b7:=bP HG.out.2.2.1 Y.below;have b8:=bP HG.out.2.2.2.1 Y.below;have b9:=bP HG.out.2.2.2.2 Y.below;have Tb:=Y.call (bC (o.alloc (.cells #[] 187)) (.cells #[.slice G x.aA.length M,.slice H x.aQ.length O,.slice I x.aJ.length R,.slice J x.over.length T,.slice L x.aW.length U] 51));have TY:=cZ (o.alloc (.cells #[] 187)) 51 #[.slice G x.aA.length M,.slice H x.aQ.length O,.slice I x.aJ.length R,.slice J x.over.length T,.slice L x.aW.length U];have bE:=Tb.c 1 0 rfl rfl;have bF:=Tb.c 1 1 rfl rfl;have bG:=Tb.c 1 2 rfl rfl;have bH:=Tb.c 1 3 rfl rfl;clear B
  go_wp2_with fail
  refine (yK _ _ _ _ _ d.aH x.aW _ (KF.out _ Tb.below).1 (KW.out _ Tb.below).2.2.2.2 (by have:=aN.out.2.2.2.2; omega) bS bA.out).mono ?_;rintro e V ⟨rfl,aY⟩;rw[DZ d.aH x bA.out];have T4:=Tb.call aY;replace TY:=TY.call aY;clear aS b2 b5 b6 b7 b8 b9 bE bF bG bH Y Tb T1 aY
  cases hnb:vE d.aH x with
  | true=>
   have HE:Hid (bO x.aA.length (.taking p.aI)=iO p.aI d.aH x h):=by
    unfold iO;rw[a8,hnb,if_pos (show (true&&true)=true from rfl),← a5.out.2];rfl
   clear a8 hnb;have ph:=T4.c 0 4 rfl rfl;rw[Nat.add_zero] at ph
   go_wp2_with fail
   have a1:∀W,Below V.heap.size V W->Below V.heap.size V W∧W.cell? ⟨w.heap.size+1,3,none⟩=some (.slice (some ⟨bw,0,none⟩) d.aB.length q3)∧W.cell? ⟨w.heap.size+1+1,1,none⟩=some (.int .i64 (k:Int)) ∧
        (W.cell? ⟨o.heap.size+1,0,none⟩=some (.slice G x.aA.length M)∧W.cell? ⟨o.heap.size+1,1,none⟩=some (.slice H x.aQ.length O)∧W.cell? ⟨o.heap.size+1,2,none⟩=some (.slice I x.aJ.length R)∧W.cell? ⟨o.heap.size+1,3,none⟩=some (.slice J x.over.length T)∧W.cell? ⟨o.heap.size+1,4,none⟩=some (.slice L x.aW.length U)):=fun W X=>by
    have hT:=T4.call X;have hY:=TY.call X;rw[← a6];exact⟨X,hT.c 1 3 rfl rfl,hT.c 2 1 rfl rfl,hY.c 0 0 rfl rfl,hY.c 0 1 rfl rfl,hY.c 0 2 rfl rfl,hY.c 0 3 rfl rfl,hY.c 0 4 rfl rfl⟩
   have KS:=aD a1;have q:=aD T4.below;clear a1;clear T4 TY a6 ph
   refine mV (S:=fun W=>Below V.heap.size V W∧W.cell? ⟨w.heap.size+1,3,none⟩=some (.slice (some ⟨bw,0,none⟩) d.aB.length q3)∧W.cell? ⟨w.heap.size+1+1,1,none⟩=some (.int .i64 (k:Int)) ∧
        (W.cell? ⟨o.heap.size+1,0,none⟩=some (.slice G x.aA.length M)∧W.cell? ⟨o.heap.size+1,1,none⟩=some (.slice H x.aQ.length O)∧W.cell? ⟨o.heap.size+1,2,none⟩=some (.slice I x.aJ.length R)∧W.cell? ⟨o.heap.size+1,3,none⟩=some (.slice J x.over.length T)∧W.cell? ⟨o.heap.size+1,4,none⟩=some (.slice L x.aW.length U))) 8 (by kernel_rfl) (KS.out _ (cT _)) (fun u=>?_)
   refine bM (v:=?v101x0) At.z (by kernel_rfl) (fun _ _ _ h=>h) rfl ?h101x0 u ?_
   case h101x0=>intro _ s;(try dsimp only at s);go_simp;try with_reducible rfl
   try simp only[Act.put,sA,sB,sC]
   refine bM (v:=?v101x1) At.z.s (by kernel_rfl) (fun _ _ _ h=>h) rfl ?h101x1 u ?_
   case h101x1=>intro _ s;(try dsimp only at s);go_simp;try with_reducible rfl
   try simp only[Act.put,sA,sB,sC]
   refine bM (v:=?v101x2) At.z.s.s (by kernel_rfl) (fun _ _ _ h=>h) rfl ?h101x2 u ?_
   case h101x2=>intro _ s;(try dsimp only at s);go_simp;try with_reducible rfl
   try simp only[Act.put,sA,sB,sC]
   refine bM (v:=?v101x3) At.z.s.s.s (by kernel_rfl) (fun _ _ _ h=>h) rfl ?h101x3 u ?_
   case h101x3=>intro _ s;(try dsimp only at s);go_simp;try with_reducible rfl
   try simp only[Act.put,sA,sB,sC]
   refine bM (v:=?v101x4) At.z.s.s.s.s (by kernel_rfl) (fun _ _ _ h=>h) rfl ?h101x4 u ?_
   case h101x4=>intro _ s;(try dsimp only at s);go_simp;try with_reducible rfl
   try simp only[Act.put,sA,sB,sC]
   refine bM (v:=?v101x5) At.z.f (by kernel_rfl) (fun _ _ _ h=>h) rfl ?h101x5 u ?_
   case h101x5=>intro _ s;(try dsimp only at s);go_simp;try with_reducible rfl
   try simp only[Act.put,sA,sB,sC]
   have hD:=u.1;have E:=q.out.trans (hD.mono q.out.size);have m2:=Tryz.cG (.agg #[.int .i64 p.aI]);refine dX (i:=6) At.z.f.s (by kernel_rfl) (fun K Z=>?_);go_simp;refine (xG p.aI _ _ _ _ _ x.aA _ (KW.out _ E).1 aO aN.out.1).mono ?_;rintro e w3 ⟨vb,a9,rfl,r,a3,a0⟩;obtain⟨y,hy⟩:∃y,y=bO x.aA.length (.taking p.aI):=⟨_,rfl⟩;have HY:=aD (hy.trans HE.out);rw[← hy] at r ⊢;have C:=hD.trans (a0.mono hD.size);have F:=q.out.trans (C.mono q.out.size);have D:=KS.out _ C;have A:w.heap.size<=a9:=Nat.le_trans E.size a3;obtain⟨fb,Nb,cb,rfl,-⟩:=id r;refine Z.out _ _ D ?_;clear Z K a0 u hD E hy m2
   try simp only[Act.put,sA,sB,sC]
   refine nW (i:=7) (v:=?vv101x7) At.z.f.s.s (by kernel_rfl) (by kernel_rfl) (by kernel_rfl) (by kernel_rfl) (fun _ _ _ h=>h) rfl ?hy101x7 D ?rest101x7
   case hy101x7=>(intro w' aE; (try dsimp only at aE); go_simp; try with_reducible rfl)
   try simp only[Act.put,sA,sB,sC]
   have a:=dP HR.out F;have t0:=a.cell (i:=k*5) (by omega);have t1:=a.cell (i:=k*5+1) (by omega);have t2:=a.cell (i:=k*5+2) (by omega);have t3:=a.cell (i:=k*5+3) (by omega);have t4:=a.cell (i:=k*5+4) (by omega);have z0:=a.frozen (k*5);have z1:=a.frozen (k*5+1);have z2:=a.frozen (k*5+2);have z3:=a.frozen (k*5+3);have z4:=a.frozen (k*5+4);have HH:=aD (b1.out _ _ (pF (i:=k) (b:=bb k) HR.out F r A));clear r F a3 A C a D;refine iQ (m:=8) At.z.f.s.s.s (by kernel_rfl) (by kernel_rfl) (fun K Z=>?_);go_simp;refine Z.out _ _ ?_;clear Z K t0 t1 t2 t3 t4 z0 z1 z2 z3 z4;go_wp2;go_ret;rw[aU.out,← HY.out];exact⟨rfl,HH.out⟩
  | false=>
   have HE:Hid (bO x.aA.length .idle=iO p.aI d.aH x h):=by
    unfold iO;rw[hnb,Bool.and_false,if_neg (by decide),b0.out];rfl
   clear a8 hnb
   go_wp2_with fail
   have a1:∀W,Below V.heap.size V W->Below V.heap.size V W∧W.cell? ⟨w.heap.size+1,3,none⟩=some (.slice (some ⟨bw,0,none⟩) d.aB.length q3)∧W.cell? ⟨w.heap.size+1+1,1,none⟩=some (.int .i64 (k:Int)) ∧
        (W.cell? ⟨o.heap.size+1,0,none⟩=some (.slice G x.aA.length M)∧W.cell? ⟨o.heap.size+1,1,none⟩=some (.slice H x.aQ.length O)∧W.cell? ⟨o.heap.size+1,2,none⟩=some (.slice I x.aJ.length R)∧W.cell? ⟨o.heap.size+1,3,none⟩=some (.slice J x.over.length T)∧W.cell? ⟨o.heap.size+1,4,none⟩=some (.slice L x.aW.length U)):=fun W X=>by
    have hT:=T4.call X;have hY:=TY.call X;rw[← a6];exact⟨X,hT.c 1 3 rfl rfl,hT.c 2 1 rfl rfl,hY.c 0 0 rfl rfl,hY.c 0 1 rfl rfl,hY.c 0 2 rfl rfl,hY.c 0 3 rfl rfl,hY.c 0 4 rfl rfl⟩
   have KS:=aD a1;have q:=aD T4.below;clear a1;clear T4 TY a6
   refine mV (S:=fun W=>Below V.heap.size V W∧W.cell? ⟨w.heap.size+1,3,none⟩=some (.slice (some ⟨bw,0,none⟩) d.aB.length q3)∧W.cell? ⟨w.heap.size+1+1,1,none⟩=some (.int .i64 (k:Int)) ∧
        (W.cell? ⟨o.heap.size+1,0,none⟩=some (.slice G x.aA.length M)∧W.cell? ⟨o.heap.size+1,1,none⟩=some (.slice H x.aQ.length O)∧W.cell? ⟨o.heap.size+1,2,none⟩=some (.slice I x.aJ.length R)∧W.cell? ⟨o.heap.size+1,3,none⟩=some (.slice J x.over.length T)∧W.cell? ⟨o.heap.size+1,4,none⟩=some (.slice L x.aW.length U))) 8 (by kernel_rfl) (KS.out _ (cT _)) (fun u=>?_)
   refine bM (v:=?v102x0) At.z (by kernel_rfl) (fun _ _ _ h=>h) rfl ?h102x0 u ?_
   case h102x0=>intro _ s;(try dsimp only at s);go_simp;try with_reducible rfl
   try simp only[Act.put,sA,sB,sC]
   refine bM (v:=?v102x1) At.z.s (by kernel_rfl) (fun _ _ _ h=>h) rfl ?h102x1 u ?_
   case h102x1=>intro _ s;(try dsimp only at s);go_simp;try with_reducible rfl
   try simp only[Act.put,sA,sB,sC]
   refine bM (v:=?v102x2) At.z.s.s (by kernel_rfl) (fun _ _ _ h=>h) rfl ?h102x2 u ?_
   case h102x2=>intro _ s;(try dsimp only at s);go_simp;try with_reducible rfl
   try simp only[Act.put,sA,sB,sC]
   refine bM (v:=?v102x3) At.z.s.s.s (by kernel_rfl) (fun _ _ _ h=>h) rfl ?h102x3 u ?_
   case h102x3=>intro _ s;(try dsimp only at s);go_simp;try with_reducible rfl
   try simp only[Act.put,sA,sB,sC]
   refine bM (v:=?v102x4) At.z.s.s.s.s (by kernel_rfl) (fun _ _ _ h=>h) rfl ?h102x4 u ?_
   case h102x4=>intro _ s;(try dsimp only at s);go_simp;try with_reducible rfl
   try simp only[Act.put,sA,sB,sC]
   refine bM (v:=?v102x5) At.z.f (by kernel_rfl) (fun _ _ _ h=>h) rfl ?h102x5 u ?_
   case h102x5=>intro _ s;(try dsimp only at s);go_simp;try with_reducible rfl
   try simp only[Act.put,sA,sB,sC]
   have hD:=u.1;have E:=q.out.trans (hD.mono q.out.size);have m2:=Tryz.cH (.agg #[]);refine dX (i:=6) At.z.f.s (by kernel_rfl) (fun K Z=>?_);go_simp;refine (uW _ _ _ _ _ x.aA _ (KW.out _ E).1 aO aN.out.1).mono ?_;rintro e w3 ⟨vb,a9,rfl,r,a3,a0⟩;obtain⟨y,hy⟩:∃y,y=bO x.aA.length (.idle):=⟨_,rfl⟩;have HY:=aD (hy.trans HE.out);rw[← hy] at r ⊢;have C:=hD.trans (a0.mono hD.size);have F:=q.out.trans (C.mono q.out.size);have D:=KS.out _ C;have A:w.heap.size<=a9:=Nat.le_trans E.size a3;obtain⟨fb,Nb,cb,rfl,-⟩:=id r;refine Z.out _ _ D ?_;clear Z K a0 u hD E hy m2
   try simp only[Act.put,sA,sB,sC]
   refine nW (i:=7) (v:=?vv102x7) At.z.f.s.s (by kernel_rfl) (by kernel_rfl) (by kernel_rfl) (by kernel_rfl) (fun _ _ _ h=>h) rfl ?hy102x7 D ?rest102x7
   case hy102x7=>(intro w' aE; (try dsimp only at aE); go_simp; try with_reducible rfl)
   try simp only[Act.put,sA,sB,sC]
   have a:=dP HR.out F;have t0:=a.cell (i:=k*5) (by omega);have t1:=a.cell (i:=k*5+1) (by omega);have t2:=a.cell (i:=k*5+2) (by omega);have t3:=a.cell (i:=k*5+3) (by omega);have t4:=a.cell (i:=k*5+4) (by omega);have z0:=a.frozen (k*5);have z1:=a.frozen (k*5+1);have z2:=a.frozen (k*5+2);have z3:=a.frozen (k*5+3);have z4:=a.frozen (k*5+4);have HH:=aD (b1.out _ _ (pF (i:=k) (b:=bb k) HR.out F r A));clear r F a3 A C a D;refine iQ (m:=8) At.z.f.s.s.s (by kernel_rfl) (by kernel_rfl) (fun K Z=>?_);go_simp;refine Z.out _ _ ?_;clear Z K t0 t1 t2 t3 t4 z0 z1 z2 z3 z4;go_wp2;go_ret;rw[aU.out,← HY.out];exact⟨rfl,HH.out⟩
 | set b=>
  cases b with
  | true=>
   simp only[dO];have ta:=Tryz.dY (.agg #[.bool true])
   have B:h.state=1:=by rw[← a5.out.2]; rfl
   have a8:h.aR=true:=by rw[← a5.out.2]; rfl
   have aU:=aD (show cO p d 2 (k:Int) 0=(0,{ d with aB:=d.aB.set k (iO p.aI d.aH x h) }) by rw[aZ.out]; unfold jP; rw[if_pos (by rw[B]; decide)]);have Y:=T1.call (bC o (.cells #[.bool true] 185))
   have a6:(o.alloc (.cells #[.bool true] 185)).heap.size=o.heap.size+1:=by simp
   have aS:=Y.c 0 2 rfl rfl;have b2:=Y.c 2 1 rfl rfl;rw[Nat.add_zero] at aS;have b5:=bP HG.out.1 Y.below;have b6:=bP HG.out.2.1 Y.below;have b7:=bP HG.out.2.2.1 Y.below;have b8:=bP HG.out.2.2.2.1 Y.below;have b9:=bP HG.out.2.2.2.2 Y.below;have Tb:=Y.call (bC (o.alloc (.cells #[.bool true] 185)) (.cells #[.slice G x.aA.length M,.slice H x.aQ.length O,.slice I x.aJ.length R,.slice J x.over.length T,.slice L x.aW.length U] 51));have TY:=cZ (o.alloc (.cells #[.bool true] 185)) 51 #[.slice G x.aA.length M,.slice H x.aQ.length O,.slice I x.aJ.length R,.slice J x.over.length T,.slice L x.aW.length U];have bE:=Tb.c 1 0 rfl rfl;have bF:=Tb.c 1 1 rfl rfl;have bG:=Tb.c 1 2 rfl rfl;have bH:=Tb.c 1 3 rfl rfl;clear B
   go_wp2_with fail
   refine (yK _ _ _ _ _ d.aH x.aW _ (KF.out _ Tb.below).1 (KW.out _ Tb.below).2.2.2.2 (by have:=aN.out.2.2.2.2; omega) bS bA.out).mono ?_;rintro e V ⟨rfl,aY⟩;rw[DZ d.aH x bA.out];have T4:=Tb.call aY;replace TY:=TY.call aY;clear aS b2 b5 b6 b7 b8 b9 bE bF bG bH Y Tb T1 aY
   cases hnb:vE d.aH x with
   | true=>
    have HE:Hid (bO x.aA.length (.taking p.aI)=iO p.aI d.aH x h):=by
     unfold iO;rw[a8,hnb,if_pos (show (true&&true)=true from rfl),← a5.out.2];rfl
    clear a8 hnb;have ph:=T4.c 0 4 rfl rfl;rw[Nat.add_zero] at ph
    go_wp2_with fail
    have a1:∀W,Below V.heap.size V W->Below V.heap.size V W∧W.cell? ⟨w.heap.size+1,3,none⟩=some (.slice (some ⟨bw,0,none⟩) d.aB.length q3)∧W.cell? ⟨w.heap.size+1+1,1,none⟩=some (.int .i64 (k:Int)) ∧
         (W.cell? ⟨o.heap.size+1,0,none⟩=some (.slice G x.aA.length M)∧W.cell? ⟨o.heap.size+1,1,none⟩=some (.slice H x.aQ.length O)∧W.cell? ⟨o.heap.size+1,2,none⟩=some (.slice I x.aJ.length R)∧W.cell? ⟨o.heap.size+1,3,none⟩=some (.slice J x.over.length T)∧W.cell? ⟨o.heap.size+1,4,none⟩=some (.slice L x.aW.length U)):=fun W X=>by
     have hT:=T4.call X;have hY:=TY.call X;rw[← a6];exact⟨X,hT.c 1 3 rfl rfl,hT.c 2 1 rfl rfl,hY.c 0 0 rfl rfl,hY.c 0 1 rfl rfl,hY.c 0 2 rfl rfl,hY.c 0 3 rfl rfl,hY.c 0 4 rfl rfl⟩
    have KS:=aD a1;have q:=aD T4.below;clear a1;clear T4 TY a6 ph
    refine mV (S:=fun W=>Below V.heap.size V W∧W.cell? ⟨w.heap.size+1,3,none⟩=some (.slice (some ⟨bw,0,none⟩) d.aB.length q3)∧W.cell? ⟨w.heap.size+1+1,1,none⟩=some (.int .i64 (k:Int)) ∧
         (W.cell? ⟨o.heap.size+1,0,none⟩=some (.slice G x.aA.length M)∧W.cell? ⟨o.heap.size+1,1,none⟩=some (.slice H x.aQ.length O)∧W.cell? ⟨o.heap.size+1,2,none⟩=some (.slice I x.aJ.length R)∧W.cell? ⟨o.heap.size+1,3,none⟩=some (.slice J x.over.length T)∧W.cell? ⟨o.heap.size+1,4,none⟩=some (.slice L x.aW.length U))) 8 (by kernel_rfl) (KS.out _ (cT _)) (fun u=>?_)
    refine bM (v:=?v103x0) At.z (by kernel_rfl) (fun _ _ _ h=>h) rfl ?h103x0 u ?_
    case h103x0=>intro _ s;(try dsimp only at s);go_simp;try with_reducible rfl
    try simp only[Act.put,sA,sB,sC]
    refine bM (v:=?v103x1) At.z.s (by kernel_rfl) (fun _ _ _ h=>h) rfl ?h103x1 u ?_
    case h103x1=>intro _ s;(try dsimp only at s);go_simp;try with_reducible rfl
    try simp only[Act.put,sA,sB,sC]
    refine bM (v:=?v103x2) At.z.s.s (by kernel_rfl) (fun _ _ _ h=>h) rfl ?h103x2 u ?_
    case h103x2=>intro _ s;(try dsimp only at s);go_simp;try with_reducible rfl
    try simp only[Act.put,sA,sB,sC]
    refine bM (v:=?v103x3) At.z.s.s.s (by kernel_rfl) (fun _ _ _ h=>h) rfl ?h103x3 u ?_
    case h103x3=>intro _ s;(try dsimp only at s);go_simp;try with_reducible rfl
    try simp only[Act.put,sA,sB,sC]
    refine bM (v:=?v103x4) At.z.s.s.s.s (by kernel_rfl) (fun _ _ _ h=>h) rfl ?h103x4 u ?_
    case h103x4=>intro _ s;(try dsimp only at s);go_simp;try with_reducible rfl
    try simp only[Act.put,sA,sB,sC]
    refine bM (v:=?v103x5) At.z.f (by kernel_rfl) (fun _ _ _ h=>h) rfl ?h103x5 u ?_
    case h103x5=>intro _ s;(try dsimp only at s);go_simp;try with_reducible rfl
    try simp only[Act.put,sA,sB,sC]
    have hD:=u.1;have E:=q.out.trans (hD.mono q.out.size);have m2:=Tryz.cG (.agg #[.int .i64 p.aI]);refine dX (i:=6) At.z.f.s (by kernel_rfl) (fun K Z=>?_);go_simp;refine (xG p.aI _ _ _ _ _ x.aA _ (KW.out _ E).1 aO aN.out.1).mono ?_;rintro e w3 ⟨vb,a9,rfl,r,a3,a0⟩;obtain⟨y,hy⟩:∃y,y=bO x.aA.length (.taking p.aI):=⟨_,rfl⟩;have HY:=aD (hy.trans HE.out);rw[← hy] at r ⊢;have C:=hD.trans (a0.mono hD.size);have F:=q.out.trans (C.mono q.out.size);have D:=KS.out _ C;have A:w.heap.size<=a9:=Nat.le_trans E.size a3;obtain⟨fb,Nb,cb,rfl,-⟩:=id r;refine Z.out _ _ D ?_;clear Z K a0 u hD E hy m2
    try simp only[Act.put,sA,sB,sC]
    refine nW (i:=7) (v:=?vv103x7) At.z.f.s.s (by kernel_rfl) (by kernel_rfl) (by kernel_rfl) (by kernel_rfl) (fun _ _ _ h=>h) rfl ?hy103x7 D ?rest103x7
    case hy103x7=>(intro w' aE; (try dsimp only at aE); go_simp; try with_reducible rfl)
    try simp only[Act.put,sA,sB,sC]
    have a:=dP HR.out F;have t0:=a.cell (i:=k*5) (by omega);have t1:=a.cell (i:=k*5+1) (by omega);have t2:=a.cell (i:=k*5+2) (by omega);have t3:=a.cell (i:=k*5+3) (by omega);have t4:=a.cell (i:=k*5+4) (by omega);have z0:=a.frozen (k*5);have z1:=a.frozen (k*5+1);have z2:=a.frozen (k*5+2);have z3:=a.frozen (k*5+3);have z4:=a.frozen (k*5+4);have HH:=aD (b1.out _ _ (pF (i:=k) (b:=bb k) HR.out F r A));clear r F a3 A C a D;refine iQ (m:=8) At.z.f.s.s.s (by kernel_rfl) (by kernel_rfl) (fun K Z=>?_);go_simp;refine Z.out _ _ ?_;clear Z K t0 t1 t2 t3 t4 z0 z1 z2 z3 z4;go_wp2;go_ret;rw[aU.out,← HY.out];exact⟨rfl,HH.out⟩
   | false=>
    have HE:Hid (bO x.aA.length .idle=iO p.aI d.aH x h):=by
     unfold iO;rw[hnb,Bool.and_false,if_neg (by decide),b0.out];rfl
    clear a8 hnb
    go_wp2_with fail
    have a1:∀W,Below V.heap.size V W->Below V.heap.size V W∧W.cell? ⟨w.heap.size+1,3,none⟩=some (.slice (some ⟨bw,0,none⟩) d.aB.length q3)∧W.cell? ⟨w.heap.size+1+1,1,none⟩=some (.int .i64 (k:Int)) ∧
         (W.cell? ⟨o.heap.size+1,0,none⟩=some (.slice G x.aA.length M)∧W.cell? ⟨o.heap.size+1,1,none⟩=some (.slice H x.aQ.length O)∧W.cell? ⟨o.heap.size+1,2,none⟩=some (.slice I x.aJ.length R)∧W.cell? ⟨o.heap.size+1,3,none⟩=some (.slice J x.over.length T)∧W.cell? ⟨o.heap.size+1,4,none⟩=some (.slice L x.aW.length U)):=fun W X=>by
     have hT:=T4.call X;have hY:=TY.call X;rw[← a6];exact⟨X,hT.c 1 3 rfl rfl,hT.c 2 1 rfl rfl,hY.c 0 0 rfl rfl,hY.c 0 1 rfl rfl,hY.c 0 2 rfl rfl,hY.c 0 3 rfl rfl,hY.c 0 4 rfl rfl⟩
    have KS:=aD a1;have q:=aD T4.below;clear a1;clear T4 TY a6
    refine mV (S:=fun W=>Below V.heap.size V W∧W.cell? ⟨w.heap.size+1,3,none⟩=some (.slice (some ⟨bw,0,none⟩) d.aB.length q3)∧W.cell? ⟨w.heap.size+1+1,1,none⟩=some (.int .i64 (k:Int)) ∧
         (W.cell? ⟨o.heap.size+1,0,none⟩=some (.slice G x.aA.length M)∧W.cell? ⟨o.heap.size+1,1,none⟩=some (.slice H x.aQ.length O)∧W.cell? ⟨o.heap.size+1,2,none⟩=some (.slice I x.aJ.length R)∧W.cell? ⟨o.heap.size+1,3,none⟩=some (.slice J x.over.length T)∧W.cell? ⟨o.heap.size+1,4,none⟩=some (.slice L x.aW.length U))) 8 (by kernel_rfl) (KS.out _ (cT _)) (fun u=>?_)
    refine bM (v:=?v104x0) At.z (by kernel_rfl) (fun _ _ _ h=>h) rfl ?h104x0 u ?_
    case h104x0=>intro _ s;(try dsimp only at s);go_simp;try with_reducible rfl
    try simp only[Act.put,sA,sB,sC]
    refine bM (v:=?v104x1) At.z.s (by kernel_rfl) (fun _ _ _ h=>h) rfl ?h104x1 u ?_
    case h104x1=>intro _ s;(try dsimp only at s);go_simp;try with_reducible rfl
    try simp only[Act.put,sA,sB,sC]
    refine bM (v:=?v104x2) At.z.s.s (by kernel_rfl) (fun _ _ _ h=>h) rfl ?h104x2 u ?_
    case h104x2=>intro _ s;(try dsimp only at s);go_simp;try with_reducible rfl
    try simp only[Act.put,sA,sB,sC]
    refine bM (v:=?v104x3) At.z.s.s.s (by kernel_rfl) (fun _ _ _ h=>h) rfl ?h104x3 u ?_
    case h104x3=>intro _ s;(try dsimp only at s);go_simp;try with_reducible rfl
    try simp only[Act.put,sA,sB,sC]
    refine bM (v:=?v104x4) At.z.s.s.s.s (by kernel_rfl) (fun _ _ _ h=>h) rfl ?h104x4 u ?_
    case h104x4=>intro _ s;(try dsimp only at s);go_simp;try with_reducible rfl
    try simp only[Act.put,sA,sB,sC]
    refine bM (v:=?v104x5) At.z.f (by kernel_rfl) (fun _ _ _ h=>h) rfl ?h104x5 u ?_
    case h104x5=>intro _ s;(try dsimp only at s);go_simp;try with_reducible rfl
    try simp only[Act.put,sA,sB,sC]
    have hD:=u.1;have E:=q.out.trans (hD.mono q.out.size);have m2:=Tryz.cH (.agg #[]);refine dX (i:=6) At.z.f.s (by kernel_rfl) (fun K Z=>?_);go_simp;refine (uW _ _ _ _ _ x.aA _ (KW.out _ E).1 aO aN.out.1).mono ?_;rintro e w3 ⟨vb,a9,rfl,r,a3,a0⟩;obtain⟨y,hy⟩:∃y,y=bO x.aA.length (.idle):=⟨_,rfl⟩;have HY:=aD (hy.trans HE.out);rw[← hy] at r ⊢;have C:=hD.trans (a0.mono hD.size);have F:=q.out.trans (C.mono q.out.size);have D:=KS.out _ C;have A:w.heap.size<=a9:=Nat.le_trans E.size a3;obtain⟨fb,Nb,cb,rfl,-⟩:=id r;refine Z.out _ _ D ?_;clear Z K a0 u hD E hy m2
    try simp only[Act.put,sA,sB,sC]
    refine nW (i:=7) (v:=?vv104x7) At.z.f.s.s (by kernel_rfl) (by kernel_rfl) (by kernel_rfl) (by kernel_rfl) (fun _ _ _ h=>h) rfl ?hy104x7 D ?rest104x7
    case hy104x7=>(intro w' aE; (try dsimp only at aE); go_simp; try with_reducible rfl)
    try simp only[Act.put,sA,sB,sC]
    have a:=dP HR.out F;have t0:=a.cell (i:=k*5) (by omega);have t1:=a.cell (i:=k*5+1) (by omega);have t2:=a.cell (i:=k*5+2) (by omega);have t3:=a.cell (i:=k*5+3) (by omega);have t4:=a.cell (i:=k*5+4) (by omega);have z0:=a.frozen (k*5);have z1:=a.frozen (k*5+1);have z2:=a.frozen (k*5+2);have z3:=a.frozen (k*5+3);have z4:=a.frozen (k*5+4);have HH:=aD (b1.out _ _ (pF (i:=k) (b:=bb k) HR.out F r A));clear r F a3 A C a D;refine iQ (m:=8) At.z.f.s.s.s (by kernel_rfl) (by kernel_rfl) (fun K Z=>?_);go_simp;refine Z.out _ _ ?_;clear Z K t0 t1 t2 t3 t4 z0 z1 z2 z3 z4;go_wp2;go_ret;rw[aU.out,← HY.out];exact⟨rfl,HH.out⟩
  | false=>
   simp only[dO];have ta:=Tryz.dY (.agg #[.bool false])
   have B:h.state=1:=by rw[← a5.out.2]; rfl
   have a8:h.aR=false:=by rw[← a5.out.2]; rfl
   have aU:=aD (show cO p d 2 (k:Int) 0=(0,{ d with aB:=d.aB.set k (iO p.aI d.aH x h) }) by rw[aZ.out]; unfold jP; rw[if_pos (by rw[B]; decide)]);have Y:=T1.call (bC o (.cells #[.bool false] 185))
   have a6:(o.alloc (.cells #[.bool false] 185)).heap.size=o.heap.size+1:=by simp
   have aS:=Y.c 0 2 rfl rfl;have b2:=Y.c 2 1 rfl rfl;rw[Nat.add_zero] at aS;have b5:=bP HG.out.1 Y.below;have b6:=bP HG.out.2.1 Y.below;have b7:=bP HG.out.2.2.1 Y.below;have b8:=bP HG.out.2.2.2.1 Y.below;have b9:=bP HG.out.2.2.2.2 Y.below;have Tb:=Y.call (bC (o.alloc (.cells #[.bool false] 185)) (.cells #[.slice G x.aA.length M,.slice H x.aQ.length O,.slice I x.aJ.length R,.slice J x.over.length T,.slice L x.aW.length U] 51));have TY:=cZ (o.alloc (.cells #[.bool false] 185)) 51 #[.slice G x.aA.length M,.slice H x.aQ.length O,.slice I x.aJ.length R,.slice J x.over.length T,.slice L x.aW.length U]
   have HE:Hid (bO x.aA.length .idle=iO p.aI d.aH x h):=by
    unfold iO;rw[a8,Bool.false_and,if_neg (by decide),b0.out];rfl
   clear B a8
   go_wp2_with fail
   obtain⟨V,bJ⟩:∃V,V=(o.alloc (.cells #[.bool false] 185)).alloc (.cells #[.slice G x.aA.length M,.slice H x.aQ.length O,.slice I x.aJ.length R,.slice J x.over.length T,.slice L x.aW.length U] 51):=⟨_,rfl⟩;rw[← bJ] at Tb TY ⊢
   have a1:∀W,Below V.heap.size V W->Below V.heap.size V W∧W.cell? ⟨w.heap.size+1,3,none⟩=some (.slice (some ⟨bw,0,none⟩) d.aB.length q3)∧W.cell? ⟨w.heap.size+1+1,1,none⟩=some (.int .i64 (k:Int)) ∧
        (W.cell? ⟨o.heap.size+1,0,none⟩=some (.slice G x.aA.length M)∧W.cell? ⟨o.heap.size+1,1,none⟩=some (.slice H x.aQ.length O)∧W.cell? ⟨o.heap.size+1,2,none⟩=some (.slice I x.aJ.length R)∧W.cell? ⟨o.heap.size+1,3,none⟩=some (.slice J x.over.length T)∧W.cell? ⟨o.heap.size+1,4,none⟩=some (.slice L x.aW.length U)):=fun W X=>by
    have hT:=Tb.call X;have hY:=TY.call X;rw[← a6];exact⟨X,hT.c 1 3 rfl rfl,hT.c 2 1 rfl rfl,hY.c 0 0 rfl rfl,hY.c 0 1 rfl rfl,hY.c 0 2 rfl rfl,hY.c 0 3 rfl rfl,hY.c 0 4 rfl rfl⟩
   have KS:=aD a1;have q:=aD Tb.below;clear a1;clear Tb TY Y T1 aS b2 b5 b6 b7 b8 b9 bJ a6
   refine mV (S:=fun W=>Below V.heap.size V W∧W.cell? ⟨w.heap.size+1,3,none⟩=some (.slice (some ⟨bw,0,none⟩) d.aB.length q3)∧W.cell? ⟨w.heap.size+1+1,1,none⟩=some (.int .i64 (k:Int)) ∧
        (W.cell? ⟨o.heap.size+1,0,none⟩=some (.slice G x.aA.length M)∧W.cell? ⟨o.heap.size+1,1,none⟩=some (.slice H x.aQ.length O)∧W.cell? ⟨o.heap.size+1,2,none⟩=some (.slice I x.aJ.length R)∧W.cell? ⟨o.heap.size+1,3,none⟩=some (.slice J x.over.length T)∧W.cell? ⟨o.heap.size+1,4,none⟩=some (.slice L x.aW.length U))) 8 (by kernel_rfl) (KS.out _ (cT _)) (fun u=>?_)
   refine bM (v:=?v105x0) At.z (by kernel_rfl) (fun _ _ _ h=>h) rfl ?h105x0 u ?_
   case h105x0=>intro _ s;(try dsimp only at s);go_simp;try with_reducible rfl
   try simp only[Act.put,sA,sB,sC]
   refine bM (v:=?v105x1) At.z.s (by kernel_rfl) (fun _ _ _ h=>h) rfl ?h105x1 u ?_
   case h105x1=>intro _ s;(try dsimp only at s);go_simp;try with_reducible rfl
   try simp only[Act.put,sA,sB,sC]
   refine bM (v:=?v105x2) At.z.s.s (by kernel_rfl) (fun _ _ _ h=>h) rfl ?h105x2 u ?_
   case h105x2=>intro _ s;(try dsimp only at s);go_simp;try with_reducible rfl
   try simp only[Act.put,sA,sB,sC]
   refine bM (v:=?v105x3) At.z.s.s.s (by kernel_rfl) (fun _ _ _ h=>h) rfl ?h105x3 u ?_
   case h105x3=>intro _ s;(try dsimp only at s);go_simp;try with_reducible rfl
   try simp only[Act.put,sA,sB,sC]
   refine bM (v:=?v105x4) At.z.s.s.s.s (by kernel_rfl) (fun _ _ _ h=>h) rfl ?h105x4 u ?_
   case h105x4=>intro _ s;(try dsimp only at s);go_simp;try with_reducible rfl
   try simp only[Act.put,sA,sB,sC]
   refine bM (v:=?v105x5) At.z.f (by kernel_rfl) (fun _ _ _ h=>h) rfl ?h105x5 u ?_
   case h105x5=>intro _ s;(try dsimp only at s);go_simp;try with_reducible rfl
   try simp only[Act.put,sA,sB,sC]
   have hD:=u.1;have E:=q.out.trans (hD.mono q.out.size);have m2:=Tryz.cH (.agg #[]);refine dX (i:=6) At.z.f.s (by kernel_rfl) (fun K Z=>?_);go_simp;refine (uW _ _ _ _ _ x.aA _ (KW.out _ E).1 aO aN.out.1).mono ?_;rintro e w3 ⟨vb,a9,rfl,r,a3,a0⟩;obtain⟨y,hy⟩:∃y,y=bO x.aA.length (.idle):=⟨_,rfl⟩;have HY:=aD (hy.trans HE.out);rw[← hy] at r ⊢;have C:=hD.trans (a0.mono hD.size);have F:=q.out.trans (C.mono q.out.size);have D:=KS.out _ C;have A:w.heap.size<=a9:=Nat.le_trans E.size a3;obtain⟨fb,Nb,cb,rfl,-⟩:=id r;refine Z.out _ _ D ?_;clear Z K a0 u hD E hy m2
   try simp only[Act.put,sA,sB,sC]
   refine nW (i:=7) (v:=?vv105x7) At.z.f.s.s (by kernel_rfl) (by kernel_rfl) (by kernel_rfl) (by kernel_rfl) (fun _ _ _ h=>h) rfl ?hy105x7 D ?rest105x7
   case hy105x7=>(intro w' aE; (try dsimp only at aE); go_simp; try with_reducible rfl)
   try simp only[Act.put,sA,sB,sC]
   have a:=dP HR.out F;have t0:=a.cell (i:=k*5) (by omega);have t1:=a.cell (i:=k*5+1) (by omega);have t2:=a.cell (i:=k*5+2) (by omega);have t3:=a.cell (i:=k*5+3) (by omega);have t4:=a.cell (i:=k*5+4) (by omega);have z0:=a.frozen (k*5);have z1:=a.frozen (k*5+1);have z2:=a.frozen (k*5+2);have z3:=a.frozen (k*5+3);have z4:=a.frozen (k*5+4);have HH:=aD (b1.out _ _ (pF (i:=k) (b:=bb k) HR.out F r A));clear r F a3 A C a D;refine iQ (m:=8) At.z.f.s.s.s (by kernel_rfl) (by kernel_rfl) (fun K Z=>?_);go_simp;refine Z.out _ _ ?_;clear Z K t0 t1 t2 t3 t4 z0 z1 z2 z3 z4;go_wp2;go_ret;rw[aU.out,← HY.out];exact⟨rfl,HH.out⟩
end Go.Proofs.YtdhinkgjiapigaaGreatDoor

import Derived.Test.YtdhinkgjiapigaaGreatDoorDoI4
import Derived.Test.YtdhinkgjiapigaaGreatDoorWhyW
namespace Go.Proofs.YtdhinkgjiapigaaGreatDoor
open Classical Go.Deep Go.RowKit
set_option maxRecDepth 100000 in
set_option maxHeartbeats 8000000 in
theorem zqt (P Q:Nat->Prop) (p1 p2 p3 v1 v2 v3:Value) (p:aK) (d:aF) (k:Nat) (x:aT) (h:aM) (bo O n:Nat) (bb:Nat->Nat) (w:World)
  (cK:aZ (In w) w p1 p2 p3 p) (cR:cE (In w) w p2 p.aB) (hp:eY Q w p2 p.aB) (hQ:∀c,Q c->c<w.heap.size∧¬P c) (hf:aP P w v1 v2 v3 d bo O n bb) (hx:p.aB[k]?=some x) (hh:d.aB[k]?=some h) (cA:h.state=0->h=bO x.aA.length .idle) (cN:x.Small 30) (cL:0<x.aA.length)
  (hy:∀y,(y∈x.aQ∨y∈x.aJ)->0<=y.1∧y.1<d.aC.length) (hs:p.Small 1048576) (hd:d.Small 1048576) (hR:cJ p d) (bT:∀c,P c->c<w.heap.size) :
  Calls Tryz.prog 162 #[.agg #[.int .i64 p.aA,p1,p2,p3,.int .i64 p.aI],.agg #[.bool d.ok,v1,v2,v3],.agg #[.int .i64 1,.int .i64 (k:Int),.int .i64 0]] w fun e w'=>kD P w v1 v2 v3 bo O n (cO p d 1 (k:Int) 0) e w':=by
 have dH:k<p.aB.length:=(List.getElem?_eq_some_iff.1 hx).1;have cD:k<d.aB.length:=(List.getElem?_eq_some_iff.1 hh).1;obtain⟨a2,k2,rfl,aE⟩:=id hp;obtain h0 | ⟨bq,oq,rfl,e3,aE⟩:=aE
 ·omega
 obtain⟨u0,u1,u2,u3,u4,g,g0,g1,g2,g3,g4⟩:=aE k dH x hx;obtain⟨J,R,rfl⟩:=g.1.size;obtain⟨t,A,rfl⟩:=g.2.1.size;obtain⟨u,B,rfl⟩:=g.2.2.1.size;obtain⟨L,T,rfl⟩:=g.2.2.2.1.size;obtain⟨M,U,rfl⟩:=g.2.2.2.2.size;obtain⟨q3,f,N,rfl,hr,dG,ho⟩:=hf.aB.cells hh;obtain⟨e2,N1,q1,rfl,-⟩:=id hf.aH;obtain⟨a4,q2,rfl,-⟩:=id hf.aC;obtain⟨dS,t0,t1,t2,t3,t4,-,-⟩:=ho.cells hr dG;have T0:=iE w 27 40 55 #[.int .i64 p.aA,p1,.slice (some ⟨bq,oq,none⟩) p.aB.length k2,p3,.int .i64 p.aI] #[.bool d.ok,.slice (some ⟨bo,0,none⟩) d.aH.length q1,.slice a4 d.aC.length q2,.slice (some ⟨n,0,none⟩) d.aB.length q3] #[.int .i64 1,.int .i64 (k:Int),.int .i64 0];have cS:cC (In w) w (.slice J x.aA.length R) (.slice t x.aQ.length A) (.slice u x.aJ.length B) (.slice L x.over.length T) (.slice M x.aW.length U) x:=g.keep (hU _ _) fun c hc=>(hQ c hc).1;have c8:=(hf.bound (Q:=In w) fun _ _ z=>z).read;have KW:=aD fun (W:World) (r:Below w.heap.size w W)=>cS.keep (Q:=In W) (In.keep r).1 (In.keep r).2;have KF:=aD fun (W:World) (r:Below w.heap.size w W)=>c8.keep (Q:=In W) (In.keep r).1 (In.keep r).2;have KO:=aD fun (W:World) (r:Below w.heap.size w W)=>hf.but (K:=fun _=>True) (Q:=P) (But.aG r) (fun _ _=>trivial) fun _ z=>z
 have cP:∀W' y,aX w W' n N k f (bb k) y->∃E,aP (fun c=>P c∨New w W' c) W' (.slice (some ⟨bo,0,none⟩) d.aH.length q1) (.slice a4 d.aC.length q2) (.slice (some ⟨n,0,none⟩) d.aB.length q3) { d with aB:=d.aB.set k y } bo O n E∧But (fun c=>¬P c) w W':=fun W' y hs=>by
  obtain⟨E,h1,h2⟩:=hf.step (Q:=fun c=>P c∨New w W' c) cD (x:=y) (w':=W') (fun f' N' dJ _ _=>hs.from hr dJ) (fun _ z=>.inl z) (fun b h1 h2=>.inr ⟨h1,h2⟩);exact⟨E,h1,h2.mono fun c _ hc=>⟨fun e=>hc (e ▸ hf.pw (by omega)),fun e=>hc (e ▸ hf.pb k cD)⟩⟩
 have dA:=aD cP;have HR:=aD hr;have d2:=aD cA;have b3:=aD cN;have bL:=aD hy;have d9:=aD hf.pp;have bJ:=aD g;have bI:=aD hQ;have d8:=aD bT;have KP:=aD fun (W:World) (r:Below w.heap.size w W)=>cK.keep (Q:=In W) (In.keep r).1 (In.keep r).2;have KC:=aD fun (W:World) (r:Below w.heap.size w W)=>cR.keep (Q:=In W) (In.keep r).1 (In.keep r).2;have b2:=aD (And.intro hs (And.intro hd hR));have bK:=aD (And.intro hx hh);have eB:p.aB.length<=1048576:=hs.2.1;have eC:d.aB.length<=1048576:=hd.2.2.1;have eD:d.aC.length<=1048576:=hd.2.1;have bE:=aD (show cO p d 1 (k:Int) 0=oN p d k x h by simp[cO,hx,hh]);have HG:=aD (And.intro g0 (And.intro g1 (And.intro g2 (And.intro g3 g4))))
 have e8:(k:Int)<(d.aB.length:Int):=by omega
 have e9:(k:Int)<(p.aB.length:Int):=by omega
 clear hp hf hx hh cA cN hy aE g g0 g1 g2 g3 g4 hr ho t0 t1 t2 t3 t4 cS c8 cP hs hd hR bT cK cR;have e0:=T0.c 1 0 rfl rfl;go_enter Tryz.func162,Tryz.ntmps162
 go_wp2_with fail
 refine (Hv _ _ _ _ _ _ p d k x h _ (KP.out _ T0.below) (KC.out _ T0.below) (KF.out _ T0.below) b2.out.1 b2.out.2.1 b2.out.2.2 bK.out.1 bK.out.2).mono ?_;rintro e F ⟨rfl,bX⟩;have T1:=T0.call bX;clear e0 bX T0;by_cases D:kQ p d k x h=0
 case neg=>
  have dI:(kQ p d k x h != 0)=true:=by simp[D]
  have HE:=aD (show cO p d 1 (k:Int) 0=(kQ p d k x h,d) by rw[bE.out]; unfold oN; rw[if_neg D]);clear D;obtain⟨cd,c0⟩:∃cd,cd=kQ p d k x h:=⟨_,rfl⟩;rw[← c0] at dI HE ⊢;clear c0;go_wp2;go_ret;exact kD.of HE.out (KO.out _ T1.below) (But.aG T1.below)
 have aY:h.state=0:=by
  have e:=D;unfold kQ pT at e;by_cases z:h.state=0
  ·exact z
  ·rw[if_pos (by simp[z])] at e
   cases e
 have c9:=d2.out aY
 have HE:Hid (cO p d 1 (k:Int) 0=(0,{ d with aC:=fZ d.aC (x.aQ++x.aJ),aB:=d.aB.set k (bO x.aA.length (.set false)) })):=by
  show cO p d 1 (k:Int) 0=_;rw[bE.out];unfold oN;rw[if_pos D,c9];rfl
 rw[D];clear D c9 aY;have cW:=T1.c 0 2 rfl rfl;have dD:=T1.c 2 1 rfl rfl;rw[Nat.add_zero] at cW;have dM:=bP HG.out.1 T1.below;have dN:=bP HG.out.2.1 T1.below;have dO:=bP HG.out.2.2.1 T1.below;have dQ:=bP HG.out.2.2.2.1 T1.below;have dR:=bP HG.out.2.2.2.2 T1.below;have Tb:=T1.call (bC F (.cells #[.slice J x.aA.length R,.slice t x.aQ.length A,.slice u x.aJ.length B,.slice L x.over.length T,.slice M x.aW.length U] 51));have TY:=cZ F 51 #[.slice J x.aA.length R,.slice t x.aQ.length A,.slice u x.aJ.length B,.slice L x.over.length T,.slice M x.aW.length U]
 go_wp2_with fail
 obtain⟨WB,bU⟩:∃WB,WB=F.alloc (.cells #[.slice J x.aA.length R,.slice t x.aQ.length A,.slice u x.aJ.length B,.slice L x.over.length T,.slice M x.aW.length U] 51):=⟨_,rfl⟩;rw[← bU] at Tb TY ⊢
 have cF:∀W,Below WB.heap.size WB W->Below WB.heap.size WB W∧W.cell? ⟨w.heap.size+1,3,none⟩=some (.slice (some ⟨n,0,none⟩) d.aB.length q3)∧W.cell? ⟨w.heap.size+1+1,1,none⟩=some (.int .i64 (k:Int)) ∧
     (W.cell? ⟨F.heap.size,0,none⟩=some (.slice J x.aA.length R)∧W.cell? ⟨F.heap.size,1,none⟩=some (.slice t x.aQ.length A)∧W.cell? ⟨F.heap.size,2,none⟩=some (.slice u x.aJ.length B)∧W.cell? ⟨F.heap.size,3,none⟩=some (.slice L x.over.length T)∧W.cell? ⟨F.heap.size,4,none⟩=some (.slice M x.aW.length U))∧W.cell? ⟨w.heap.size+1,2,none⟩=some (.slice a4 d.aC.length q2):=fun W r=>by
  have hT:=Tb.call r;have hY:=TY.call r;exact⟨r,hT.c 1 3 rfl rfl,hT.c 2 1 rfl rfl,⟨hY.c 0 0 rfl rfl,hY.c 0 1 rfl rfl,hY.c 0 2 rfl rfl,hY.c 0 3 rfl rfl,hY.c 0 4 rfl rfl⟩,hT.c 1 2 rfl rfl⟩
 have KS:=aD cF;have a5:=aD Tb.below;have dW:=T1.below.size;clear cF Tb TY T1 cW dD dM dN dO dQ dR bU
 refine mV (S:=fun W=>Below WB.heap.size WB W∧W.cell? ⟨w.heap.size+1,3,none⟩=some (.slice (some ⟨n,0,none⟩) d.aB.length q3)∧W.cell? ⟨w.heap.size+1+1,1,none⟩=some (.int .i64 (k:Int)) ∧
     (W.cell? ⟨F.heap.size,0,none⟩=some (.slice J x.aA.length R)∧W.cell? ⟨F.heap.size,1,none⟩=some (.slice t x.aQ.length A)∧W.cell? ⟨F.heap.size,2,none⟩=some (.slice u x.aJ.length B)∧W.cell? ⟨F.heap.size,3,none⟩=some (.slice L x.over.length T)∧W.cell? ⟨F.heap.size,4,none⟩=some (.slice M x.aW.length U))∧W.cell? ⟨w.heap.size+1,2,none⟩=some (.slice a4 d.aC.length q2)) 8 (by kernel_rfl) (KS.out _ (cT _)) (fun hS=>?_)
 refine bM (v:=?v0) At.z (by kernel_rfl) (fun _ _ _ h=>h) rfl ?h0 hS ?_
 case h0=>intro _ s;(try dsimp only at s);go_simp;try with_reducible rfl
 try simp only[Act.put,sA,sB,sC]
 refine bM (v:=?v1) At.z.s (by kernel_rfl) (fun _ _ _ h=>h) rfl ?h1 hS ?_
 case h1=>intro _ s;(try dsimp only at s);go_simp;try with_reducible rfl
 try simp only[Act.put,sA,sB,sC]
 refine bM (v:=?v2) At.z.s.s (by kernel_rfl) (fun _ _ _ h=>h) rfl ?h2 hS ?_
 case h2=>intro _ s;(try dsimp only at s);go_simp;try with_reducible rfl
 try simp only[Act.put,sA,sB,sC]
 refine bM (v:=?v3) At.z.s.s.s (by kernel_rfl) (fun _ _ _ h=>h) rfl ?h3 hS ?_
 case h3=>intro _ s;(try dsimp only at s);go_simp;try with_reducible rfl
 try simp only[Act.put,sA,sB,sC]
 refine bM (v:=?v4) At.z.s.s.s.s (by kernel_rfl) (fun _ _ _ h=>h) rfl ?h4 hS ?_
 case h4=>intro _ s;(try dsimp only at s);go_simp;try with_reducible rfl
 try simp only[Act.put,sA,sB,sC]
 refine bM (v:=?v5) At.z.f (by kernel_rfl) (fun _ _ _ h=>h) rfl ?h5 hS ?_
 case h5=>intro _ s;(try dsimp only at s);go_simp;try with_reducible rfl
 try simp only[Act.put,sA,sB,sC]
 have hD:=hS.1;have bA:=a5.out.trans (hD.mono a5.out.size);refine dX (i:=6) At.z.f.s (by kernel_rfl) (fun K hK=>?_);go_simp;refine (BH false _ _ _ _ _ x.aA _ (KW.out _ bA).1 cL b3.out.1).mono ?_;rintro e w3 ⟨vb,b6,rfl,a7,cM,bY⟩;obtain⟨y,hy⟩:∃y,y=bO x.aA.length (.set false):=⟨_,rfl⟩;rw[← hy] at a7 HE ⊢;have b7:=hD.trans (bY.mono hD.size);have bB:=a5.out.trans (b7.mono a5.out.size);have V:=KS.out _ b7;have aV:w.heap.size<=b6:=Nat.le_trans bA.size cM;obtain⟨fb,Nb,cb,rfl,-⟩:=id a7;refine hK.out _ _ V ?_;clear hK K bY hS hD bA hy
 try simp only[Act.put,sA,sB,sC]
 refine nW (i:=7) (v:=?vv7) At.z.f.s.s (by kernel_rfl) (by kernel_rfl) (by kernel_rfl) (by kernel_rfl) (fun _ _ _ h=>h) rfl ?hy7 V ?rest7
 case hy7=>(intro w' dE; (try dsimp only at dE); go_simp; try with_reducible rfl)
 try simp only[Act.put,sA,sB,sC]
 have C:=dP HR.out bB;have t0:=C.cell (i:=k*5) (by omega);have t1:=C.cell (i:=k*5+1) (by omega);have t2:=C.cell (i:=k*5+2) (by omega);have t3:=C.cell (i:=k*5+3) (by omega);have t4:=C.cell (i:=k*5+4) (by omega);have z0:=C.frozen (k*5);have z1:=C.frozen (k*5+1);have z2:=C.frozen (k*5+2);have z3:=C.frozen (k*5+3);have z4:=C.frozen (k*5+4);have HH:=aD (dA.out _ _ (pF (i:=k) (b:=bb k) HR.out bB a7 aV));have dU:=HR.out.lt;have hj:∀o:Nat,¬((fun c=>c≠n) (⟨n,o,none⟩:Addr).block):=fun o z=>z rfl;have a6:=((((((But.refl (fun c=>c≠n) w3).setCell (hj (k*5)) (.int .i64 y.state)).setCell (hj (k*5+1)) (.int .i64 y.gone)).setCell (hj (k*5+2)) (.slice (some ⟨b6,0,none⟩) y.aL.length cb)).setCell (hj (k*5+3)) (.bool y.aR)).setCell (hj (k*5+4)) (.int .i64 y.aN));have s1:=a6.cell V.2.2.2.1.2.1 (by show F.heap.size≠n; omega);have s2:=a6.cell V.2.2.2.1.2.2.1 (by show F.heap.size≠n; omega);have s5:=a6.cell V.2.2.2.2 (by show w.heap.size+1≠n; omega);clear a7 bB cM aV b7 C V a6;refine iQ (m:=8) At.z.f.s.s.s (by kernel_rfl) (by kernel_rfl) (fun K hK=>?_);go_simp;refine hK.out _ _ ?_;clear hK K t0 t1 t2 t3 t4 z0 z1 z2 z3 z4;obtain⟨I,bW⟩:∃I,I=((((w3.setCell ⟨n,k*5,none⟩ (.int .i64 y.state)).setCell ⟨n,k*5+1,none⟩ (.int .i64 y.gone)).setCell ⟨n,k*5+2,none⟩ (.slice (some ⟨b6,0,none⟩) y.aL.length cb)).setCell ⟨n,k*5+3,none⟩ (.bool y.aR)).setCell ⟨n,k*5+4,none⟩ (.int .i64 y.aN):=⟨_,rfl⟩
 rw[← bW] at HH s1 s2 s5 ⊢;clear bW;obtain⟨dB,c5,b9⟩:=HH.out;have a1:=bC I (.cells #[.slice t x.aQ.length A,.slice u x.aJ.length B] 49);have TL:=cZ I 49 #[.slice t x.aQ.length A,.slice u x.aJ.length B];go_wp2;obtain⟨WL,bV⟩:∃WL,WL=I.alloc (.cells #[.slice t x.aQ.length A,.slice u x.aJ.length B] 49):=⟨_,rfl⟩;rw[← bV] at a1 TL ⊢;clear bV;have d3:=aD (show WL.cell? ⟨I.heap.size,0,none⟩=some (.slice t x.aQ.length A) from TL.c 0 0 rfl rfl);have d4:=aD (show WL.cell? ⟨I.heap.size,1,none⟩=some (.slice u x.aJ.length B) from TL.c 0 1 rfl rfl);have b1:Hid (∀c,w.heap.size<=c->¬P c):=fun c hc z=>absurd (d8.out c z) (by omega);have b0:=b9.size;have bF:=aD (c5.but (K:=fun _=>True) (Q:=(fun c=>P c∨New w I c)) (But.aG a1) (fun _ _=>trivial) fun _ z=>z);have bD:=aD (b9.call a1);have cY:=aD (bP s5 a1)
 have b4:Hid (∀W,But (fun c=>¬P c) WL W->Lies (In W) W (.slice t x.aQ.length A) x.aQ∧Lies (In W) W (.slice u x.aJ.length B) x.aJ∧W.cell? ⟨w.heap.size+1,2,none⟩=some (.slice a4 d.aC.length q2)):=fun W r=>by
  have cQ:=bD.out.trans r;have a3:Same Q w W:=cQ.same fun c hc=>bI.out c hc;have cB:∀c,Q c->In W c:=fun c hc=>Nat.lt_of_lt_of_le (bI.out c hc).1 cQ.size;exact⟨bJ.out.2.1.keep a3 cB,bJ.out.2.2.1.keep a3 cB,r.cell cY.out (b1.out _ (by omega))⟩
 have dL:=b3.out.2.1;have dK:=b3.out.2.2.1;clear a1 TL s1 s2 s5 c5 b9 HH
 go_loopw [41] (fun z wr=>∃(a:Nat) (E:Nat->Nat),a<=2∧z=.int .i64 a∧aP (fun c=>P c∨New w I c) wr (.slice (some ⟨bo,0,none⟩) d.aH.length q1) (.slice a4 d.aC.length q2) (.slice (some ⟨n,0,none⟩) d.aB.length q3) { d with aC:=fZ d.aC (([x.aQ,x.aJ].take a).flatten),aB:=d.aB.set k y } bo O n E∧But (fun c=>¬P c) WL wr) (fun z _=>2-(intOf z).toNat)
 case atStart=>exact⟨0,dB,by omega,rfl,bF.out,But.refl _ _⟩
 case round=>
  obtain⟨a,bN,ha,rfl,c4,bZ⟩:=hrel;rename World=>wA;have H:=aD c4;have a0:=aD bZ;clear c4 bZ bF;by_cases dF:a<2
  ·obtain⟨l,hl⟩:∃l,[x.aQ,x.aJ][a]?=some l:=bG _ (aD rfl) dF
   obtain⟨sl,cl,a9,cG,cI⟩:∃sl cl,wA.cell? ⟨I.heap.size,a,none⟩=some (.slice sl l.length cl)∧(∀W,But (fun c=>¬P c) WL W->Lies (In W) W (.slice sl l.length cl) l)∧∀y∈l,0<=y.1∧y.1<d.aC.length:=by
    rcases a with _ | _ | a
    ·cases hl
     exact⟨_,_,a0.out.cell d3.out (b1.out _ b0),fun W r=>(b4.out W r).1,fun y hy=>bL.out y (.inl hy)⟩
    ·cases hl
     exact⟨_,_,a0.out.cell d4.out (b1.out _ b0),fun W r=>(b4.out W r).2.1,fun y hy=>bL.out y (.inr hy)⟩
    ·omega
   have dV:l.length<=30:=by
    rcases a with _ | _ | a
    ·cases hl; exact dL
    ·cases hl; exact dK
    ·omega
   have c7:(([x.aQ,x.aJ].take (a+1)).flatten)=(([x.aQ,x.aJ].take a).flatten)++l:=by
    rw[List.take_add_one,hl]; simp
   have d1:=aD c7;have d5:=aD cG;have d6:=aD cI
   have dT:(a:Int)<2:=by omega
   clear hl cG cI c7;go_wp2;clear a9;obtain⟨P0,a8⟩:∃q,q=fZ d.aC (([x.aQ,x.aJ].take a).flatten):=⟨_,rfl⟩;have d7:=aD a8
   have bS:P0.length=d.aC.length:=by rw[a8]; exact vI _ _
   rw[← a8] at H;clear a8
   go_loopw [47] (fun z wr=>∃(m:Nat) (E:Nat->Nat),m<=l.length∧z=.int .i64 m∧aP (fun c=>P c∨New w I c) wr (.slice (some ⟨bo,0,none⟩) d.aH.length q1) (.slice a4 d.aC.length q2) (.slice (some ⟨n,0,none⟩) d.aB.length q3) { d with aC:=fZ P0 (l.take m),aB:=d.aB.set k y } bo O n E∧But (fun c=>¬P c) WL wr) (fun z _=>l.length-(intOf z).toNat)
   case atStart=>exact⟨0,bN,by omega,rfl,H.out,a0.out⟩
   case round=>
    obtain⟨m,b5,hm,rfl,Z,X⟩:=hrel;rename World=>wB;by_cases cH:m<l.length
    ·obtain⟨yy,aS⟩:=bG l (aD rfl) cH;obtain⟨ya,yb⟩:=yy;obtain⟨cU,cV⟩:=d6.out _ (List.mem_of_getElem? aS);simp only at cU cV;obtain⟨G,rfl⟩:∃G:Nat,ya=G:=⟨ya.toNat,by omega⟩;have b8:(fZ P0 (l.take m)).length=d.aC.length:=(vI _ _).trans bS;obtain⟨pt,aO⟩:=bG (fZ P0 (l.take m)) (aD b8) (show G<d.aC.length by omega);obtain⟨dC,bQ,g0,-,z0,-⟩:=Z.aC.cells aO;have bR:(Value.slice a4 d.aC.length q2)=.slice (some ⟨O,0,none⟩) d.aC.length dC:=bQ.trans (by rw[b8])
     cases bR
     obtain⟨al,dZ,e4,h0 | ⟨bl,ol,e5,e6,a9⟩⟩:=d5.out wB X
     ·omega
     cases e4
     cases e5
     obtain⟨qa,qb⟩:=a9 m cH _ aS;simp only at qa qb;have c2:=(b4.out wB X).2.2;have Y:=bC wB (.cells #[.int .i64 (G:Int),.int .i64 yb] 58);have dY:=mP c2 Y;have e1:=mP g0 Y;have eE:(wB.alloc (.cells #[.int .i64 (G:Int),.int .i64 yb] 58)).frozen? ⟨O,G*2,none⟩=false:=(Y.frozen (p:=⟨O,G*2,none⟩) (World.block_lt_of_cell? _ _ g0)).trans z0;have aU:P O:=d9.out (by omega);have eA:(G:Int)<(d.aC.length:Int):=cV;have e7:(0:Int)<=(G:Int):=cU;have c1:=(Z.but (K:=fun _=>True) (Q:=(fun c=>P c∨New w I c)) (But.aG Y) (fun _ _=>trivial) fun _ z=>z).put aO 0 (by omega) yb
     have c3:aP (fun c=>P c∨New w I c) ((wB.alloc (.cells #[.int .i64 (G:Int),.int .i64 yb] 58)).setCell ⟨O,G*2,none⟩ (.int .i64 yb)) (.slice (some ⟨bo,0,none⟩) d.aH.length q1) (.slice (some ⟨O,0,none⟩) d.aC.length q2) (.slice (some ⟨n,0,none⟩) d.aB.length q3) { d with aC:=fZ P0 (l.take (m+1)),aB:=d.aB.set k y } bo O n b5:=by
      have e:fZ P0 (l.take (m+1))=(fZ P0 (l.take m)).set G (yb,pt.2):=by
       rw[List.take_add_one,aS];show fZ P0 (l.take m++[((G:Int),yb)])=_;rw[CV];exact uZ _ aO
      rw[e];exact c1.1
     have bH:=aD (And.intro c3 ((X.call Y).setCell (p:=⟨O,G*2,none⟩) (fun z=>z aU) (.int .i64 yb)));clear c1 c3 Z X a9 aS aO b8 aU H a0 Y c2 g0 z0 bQ;go_wp2;go_roundw
     case rel=>exact⟨m+1,b5,by omega,by go_num,bH.out⟩
     case measure=>simp[intOf]; omega
    ·obtain rfl:m=l.length:=by omega
     rw[List.take_length] at Z;have d0:=aD Z;have cX:=aD X;clear Z X H;go_wp2;go_roundw
     case rel=>exact⟨a+1,b5,by omega,by go_num,by rw[d1.out,C9,← d7.out]; exact d0.out,cX.out⟩
     case measure=>simp[intOf]; omega
  ·obtain rfl:a=2:=by omega
   have c6:(([x.aQ,x.aJ].take 2).flatten)=x.aQ++x.aJ:=by simp
   rw[c6] at H;go_wp2;go_ret;rw[HE.out];refine⟨rfl,bN,H.out.bound fun c hc hl=>?_,bD.out.trans a0.out⟩;exact hc.imp id fun z=>⟨z.1,hl⟩
end Go.Proofs.YtdhinkgjiapigaaGreatDoor

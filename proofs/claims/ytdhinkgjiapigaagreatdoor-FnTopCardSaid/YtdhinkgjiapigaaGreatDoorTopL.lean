import Derived.Test.YtdhinkgjiapigaaGreatDoorTopD
import Derived.Test.YtdhinkgjiapigaaGreatDoorDqL
import Derived.Test.YtdhinkgjiapigaaGreatDoorPassW
import Derived.Test.YtdhinkgjiapigaaGreatDoorAnT
import Derived.Test.YtdhinkgjiapigaaGreatDoorLast3
namespace Go.Proofs.YtdhinkgjiapigaaGreatDoor
open Classical Go.Deep Go.RowKit
set_option maxRecDepth 100000 in
set_option maxHeartbeats 16000000 in
theorem oX (a:Option Addr) (n c:Nat) (w:World) (hv:yJ (In w) w (.slice a n c) n) (hn:n<=9223372036854775807) (hg:w.cell? ⟨1,0,none⟩=some rF) (g7:cF w) (f5 : 0<w.heap.size) :
  Calls Tryz.prog 3 #[.slice a n c] w fun e w'=>e=.returned (.bool true)∧Below w.heap.size w w':=by
 have HG:=aD hg;have dK:=aD (Below.refl w.heap.size w);by_cases hs:n<=1048576
 case neg=>
  have eR:decide ((1048576:Int)<(n:Int))=true:=decide_eq_true (by omega);go_enter Tryz.func3,Tryz.ntmps3;go_wp2;go_ret;exact⟨rfl,dK.out⟩
 obtain⟨sr,f6,eN⟩:=hv.named;have d3:=aD fun (W:World) (h:Below w.heap.size w W)=>nG sr a n c W (eN.keep (fW h fun b y=>y) fun b (y:b<w.heap.size)=>Nat.lt_of_lt_of_le y h.size) f6 hs;clear hv hg eN f6;have eR:decide ((1048576:Int)<(n:Int))=false:=decide_eq_false (by omega);go_enter Tryz.func3,Tryz.ntmps3
 go_wp2_with fail
 refine (d3.out w (Below.refl _ _)).mono ?_;clear eR hs hn dK;rintro e w1 ⟨v1,v2,v3,ve,p,es,rfl,hR,hp,f8,aF,fS,bW,f9⟩;obtain⟨a1,c1,rfl⟩:=hp.1.size;obtain⟨a2,c2,rfl⟩:=hp.2.1.size;obtain⟨a3,c3,rfl⟩:=hp.2.2.size;obtain⟨ae,ce,rfl⟩:=aF.size;have e5:=aD f9;have dM:=aD bW;have KP:=aD fun (W:World) (h:Below w1.heap.size w1 W)=>hp.keep (Q:=In W) (fW h fun b y=>y.2) fun b y=>Nat.lt_of_lt_of_le y.2 h.size;have KC:=aD fun (W:World) (h:Below w1.heap.size w1 W)=>f8.keep (Q:=In W) (fW h fun b y=>y.2) fun b y=>Nat.lt_of_lt_of_le y.2 h.size;have KE:=aD fun (W:World) (h:Below w1.heap.size w1 W)=>aF.keep (Q:=In W) (fW h fun b y=>y.2) fun b y=>Nat.lt_of_lt_of_le y.2 h.size;have HR:=aD hR;have b9:=bC w1 (.cells #[.int .i64 p.aA,.slice a1 p.aE.length c1,.slice a2 p.aB.length c2,.slice a3 p.aO.length c3,.int .i64 p.aI] 27)
 have cY:Rows [(w1.heap.size,27,#[.int .i64 p.aA,.slice a1 p.aE.length c1,.slice a2 p.aB.length c2,.slice a3 p.aO.length c3,.int .i64 p.aI])] (w1.alloc (.cells #[.int .i64 p.aA,.slice a1 p.aE.length c1,.slice a2 p.aB.length c2,.slice a3 p.aO.length c3,.int .i64 p.aI] 27)):=fun r hr=>by
  obtain rfl:=List.mem_singleton.1 hr;exact dH w1 27 #[.int .i64 p.aA,.slice a1 p.aE.length c1,.slice a2 p.aB.length c2,.slice a3 p.aO.length c3,.int .i64 p.aI]
 have b0:=aD b9;have b4:=aD cY;have cN:=aD (d3.out _ (bW.trans (b9.mono bW.size)));clear hp f8 aF hR bW f9 b9 cY d3
 go_wp2_with fail
 refine cN.out.mono ?_;clear cN;rintro e w2 ⟨v4,v5,v6,vf,p',gO,rfl,-,hp,-,aF,-,bX,fA⟩;obtain⟨rfl,rfl⟩:=e5.out.inj fA;obtain⟨a4,c4,rfl⟩:=hp.1.size;obtain⟨a5,c5,rfl⟩:=hp.2.1.size;obtain⟨a6,c6,rfl⟩:=hp.2.2.size;obtain⟨af,cf,rfl⟩:=aF.size;have KQ:=aD fun (W:World) (h:Below w2.heap.size w2 W)=>hp.keep (Q:=In W) (fW h fun b y=>y.2) fun b y=>Nat.lt_of_lt_of_le y.2 h.size;have KF:=aD fun (W:World) (h:Below w2.heap.size w2 W)=>aF.keep (Q:=In W) (fW h fun b y=>y.2) fun b y=>Nat.lt_of_lt_of_le y.2 h.size;have d4:=b0.out.trans (bX.mono b0.out.size);have aQ:=bC w2 (.cells #[.int .i64 p.aA,.slice a4 p.aE.length c4,.slice a5 p.aB.length c5,.slice a6 p.aO.length c6,.int .i64 p.aI] 27);have R2:Rows [(w1.heap.size,27,#[.int .i64 p.aA,.slice a1 p.aE.length c1,.slice a2 p.aB.length c2,.slice a3 p.aO.length c3,.int .i64 p.aI]),(w2.heap.size,27,#[.int .i64 p.aA,.slice a4 p.aE.length c4,.slice a5 p.aB.length c5,.slice a6 p.aO.length c6,.int .i64 p.aI])] (w2.alloc (.cells #[.int .i64 p.aA,.slice a4 p.aE.length c4,.slice a5 p.aB.length c5,.slice a6 p.aO.length c6,.int .i64 p.aI] 27)):=((b4.out.call bX).call aQ).snoc (dH w2 27 #[.int .i64 p.aA,.slice a4 p.aE.length c4,.slice a5 p.aB.length c5,.slice a6 p.aO.length c6,.int .i64 p.aI])
 have gE:w1.heap.size<w2.heap.size:=by have:=(b4.out.call bX _ (List.mem_singleton.2 rfl)).lt; exact this
 obtain⟨W3,bV⟩:∃W,W=w2.alloc (.cells #[.int .i64 p.aA,.slice a4 p.aE.length c4,.slice a5 p.aB.length c5,.slice a6 p.aO.length c6,.int .i64 p.aI] 27):=⟨_,rfl⟩;have H:=aD aQ;have aK:=aD (d4.trans (aQ.mono d4.size));have d2:=aD R2
 have gX:W3.heap.size=w2.heap.size+1:=by rw[bV,World.size_alloc]
 rw[← bV] at H aK d2
 have b1:Hid (es.length<=1048576):=by show es.length<=1048576; omega
 have e0:=aD (Es _ _ _ _ p es W3 (KQ.out _ H.out) (KF.out _ H.out) HR.out.small b1.out);clear hp aF bX fA d4 aQ R2 b0 b4 e5
 go_wp2_with fail
 rw[← bV];clear bV;refine e0.out.mono ?_;clear e0;rintro e w4 ⟨vw,rfl,aV,c7⟩;have bS:iZ p es=iV p (bT p) es:=if_pos ⟨HR.out,by omega⟩;rw[bS] at c7;obtain⟨L,hL⟩:∃L,L=iV p (bT p) es:=⟨_,rfl⟩;rw[← hL] at c7 bS;have dU:=aD bS
 have fR:L.length=es.length:=by rw[hL,zT]
 obtain⟨ne,bJ⟩:∃m,m=L.length:=⟨_,rfl⟩
 have fV:ne<=50:=by omega
 have C:=aD bJ
 have bL:Hid (∀x∈L,cJ p x.2):=fun x hx=>by
  obtain⟨i,hi⟩:=List.getElem?_of_mem hx;exact Ee HR.out (by rw[← hL]; exact hi)
 have aR:=c7.read;obtain⟨aw,cw,rfl⟩:=aR.size;rw[← bJ];rw[← bJ] at aR;have KW:=aD fun (W:World) (h:Below w4.heap.size w4 W)=>aR.keep (Q:=In W) (fW h fun b y=>y.2) fun b y=>Nat.lt_of_lt_of_le y.2 h.size;have R4:=d2.out.call aV;have g9:=aD aV;have aU:=aK.out.trans (aV.mono aK.out.size);have aM:=aD aU;have eC:=H.out.trans (aV.mono H.out.size);have cL:=aD eC;have J:=aD (dM.out.trans (aU.mono dM.out.size));have gY:=aV.size;have b2:=aD (zU _ _ _ _ p es w4 (KP.out _ aU) (KC.out _ aU) (KE.out _ aU) HR.out.small b1.out (ck HG.out J.out));clear hL bS fR c7 aR aV aU eC d2 aK H fS;obtain⟨x0,x1,x2,x3,x4⟩:=R4.cells5 (j:=0) rfl;have dW:=aD R4;clear R4
 go_wp2_with fail
 refine b2.out.mono ?_;clear b2 x0 x1 x2 x3 x4;rintro e w5 ⟨vg,rfl,D,dB⟩;rw[dU.out] at dB;obtain⟨lo,c0⟩:=dB.owned;obtain⟨⟨ag,cg,rfl,-⟩,-⟩:=id c0;rw[← bJ];clear bJ;have dS:=aD c0;have dR:=aD c0.read;have R5:=dW.out.call D;have M:=aD D;have eB:=aM.out.trans (D.mono aM.out.size);have aY:=aD eB;have aZ:=aD (cL.out.trans (D.mono cL.out.size));have aX:=aD (J.out.trans (D.mono J.out.size));have Y:=aD R5;have gZ:=D.size;clear dB c0 D eB R5 dW
 go_upto_region 7 with fail
 obtain⟨G,bY⟩:∃b,b=w1.heap.size:=⟨_,rfl⟩;obtain⟨b5,D⟩:∃b,b=w2.heap.size:=⟨_,rfl⟩;rw[← bY,← D] at Y;rw[← bY,← D];have dO:=aD (And.intro bY D)
 have bF:∀W:World,Rows [(G,27,#[.int .i64 p.aA,.slice a1 p.aE.length c1,.slice a2 p.aB.length c2,.slice a3 p.aO.length c3,.int .i64 p.aI]),(b5,27,#[.int .i64 p.aA,.slice a4 p.aE.length c4,.slice a5 p.aB.length c5,.slice a6 p.aO.length c6,.int .i64 p.aI])] W->(fun W:World=>W.cell? ⟨G,0,none⟩=some (.int .i64 p.aA)∧W.cell? ⟨G,1,none⟩=some (.slice a1 p.aE.length c1)∧W.cell? ⟨G,2,none⟩=some (.slice a2 p.aB.length c2)∧W.cell? ⟨G,3,none⟩=some (.slice a3 p.aO.length c3)∧W.cell? ⟨G,4,none⟩=some (.int .i64 p.aI)∧W.cell? ⟨b5,0,none⟩=some (.int .i64 p.aA)∧W.cell? ⟨b5,1,none⟩=some (.slice a4 p.aE.length c4)∧W.cell? ⟨b5,2,none⟩=some (.slice a5 p.aB.length c5)∧W.cell? ⟨b5,3,none⟩=some (.slice a6 p.aO.length c6)∧W.cell? ⟨b5,4,none⟩=some (.int .i64 p.aI)) W:=fun W h=>by
  obtain⟨x0,x1,x2,x3,x4⟩:=h.cells5 (j:=0) rfl;obtain⟨y0,y1,y2,y3,y4⟩:=h.cells5 (j:=1) rfl;exact⟨x0,x1,x2,x3,x4,y0,y1,y2,y3,y4⟩
 have KS:=aD bF;clear bF;clear bY D
 go_cut [45] (fun v wk=>v=.bool false∧Below w5.heap.size w5 wk)
 case first=>
  refine zZ (S:=fun W=>W.cell? ⟨G,0,none⟩=some (.int .i64 p.aA)∧W.cell? ⟨G,1,none⟩=some (.slice a1 p.aE.length c1)∧W.cell? ⟨G,2,none⟩=some (.slice a2 p.aB.length c2)∧W.cell? ⟨G,3,none⟩=some (.slice a3 p.aO.length c3)∧W.cell? ⟨G,4,none⟩=some (.int .i64 p.aI)∧W.cell? ⟨b5,0,none⟩=some (.int .i64 p.aA)∧W.cell? ⟨b5,1,none⟩=some (.slice a4 p.aE.length c4)∧W.cell? ⟨b5,2,none⟩=some (.slice a5 p.aB.length c5)∧W.cell? ⟨b5,3,none⟩=some (.slice a6 p.aO.length c6)∧W.cell? ⟨b5,4,none⟩=some (.int .i64 p.aI)) 13 13 (by kernel_rfl) rfl (KS.out _ (Y.out.call (cT _))) (fun o=>?_);have X:=aD (cT w5);obtain⟨w6,f7⟩:∃W,W=w5.drew:=⟨_,rfl⟩;rw[← f7] at o X ⊢;clear f7;refine rI (v:=?va0) At.z (by kernel_rfl) (fun _ _ _ h=>h) (by kernel_rfl) ?ha0 o ?_
  case ha0=>intro _ s;(try dsimp only at s);go_simp;try with_reducible rfl
  try simp only[Act.put,sA,sB,sC]
  refine rI (v:=?va1) At.z.s (by kernel_rfl) (fun _ _ _ h=>h) (by kernel_rfl) ?ha1 o ?_
  case ha1=>intro _ s;(try dsimp only at s);go_simp;try with_reducible rfl
  try simp only[Act.put,sA,sB,sC]
  clear o;refine dX (i:=2) (At.z.s.s) (by kernel_rfl) (fun K1 u=>?_);go_simp;have bE:=dR.out.keep (Q:=In w6) (In.keep X.out).1 (In.keep X.out).2;rw[← C.out] at bE;refine (kM _ _ L w6 bE (KW.out _ (M.out.trans (X.out.mono M.out.size))) (by rw[← C.out]; omega) (fun x hx=>oH (bL.out x hx))).mono ?_;rintro e w7 ⟨rfl,eK⟩;have d6:=X.out.trans (eK.mono X.out.size);have o:=KS.out _ (Y.out.call d6);refine u.out _ _ o ?_;have O:=aD d6;clear u K1 bE eK d6 X
  try simp only[Act.put,sA,sB,sC]
  refine rI (v:=?va3) At.z.s.s.s (by kernel_rfl) (fun _ _ _ h=>h) (by kernel_rfl) ?ha3 o ?_
  case ha3=>intro _ s;(try dsimp only at s);go_simp;try with_reducible rfl
  try simp only[Act.put,sA,sB,sC]
  refine rI (v:=?va4) At.z.s.s.s.s (by kernel_rfl) (fun _ _ _ h=>h) (by kernel_rfl) ?ha4 o ?_
  case ha4=>intro _ s;(try dsimp only at s);go_simp;try with_reducible rfl
  try simp only[Act.put,sA,sB,sC]
  refine rI (v:=?va5) At.z.f (by kernel_rfl) (fun _ _ _ h=>h) (by kernel_rfl) ?ha5 o ?_
  case ha5=>intro _ s;(try dsimp only at s);go_simp;try with_reducible rfl
  try simp only[Act.put,sA,sB,sC]
  refine rI (v:=?va6) At.z.f.s (by kernel_rfl) (fun _ _ _ h=>h) (by kernel_rfl) ?ha6 o ?_
  case ha6=>intro _ s;(try dsimp only at s);go_simp;try with_reducible rfl
  try simp only[Act.put,sA,sB,sC]
  refine rI (v:=?va8) At.z.f.s.s.s (by kernel_rfl) (fun _ _ _ h=>h) (by kernel_rfl) ?ha8 o ?_
  case ha8=>intro _ s;(try dsimp only at s);go_simp;try with_reducible rfl
  try simp only[Act.put,sA,sB,sC]
  refine rI (v:=?va9) At.z.f.s.s.s.s (by kernel_rfl) (fun _ _ _ h=>h) (by kernel_rfl) ?ha9 o ?_
  case ha9=>intro _ s;(try dsimp only at s);go_simp;try with_reducible rfl
  try simp only[Act.put,sA,sB,sC]
  clear o;refine dX (i:=7) (At.z.f.s.s) (by kernel_rfl) (fun K1 u=>?_);rw[if_pos (by kernel_rfl)];go_simp;have bP:=aY.out.trans (O.out.mono aY.out.size);have bO:=aX.out.trans (O.out.mono aX.out.size);refine (jG _ _ _ _ p es w7 (KP.out _ bP) (KC.out _ bP) (KE.out _ bP) HR.out.small b1.out (ck HG.out bO) (g7.below bO f5) (Nat.lt_of_lt_of_le f5 bO.size)).mono ?_;rintro e w8 ⟨rfl,eL⟩;have d7:=O.out.trans (eL.mono O.out.size);have o:=KS.out _ (Y.out.call d7);refine u.out _ _ o ?_;have aN:=aD d7;clear u K1 eL d7 bP bO O
  try simp only[Act.put,sA,sB,sC]
  clear o;refine dX (i:=10) (At.z.f.f) (by kernel_rfl) (fun K1 u=>?_);rw[if_pos (by kernel_rfl)];go_simp;have d5:=aZ.out.trans (aN.out.mono aZ.out.size);refine (jK _ _ _ _ p es w8 (KQ.out _ d5) (KF.out _ d5) HR.out.small b1.out).mono ?_;rintro e w9 ⟨rfl,eM⟩;have d8:=aN.out.trans (eM.mono aN.out.size);have o:=KS.out _ (Y.out.call d8);refine u.out _ _ o ?_;have dN:=aD d8;clear u K1 eM d8 d5 aN
  try simp only[Act.put,sA,sB,sC]
  refine rI (v:=?va11) At.z.f.f.s (by kernel_rfl) (fun _ _ _ h=>h) (by kernel_rfl) ?ha11 o ?_
  case ha11=>intro _ s;(try dsimp only at s);go_simp;try with_reducible rfl
  try simp only[Act.put,sA,sB,sC]
  refine rI (v:=?va12) At.z.f.f.s.s (by kernel_rfl) (fun _ _ _ h=>h) (by kernel_rfl) ?ha12 o ?_
  case ha12=>intro _ s;(try dsimp only at s);go_simp;try with_reducible rfl
  try simp only[Act.put,sA,sB,sC]
  clear o;refine xX (by kernel_rfl) ?_;go_wp2;go_meet;exact⟨rfl,dN.out⟩
 case rest=>
  obtain⟨rfl,bZ⟩:=hcut;rename World=>wk;obtain⟨⟨gH,gN,e,c9⟩,cS,cG,-⟩:=dS.out.but (K:=fun _=>True) (But.aG bZ) fun _ _=>trivial
  cases e
  obtain⟨g,c9⟩:∃g,L.length=0∨∃N f,ag=some ⟨g,0,none⟩∧w4.heap.size<=g∧wk.rowIs g 42 N f∧L.length*5<=N∧∀(j:Nat) x,L[j]?=some x->∃bo bp bw bb,f (j*5)=.int .i64 x.1∧f (j*5+1)=.bool x.2.ok∧aP (fun c=>(lo j<=c∧c<lo (j+1))∧c≠g) wk (f (j*5+2)) (f (j*5+3)) (f (j*5+4)) x.2 bo bp bw bb:=by
   rcases c9 with z | ⟨g,N,f,z⟩
   ·exact⟨0,.inl z⟩
   ·exact⟨g,.inr ⟨N,f,z⟩⟩
  have dT:=aD c9;rw[← C.out] at cG;have fK:=aD cG;have fH:=aD (sW cG);have gV:w4.heap.size<=lo 0:=cS 0;have fJ:=aD (Y.out.call bZ);have bR:=M.out.trans (bZ.mono M.out.size);have KO:=aD fun (W:World) (i:Nat) (hB:But (fun c=>(c<lo 0∨lo i<=c)∨c=g) wk W)=>(bR.trans (hB.below bR.size fun c hc=>.inl (.inl (by omega))):Below w4.heap.size w4 W);have gF:=bR.size;clear c9 cS cG bZ bR dS dR Y M aY aZ aX
  have gQ:G<w4.heap.size:=by have:=dO.out.1; omega
  have gR:b5<w4.heap.size:=by have:=dO.out.2; omega
  go_wp2
  go_loopw [48] (fun z wr=>∃i:Nat,i<=ne∧z=.int .i64 (i:Int)∧But (fun c=>(c<lo 0∨lo i<=c)∨c=g) wk wr) (fun z _=>ne-(intOf z).toNat)
  case atStart=>exact⟨0,by omega,rfl,But.refl _ _⟩
  case round=>
   obtain⟨i,hi,rfl,a0⟩:=hrel;rename World=>wr;have b7:=KO.out wr i a0
   have bU:Rows [(G,27,#[.int .i64 p.aA,.slice a1 p.aE.length c1,.slice a2 p.aB.length c2,.slice a3 p.aO.length c3,.int .i64 p.aI]),(b5,27,#[.int .i64 p.aA,.slice a4 p.aE.length c4,.slice a5 p.aB.length c5,.slice a6 p.aO.length c6,.int .i64 p.aI])] wr:=fJ.out.but a0 fun r hr=>by
    simp only[List.mem_cons,List.not_mem_nil,or_false] at hr;rcases hr with rfl | rfl
    ·exact .inl (.inl (by simp only; omega))
    ·exact .inl (.inl (by simp only; omega))
   have Z:=aM.out.trans (b7.mono aM.out.size);have aT:=J.out.trans (b7.mono J.out.size);have cM:=aD b7;by_cases eY:i<ne
   ·have eZ:decide ((i:Int)<(ne:Int))=true:=decide_eq_true (by omega)
    have gT:(i:Int)<(ne:Int):=by omega
    obtain⟨x,hx⟩:=bG L (aD C.out.symm) eY;have aJ:=bL.out x (List.mem_of_getElem? hx);obtain h0 | ⟨N,f,rfl,gS,f4,hN,eP⟩:=dT.out
    ·have:=C.out; omega
    rw[← C.out] at hN;obtain⟨bo,bp,bw,bb,-,f1,eI⟩:=eP i x hx;have a9:=eI.but (Q:=fun c=>(lo i<=c∧c<lo (i+1))∧c≠g) a0 (fun c hc=>.inl (.inr hc.1.1)) fun _ z=>z;have cX:=a0.row f4 (.inr rfl);obtain⟨⟨k1,e1⟩,⟨a7,k2,e2,h7⟩,⟨a8,k3,e3,h8⟩,d9⟩:=a9.shape;have dC:=(a9.bound (Q:=In wr) fun _ _ z=>z).read;rw[e1,e2,e3] at dC;have aS:=aD (fun (W:World) (h:Below wr.heap.size wr W)=>J2 _ _ _ _ _ _ p x.2 W (KP.out _ (Z.trans (h.mono Z.size))) (dC.keep (Q:=In W) (In.keep h).1 (In.keep h).2) HR.out.small (oH aJ) (ck HG.out (aT.trans (h.mono aT.size))));have dQ:Hid (B (cJ p x.2)=true):=bQ aJ;have bI:∀k,nK x.2 k<=1048576:=fun k=>sY (oH aJ).2.2.2 k;have f3:=a9.po;have dF:=a9.pp;have dG:=a9.pw;have dE:=a9.pb;obtain⟨dJ,cU⟩:∃b,b=x.2.ok:=⟨_,rfl⟩;obtain⟨no,cC⟩:∃m,m=x.2.aH.length:=⟨_,rfl⟩;obtain⟨np,cD⟩:∃m,m=x.2.aC.length:=⟨_,rfl⟩;obtain⟨nw,cE⟩:∃m,m=x.2.aB.length:=⟨_,rfl⟩;obtain⟨nb,dD⟩:∃m,m=nK x.2:=⟨_,rfl⟩
    have fZ:no<=1048576:=by rw[cC]; exact (oH aJ).1
    have g5:np<=1048576:=by rw[cD]; exact (oH aJ).2.1
    have g6:nw<=1048576:=by rw[cE]; exact (oH aJ).2.2.1
    rw[← cU] at f1 aS;rw[← cC,← cD,← cE,← dD] at d9;rw[← dD] at bI;have fI:=aD bI;clear bI;rw[← cC] at e1 aS;rw[← cD] at e2 h7 dF aS;rw[← cE] at e3 h8 dG dE aS;have bF:∀W:World,W.rowIs g 42 N f->W.cell? ⟨g,i*5+1,none⟩=some (.bool dJ)∧W.cell? ⟨g,i*5+2,none⟩=some (.slice (some ⟨bo,0,none⟩) no k1)∧W.cell? ⟨g,i*5+3,none⟩=some (.slice a7 np k2)∧W.cell? ⟨g,i*5+4,none⟩=some (.slice a8 nw k3):=fun W h=>⟨by rw[h.cell (by omega),f1],by rw[h.cell (by omega),e1],by rw[h.cell (by omega),e2],by rw[h.cell (by omega),e3]⟩;have KG:=aD bF;have dZ:=aD d9;have bN:=aD cX;have dY:=aD bU;have fB:=aD a0;have HP:=aD (And.intro f3 (And.intro dF (And.intro dG dE)));have HA:=aD (And.intro h7 h8);clear aJ f4 hN eP eI a9 cX e1 e2 e3 h7 h8 d9 dC f3 dF dG dE cU cC cD cE dD f1 bF bU b7 Z aT a0 hx
    go_upto_region 12 with fail
    go_cut [58] (fun v wx=>v=.bool false∧Below wr.heap.size wr wx)
    case first=>
     have d0:∀W:World,Below wr.heap.size wr W->(fun W:World=>(W.cell? ⟨G,0,none⟩=some (.int .i64 p.aA)∧W.cell? ⟨G,1,none⟩=some (.slice a1 p.aE.length c1)∧W.cell? ⟨G,2,none⟩=some (.slice a2 p.aB.length c2)∧W.cell? ⟨G,3,none⟩=some (.slice a3 p.aO.length c3)∧W.cell? ⟨G,4,none⟩=some (.int .i64 p.aI))∧W.cell? ⟨g,i*5+1,none⟩=some (.bool dJ)∧W.cell? ⟨g,i*5+2,none⟩=some (.slice (some ⟨bo,0,none⟩) no k1)∧W.cell? ⟨g,i*5+3,none⟩=some (.slice a7 np k2)∧W.cell? ⟨g,i*5+4,none⟩=some (.slice a8 nw k3)) W:=fun W h=>⟨(dY.out.call h).cells5 (j:=0) rfl,KG.out _ (dP bN.out h)⟩;have e6:=aD d0;clear d0;refine zZ (S:=fun W=>(W.cell? ⟨G,0,none⟩=some (.int .i64 p.aA)∧W.cell? ⟨G,1,none⟩=some (.slice a1 p.aE.length c1)∧W.cell? ⟨G,2,none⟩=some (.slice a2 p.aB.length c2)∧W.cell? ⟨G,3,none⟩=some (.slice a3 p.aO.length c3)∧W.cell? ⟨G,4,none⟩=some (.int .i64 p.aI))∧W.cell? ⟨g,i*5+1,none⟩=some (.bool dJ)∧W.cell? ⟨g,i*5+2,none⟩=some (.slice (some ⟨bo,0,none⟩) no k1)∧W.cell? ⟨g,i*5+3,none⟩=some (.slice a7 np k2)∧W.cell? ⟨g,i*5+4,none⟩=some (.slice a8 nw k3)) 8 8 (by kernel_rfl) (by kernel_rfl) (e6.out _ (cT _)) (fun o=>?_);have E:=cT wr;obtain⟨wD,T⟩:∃W,W=wr.drew:=⟨_,rfl⟩;rw[← T] at o E ⊢;clear T
     iterate 6
      refine rJ (by rfl) (by kernel_rfl) (by exact fun _ _ _ h=>h) (by kernel_rfl) (by intro _ s; (try dsimp only at s); go_simp; try with_reducible rfl) o ?_
      try simp only[Act.put,sA,sB,sC]
     clear o;refine dX (i:=6) At.z.f.s (by kernel_rfl) (fun K1 u=>?_);go_simp;refine (aS.out wD E).mono ?_;rintro e wE ⟨rfl,b8⟩;rw[dQ.out];have P:=E.trans (b8.mono E.size);have o:=e6.out _ P;refine u.out _ _ o ?_;clear u K1 b8
     try simp only[Act.put,sA,sB,sC]
     iterate 1
      refine rJ (by rfl) (by kernel_rfl) (by exact fun _ _ _ h=>h) (by kernel_rfl) (by intro _ s; (try dsimp only at s); go_simp; try with_reducible rfl) o ?_
      try simp only[Act.put,sA,sB,sC]
     refine xX (by kernel_rfl) ?_;go_wp2;go_meet;exact⟨rfl,P⟩
    case rest=>
     obtain⟨rfl,bA⟩:=hcut;rename World=>wx;have fL:=aD (dZ.out.call bA);have fG:=aD (dP bN.out bA);have fC:=aD (fB.out.call bA);have KY:=aD fun (W:World) (hB:But (fun c=>¬((lo i<=c∧c<lo (i+1))∧c≠g)) wx W)=>KG.out W (hB.row (dP bN.out bA) fun z=>z.2 rfl);obtain⟨-,y2,-,-⟩:=KG.out wx fG.out;clear dZ bN dY aS dQ bA;go_wp2;clear y2
     go_loopw [66] (fun z V=>∃k:Nat,k<=no∧z=.int .i64 (k:Int)∧ShT V bo no bp np bw nw bb nb∧But (fun c=>¬((lo i<=c∧c<lo (i+1))∧c≠g)) wx V) (fun z _=>no-(intOf z).toNat)
     case atStart=>exact⟨0,by omega,rfl,fL.out,But.refl _ _⟩
     case round=>
      obtain⟨k,hk,rfl,l,d⟩:=hrel;rename World=>V;by_cases gU:k<no
      ·have eW:decide ((k:Int)<(no:Int))=true:=decide_eq_true (by omega)
       have gC:(k:Int)<(no:Int):=by omega
       obtain⟨-,y2,-,-⟩:=KY.out V d;obtain⟨fo,No,I,eG⟩:=l.aH;have x0:=I.cell (i:=k) (by omega);have z0:=I.frozen k
       have FS:=aD (l.set bo k (.bool true) fun z e=>by
        obtain⟨fq,Nq,dI,-⟩:=l.aB z
        exact absurd e (iU I dI (by decide)))
       have FB:=aD (d.setCell (p:=⟨bo,k,none⟩) (fun z=>z HP.out.1) (.bool true));clear l d I;go_wp2;go_roundw
       case rel=>exact⟨k+1,by omega,by go_num,FS.out,FB.out⟩
       case measure=>simp[intOf]; omega
      ·have eW:decide ((k:Int)<(no:Int))=false:=decide_eq_false (by omega);obtain⟨-,-,-,y4⟩:=KY.out V d;have fM:=aD l;have fD:=aD d;clear l d;go_wp2;clear y4
       go_loopw [85] (fun z V=>∃k:Nat,k<=nw∧z=.int .i64 (k:Int)∧ShT V bo no bp np bw nw bb nb∧But (fun c=>¬((lo i<=c∧c<lo (i+1))∧c≠g)) wx V) (fun z _=>nw-(intOf z).toNat)
       case atStart=>exact⟨0,by omega,rfl,fM.out,fD.out⟩
       case round=>
        obtain⟨m,hm,rfl,l,d⟩:=hrel;rename World=>wa;by_cases cA:m<nw
        ·have eX:decide ((m:Int)<(nw:Int))=true:=decide_eq_true (by omega)
         have gD:(m:Int)<(nw:Int):=by omega
         have e8:=HA.out.2 (by omega);subst e8;obtain⟨-,-,-,y4⟩:=KY.out wa d;obtain⟨fv,Nv,F,eH,-⟩:=l.aB (by omega);have x0:=F.cell (i:=m*5) (by omega);have z0:=F.frozen (m*5);have FS:=aD (l.set bw (m*5) (.int .i64 77) fun _ _=>by omega);have FB:=aD (d.setCell (p:=⟨bw,m*5,none⟩) (fun z=>z (HP.out.2.2.1 (by omega))) (.int .i64 77));clear l d F
         go_upto_region 23 with fail
         obtain⟨wb,hwb⟩:∃W,W=wa.setCell ⟨bw,m*5,none⟩ (.int .i64 77):=⟨_,rfl⟩;rw[← hwb] at FS FB ⊢;clear hwb x0 z0 y4;obtain⟨-,-,-,y4⟩:=KY.out wb FB.out;obtain⟨gP,gG,cZ,gA,cR⟩:=FS.out.aB (by omega);obtain⟨cv,bD⟩:=cR m cA;have x2:=cZ.cell (i:=m*5+2) (by omega);rw[bD] at x2;obtain⟨nm,cB⟩:∃r,r=nb m:=⟨_,rfl⟩
         have fY:nm<=1048576:=by rw[cB]; exact fI.out m
         rw[← cB] at x2;have dV:=aD cB;clear cZ cR bD cB;go_wp2;clear y4 x2
         go_loopw [108] (fun z V=>∃k:Nat,k<=nm∧z=.int .i64 (k:Int)∧ShT V bo no bp np bw nw bb nb∧But (fun c=>¬((lo i<=c∧c<lo (i+1))∧c≠g)) wx V) (fun z _=>nm-(intOf z).toNat)
         case atStart=>exact⟨0,by omega,rfl,FS.out,FB.out⟩
         case round=>
          obtain⟨q,hq,rfl,l,d⟩:=hrel;rename World=>wc;by_cases fU:q<nm
          ·have bH:decide ((q:Int)<(nm:Int))=true:=decide_eq_true (by omega)
           have f0:(q:Int)<(nm:Int):=by omega
           obtain⟨-,-,-,y4⟩:=KY.out wc d;obtain⟨fv,Nv,F,eH,eQ⟩:=l.aB (by omega);obtain⟨cv,bD⟩:=eQ m cA;have x2:=F.cell (i:=m*5+2) (by omega);rw[bD] at x2;obtain⟨fo,No,I,eG⟩:=l.aL m cA;have x0:=I.cell (i:=q) (by rw[← dV.out] at eG; omega);have z0:=I.frozen q;have FS:=aD (l.set (bb m) q (.bool true) fun z e=>absurd e (iU I F (by decide)));have FB:=aD (d.setCell (p:=⟨bb m,q,none⟩) (fun z=>z (HP.out.2.2.2 m cA)) (.bool true));rw[← dV.out] at x2;clear l d I F eQ bD;go_wp2;go_roundw
           case rel=>exact⟨q+1,by omega,by go_num,FS.out,FB.out⟩
           case measure=>simp[intOf]; omega
          ·have bH:decide ((q:Int)<(nm:Int))=false:=decide_eq_false (by omega);have FS:=aD l;have FB:=aD d;clear l d;go_wp2;go_roundw
           case rel=>exact⟨m+1,by omega,by go_num,FS.out,FB.out⟩
           case measure=>simp[intOf]; omega
        ·have eX:decide ((m:Int)<(nw:Int))=false:=decide_eq_false (by omega);obtain⟨-,-,y3,-⟩:=KY.out wa d;have fN:=aD l;have fE:=aD d;clear l d;go_wp2;clear y3
         go_loopw [132] (fun z V=>∃k:Nat,k<=np∧z=.int .i64 (k:Int)∧ShT V bo no bp np bw nw bb nb∧But (fun c=>¬((lo i<=c∧c<lo (i+1))∧c≠g)) wx V) (fun z _=>np-(intOf z).toNat)
         case atStart=>exact⟨0,by omega,rfl,fN.out,fE.out⟩
         case round=>
          obtain⟨q,hq,rfl,l,d⟩:=hrel;rename World=>U;by_cases fU:q<np
          ·have bH:decide ((q:Int)<(np:Int))=true:=decide_eq_true (by omega)
           have f0:(q:Int)<(np:Int):=by omega
           have e7:=HA.out.1 (by omega);subst e7;obtain⟨-,-,y3,-⟩:=KY.out U d;obtain⟨fv,Nv,F,eH⟩:=l.pts (by omega);have x0:=F.cell (i:=q*2) (by omega);have z0:=F.frozen (q*2)
           have FS:=aD (l.set bp (q*2) (.int .i64 77) fun z e=>by
            obtain⟨fq,Nq,dI,-⟩:=l.aB z
            exact absurd e (iU F dI (by decide)))
           have FB:=aD (d.setCell (p:=⟨bp,q*2,none⟩) (fun z=>z (HP.out.2.1 (by omega))) (.int .i64 77));clear l d F;go_wp2;go_roundw
           case rel=>exact⟨q+1,by omega,by go_num,FS.out,FB.out⟩
           case measure=>simp[intOf]; omega
          ·have bH:decide ((q:Int)<(np:Int))=false:=decide_eq_false (by omega);have g8:=fK.out i eY;have fT:=fH.out i (by omega);have eE:But (fun c=>(c<lo 0∨lo (i+1)<=c)∨c=g) wk U:=(fC.out.mono fun c _ hc=>by omega).trans (d.mono fun c _ hc=>by omega);have d1:=aD eE;have fQ:=KO.out U (i+1) eE;clear g8 fT l d
           go_upto_region 34 with fail
           go_cut [165] (fun v wz=>v=.bool false∧Below U.heap.size U wz)
           case first=>
            by_cases gW:i+1<ne
            ·skip
             obtain⟨t,eS⟩:∃j,j=i+1:=⟨_,rfl⟩
             have fX:t<ne:=by omega
             have gB:(t:Int)<(ne:Int):=by omega
             have f2:decide ((t:Int)<(ne:Int))=true:=decide_eq_true (by omega);have bM:=aD eS;clear eS;obtain⟨x',cH⟩:=bG L (aD C.out.symm) fX;have cQ:=bL.out x' (List.mem_of_getElem? cH);obtain h0 | ⟨N',f',-,-,cW,eF,cP⟩:=dT.out
             ·have:=C.out; omega
             rw[← C.out] at eF;obtain⟨gK,gL,gM,gJ,-,eA,cO⟩:=cP t x' cH;have eJ:=cO.but (Q:=fun _=>True) d1.out (fun c hc=>.inl (.inr (by rw[← bM.out]; exact hc.1.1))) fun _ _=>trivial;have R:=d1.out.row cW (.inr rfl);have A:=(eJ.bound (Q:=In U) fun _ _ z=>z).read;obtain⟨gI,fO,e,h0 | ⟨bv,ov,rfl,-,eO⟩⟩:=KW.out U fQ
             ·have:=C.out; omega
             obtain⟨rfl,rfl⟩:aw=some ⟨bv,ov,none⟩∧cw=fO:=by cases e; exact⟨rfl,rfl⟩
             clear e;obtain⟨h1,h2,h3,bK,g0,g1,g2,g3,g4⟩:=eO t (by have:=C.out; omega) x' cH;obtain⟨r1,s1,q1⟩:=A.1.size;obtain⟨r2,s2,q2⟩:=A.2.1.size;obtain⟨r3,s3,q3⟩:=A.2.2.size;obtain⟨t1,u1,rfl⟩:=bK.1.size;obtain⟨t2,u2,rfl⟩:=bK.2.1.size;obtain⟨t3,u3,rfl⟩:=bK.2.2.size
             have j1:U.cell? ⟨g,t*5+1,none⟩=some (.bool x'.2.ok):=by rw[R.cell (by omega),eA]
             have j2:=R.cell (i:=t*5+2) (by omega);have j3:=R.cell (i:=t*5+3) (by omega);have j4:=R.cell (i:=t*5+4) (by omega);rw[q1] at j2 A;rw[q2] at j3 A;rw[q3] at j4 A;have b6:=aD fun (W:World) (h:Below U.heap.size U W)=>jN x'.2.ok _ _ _ _ _ _ x'.2 W (A.keep (Q:=In W) (In.keep h).1 (In.keep h).2) (bK.keep (Q:=In W) (In.keep h).1 (In.keep h).2) (oH cQ);obtain⟨aW,cV⟩:∃b,b=x'.2.ok:=⟨_,rfl⟩;obtain⟨l1,eT⟩:∃m,m=x'.2.aH.length:=⟨_,rfl⟩;obtain⟨l2,eU⟩:∃m,m=x'.2.aC.length:=⟨_,rfl⟩;obtain⟨l3,eV⟩:∃m,m=x'.2.aB.length:=⟨_,rfl⟩;rw[← cV] at j1 g1 b6;rw[← eT] at j2 g2 b6;rw[← eU] at j3 g3 b6;rw[← eV] at j4 g4 b6;have fP:(fun W:World=>W.cell? ⟨g,t*5+1,none⟩=some (.bool aW)∧W.cell? ⟨g,t*5+2,none⟩=some (.slice r1 l1 s1)∧W.cell? ⟨g,t*5+3,none⟩=some (.slice r2 l2 s2)∧W.cell? ⟨g,t*5+4,none⟩=some (.slice r3 l3 s3)∧W.cell? ⟨bv,ov+t*5+1,none⟩=some (.bool aW)∧W.cell? ⟨bv,ov+t*5+2,none⟩=some (.slice t1 l1 u1)∧W.cell? ⟨bv,ov+t*5+3,none⟩=some (.slice t2 l2 u2)∧W.cell? ⟨bv,ov+t*5+4,none⟩=some (.slice t3 l3 u3)) U:=⟨j1,j2,j3,j4,g1,g2,g3,g4⟩;have e9:=aD fun (W:World) (h:Below U.heap.size U W)=>(⟨ck j1 h,ck j2 h,ck j3 h,ck j4 h,ck g1 h,ck g2 h,ck g3 h,ck g4 h⟩:(fun W:World=>W.cell? ⟨g,t*5+1,none⟩=some (.bool aW)∧W.cell? ⟨g,t*5+2,none⟩=some (.slice r1 l1 s1)∧W.cell? ⟨g,t*5+3,none⟩=some (.slice r2 l2 s2)∧W.cell? ⟨g,t*5+4,none⟩=some (.slice r3 l3 s3)∧W.cell? ⟨bv,ov+t*5+1,none⟩=some (.bool aW)∧W.cell? ⟨bv,ov+t*5+2,none⟩=some (.slice t1 l1 u1)∧W.cell? ⟨bv,ov+t*5+3,none⟩=some (.slice t2 l2 u2)∧W.cell? ⟨bv,ov+t*5+4,none⟩=some (.slice t3 l3 u3)) W)
             clear cQ cW eF cP cO eJ R A bK g0 g1 g2 g3 g4 j1 j2 j3 j4 q1 q2 q3 fP cV eT eU eV eA cH eO;refine zZ (S:=fun W=>W.cell? ⟨g,t*5+1,none⟩=some (.bool aW)∧W.cell? ⟨g,t*5+2,none⟩=some (.slice r1 l1 s1)∧W.cell? ⟨g,t*5+3,none⟩=some (.slice r2 l2 s2)∧W.cell? ⟨g,t*5+4,none⟩=some (.slice r3 l3 s3)∧W.cell? ⟨bv,ov+t*5+1,none⟩=some (.bool aW)∧W.cell? ⟨bv,ov+t*5+2,none⟩=some (.slice t1 l1 u1)∧W.cell? ⟨bv,ov+t*5+3,none⟩=some (.slice t2 l2 u2)∧W.cell? ⟨bv,ov+t*5+4,none⟩=some (.slice t3 l3 u3)) 21 21 (by kernel_rfl) (by kernel_rfl) (e9.out _ (cT _)) (fun o=>?_);have E:=cT U;obtain⟨wD,T⟩:∃W,W=U.drew:=⟨_,rfl⟩;rw[← T] at o E ⊢;clear T
             iterate 2
              refine rJ (by rfl) (by kernel_rfl) (by exact fun _ _ _ h=>h) (by kernel_rfl) (by intro _ s; (try dsimp only at s); go_simp; try with_reducible rfl) o ?_
              try simp only[Act.put,sA,sB,sC]
             rw[show IntKind.i64.wrap ((i:Int)+1)=(t:Int) from (IntWalk.i64_in _ ⟨by omega,by omega⟩).trans (by have:=bM.out; omega)]
             iterate 7
              refine rJ (by rfl) (by kernel_rfl) (by exact fun _ _ _ h=>h) (by kernel_rfl) (by intro _ s; (try dsimp only at s); go_simp; try with_reducible rfl) o ?_
              try simp only[Act.put,sA,sB,sC]
             rw[show IntKind.i64.wrap ((i:Int)+1)=(t:Int) from (IntWalk.i64_in _ ⟨by omega,by omega⟩).trans (by have:=bM.out; omega)]
             iterate 6
              refine rJ (by rfl) (by kernel_rfl) (by exact fun _ _ _ h=>h) (by kernel_rfl) (by intro _ s; (try dsimp only at s); go_simp; try with_reducible rfl) o ?_
              try simp only[Act.put,sA,sB,sC]
             rw[show IntKind.i64.wrap ((i:Int)+1)=(t:Int) from (IntWalk.i64_in _ ⟨by omega,by omega⟩).trans (by have:=bM.out; omega)]
             iterate 3
              refine rJ (by rfl) (by kernel_rfl) (by exact fun _ _ _ h=>h) (by kernel_rfl) (by intro _ s; (try dsimp only at s); go_simp; try with_reducible rfl) o ?_
              try simp only[Act.put,sA,sB,sC]
             clear o;refine dX (i:=18) At.z.f.f.f.s.s.s (by kernel_rfl) (fun K1 u=>?_);rw[if_pos (by kernel_rfl)];go_simp;refine (b6.out wD E).mono ?_;rintro e wE ⟨rfl,b8⟩;have P:=E.trans (b8.mono E.size);have o:=e9.out _ P;refine u.out _ _ o ?_;clear u K1 b8
             try simp only[Act.put,sA,sB,sC]
             iterate 2
              refine rJ (by rfl) (by kernel_rfl) (by exact fun _ _ _ h=>h) (by kernel_rfl) (by intro _ s; (try dsimp only at s); go_simp; try with_reducible rfl) o ?_
              try simp only[Act.put,sA,sB,sC]
             refine xX (by kernel_rfl) ?_;go_wp2;go_meet;exact⟨rfl,P⟩
            ·have f2:decide ((i:Int)+1<(ne:Int))=false:=decide_eq_false (by omega);refine zZ (S:=fun _=>True) 21 21 (by kernel_rfl) (by kernel_rfl) trivial (fun o=>?_);have E:=cT U;obtain⟨wD,T⟩:∃W,W=U.drew:=⟨_,rfl⟩;rw[← T] at E ⊢;clear T
             iterate 2
              refine rJ (by rfl) (by kernel_rfl) (by exact fun _ _ _ h=>h) (by kernel_rfl) (by intro _ s; (try dsimp only at s); go_simp; try with_reducible rfl) o ?_
              try simp only[Act.put,sA,sB,sC]
             rw[show IntKind.i64.wrap ((i:Int)+1)=(i:Int)+1 from IntWalk.i64_in _ ⟨by omega,by omega⟩]
             iterate 4
              refine rJ (by rfl) (by kernel_rfl) (by exact fun _ _ _ h=>h) (by kernel_rfl) (by intro _ s; (try dsimp only at s); go_simp; try with_reducible rfl) o ?_
              try simp only[Act.put,sA,sB,sC]
             iterate 14
              refine Ez (by rfl) (by kernel_rfl) (by exact fun _ _ _ h=>h) (by kernel_rfl) o ?_
              try simp only[Act.put,sA,sB,sC]
             iterate 1
              refine rJ (by rfl) (by kernel_rfl) (by exact fun _ _ _ h=>h) (by kernel_rfl) (by intro _ s; (try dsimp only at s); go_simp; try with_reducible rfl) o ?_
              try simp only[Act.put,sA,sB,sC]
             refine xX (by kernel_rfl) ?_;go_wp2;go_meet;exact⟨rfl,E⟩
           case rest=>
            obtain⟨rfl,bB⟩:=hcut;have fF:=aD (d1.out.call bB);clear bB;go_wp2;go_roundw
            case rel=>exact⟨i+1,by omega,by go_num,fF.out⟩
            case measure=>simp[intOf]; omega
   ·have eZ:decide ((i:Int)<(ne:Int))=false:=decide_eq_false (by omega);have b2:=aD (zU _ _ _ _ p es wr (KP.out _ Z) (KC.out _ Z) (KE.out _ Z) HR.out.small b1.out (ck HG.out aT));obtain⟨x0,x1,x2,x3,x4⟩:=bU.cells5 (j:=0) rfl;have cI:=aD aT;clear Z aT bU b7 a0
    go_wp2_with fail
    refine b2.out.mono ?_;clear b2 x0 x1 x2 x3 x4;rintro e V ⟨vy,rfl,dA,c8⟩;rw[dU.out] at c8;have eD:=cM.out.trans (dA.mono cM.out.size);have e4:=aD (kM _ _ L V (c8.read.keep (hU _ _) (Q:=In V) fun b y=>y.2) (KW.out _ eD) (by rw[← C.out]; omega) fun x hx=>oH (bL.out x hx));have cK:=aD (cI.out.trans (dA.mono cI.out.size));obtain⟨ay,cy,rfl⟩:=c8.read.size;clear c8 dA eD
    go_wp2_with fail
    refine e4.out.mono ?_;clear e4;rintro e wz ⟨rfl,bB⟩;have dL:=aD (cK.out.trans (bB.mono cK.out.size));clear bB;go_wp2;go_ret;exact⟨rfl,dL.out⟩
end Go.Proofs.YtdhinkgjiapigaaGreatDoor

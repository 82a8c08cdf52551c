import Derived.Test.YtdhinkgjiapigaaGreatDoorRunS
import Derived.Test.YtdhinkgjiapigaaGreatDoorDqI
import Derived.Test.YtdhinkgjiapigaaGreatDoorDqF
namespace Go.Proofs.YtdhinkgjiapigaaGreatDoor
open Classical Go.Deep Go.RowKit
theorem aP.uK {P:Nat->Prop}{W W':World}{v1 v2 v3:Value}{d:aF}{k l m:Nat}{bb:Nat->Nat}{base size n:Nat}{u:Value}{xs:List Value}(h:aP P W v1 v2 v3 d k l m bb) (a:W.grownBy W' u.ownBlock) (i:W.ownsRow base 55 size u n xs):aP P W' v1 v2 v3 d k l m bb:=by
 have o:But (fun c=>some c≠u.ownBlock) W W':=⟨a.os,a.tape,a.output,a.size,fun c j p=>a.block c j p⟩
 cases e:u.ownBlock with
 | none=>exact h.but o (fun c _=>by rw[e]; exact fun z=>by cases z) fun _ z=>z
 | some g=>
  refine (h.away (g:=g) fun t N f b q r=>(gJ i e).2.2 t N f b q ?_).but o (fun c j=>by rw[e]; exact fun z=>j.2 (Option.some.inj z)) fun _ z=>z.1
  rcases r with rfl | rfl | rfl <;> decide
section
variable {w : World}{cb : Nat}{pc : Array Value}{fb K : Nat}{W : World}{v : Value}{es : List (Int×Int×Int)}{d : aF}{u1 u2 u3 : Value}
end
theorem aT.Small.mono {m n:Nat}{x:aT}(h:x.Small m) (a:m<=n):x.Small n:=⟨Nat.le_trans h.1 a,Nat.le_trans h.2.1 a,Nat.le_trans h.2.2.1 a,Nat.le_trans h.2.2.2.1 a,Nat.le_trans h.2.2.2.2 a⟩
theorem Right.small {p:aK}(h:Right p):p.Small 1048576:=by
 have a:=h.parts;refine⟨Nat.le_trans a.1.2.1 (by omega),Nat.le_trans a.1.2.2.1 (by omega),fun x e=>?_,?_,fun r d=>?_⟩
 ·obtain⟨i,hi⟩:=List.getElem?_of_mem e;exact (h.way hi).small.mono (by omega)
 ·rw[a.2.2.2.1];exact Nat.le_trans a.1.2.2.1 (by omega)
 ·obtain⟨i,hi⟩:=List.getElem?_of_mem d;have b:r.length=p.aB.length:=Decidable.byContradiction fun c=>a.2.2.2.2.1 i ((vQ hi).2 c);rw[b];exact Nat.le_trans a.1.2.2.1 (by omega)
structure jE (w:World) (cb:Nat) (pc:Array Value) (fb:Nat) (K:iW) (W:World) (v:Value) (es:List (Int×Int×Int)) (d:aF) (u1 u2 u3:Value):Prop where
 but:But (fun c=>c≠cb) w W
 cur:eW W cb K
 box:W.rowIs w.heap.size 27 5 (fun i=>pc[i]!)
 cA:W.rowIs fb 40 4 (fun i=>(#[.bool d.ok,u1,u2,u3]:Array Value)[i]!)
 own:W.ownsRow (w.heap.size+1) 55 3 v es.length (qX es)
 frame:∃bo bp bw bb,aP (fun c=>w.heap.size<=c) W u1 u2 u3 d bo bp bw bb
 mR:w.heap.size<fb
 hcb:cb<w.heap.size
section
variable {w : World}{cb : Nat}{pc : Array Value}{fb : Nat}{K : iW}{W : World}{v : Value}{es : List (Int×Int×Int)}{d : aF}{u1 u2 u3 : Value}
theorem jE.pick (h:jE w cb pc fb K W v es d u1 u2 u3) {W':World}{L:iW}(a:But (fun c=>c≠cb) W W') (b:eW W' cb L):jE w cb pc fb L W' v es d u1 u2 u3:=by
 have j:=h.hcb;have k:=h.mR;obtain⟨e,f,g,bb,i⟩:=h.frame;exact⟨h.but.trans a,b,a.row h.box (by omega),a.row h.cA (by omega),iY h.own a fun c b _=>by omega,⟨e,f,g,bb,i.but a (fun c b=>by omega) fun _ z=>z⟩,h.mR,h.hcb⟩
theorem jE.call (h:jE w cb pc fb K W v es d u1 u2 u3) {W':World}(a:Below W.heap.size W W'):jE w cb pc fb K W' v es d u1 u2 u3:=
 h.pick (But.aG a) (h.cur.but (Q:=fun _=>True) (But.aG a) fun _ _=>trivial)
theorem jE.mono {k L i:Nat}{z:Src}(h:jE w cb pc fb ⟨k,i,z⟩ W v es d u1 u2 u3) (a:k<=L):jE w cb pc fb ⟨L,i,z⟩ W v es d u1 u2 u3:=⟨h.but,h.cur.mono a,h.box,h.cA,h.own,h.frame,h.mR,h.hcb⟩
theorem jE.put (h:jE w cb pc fb K W v es d u1 u2 u3) {P:Nat->Prop}{b f j:Value}{x:aF}{n p q:Nat}{bb:Nat->Nat}(r:aP P W b f j x n p q bb) (t:∀c,P c->w.heap.size<=c) :
  jE w cb pc fb K ((((W.setCell ⟨fb,0,none⟩ (.bool x.ok)).setCell ⟨fb,1,none⟩ b).setCell ⟨fb,2,none⟩ f).setCell ⟨fb,3,none⟩ j) v es x b f j∧But (fun c=>c≠fb) W ((((W.setCell ⟨fb,0,none⟩ (.bool x.ok)).setCell ⟨fb,1,none⟩ b).setCell ⟨fb,2,none⟩ f).setCell ⟨fb,3,none⟩ j):=by
 have u:=h.hcb;have y:=h.mR;have k:∀o:Nat,¬((fun c=>c≠fb) (⟨fb,o,none⟩:Addr).block):=fun o z=>z rfl;have a:=((((But.refl (fun c=>c≠fb) W).setCell (k 0) (.bool x.ok)).setCell (k 1) b).setCell (k 2) f).setCell (k 3) j;have l:=r.boxed h.cA ⟨by decide,by decide,by decide⟩ a fun _ z=>z;refine⟨⟨h.but.low (a.below h.but.size fun c s=>by omega),h.cur.but a fun c s=>by omega,a.row h.box (by omega),?_,?_,⟨n,p,q,bb,l.but (K:=fun _=>True) (But.refl _ _) (fun _ _=>trivial) t⟩,h.mR,h.hcb⟩,a⟩
 ·refine ((((h.cA.set 0 _).set 1 _).set 2 _).set 3 _).congr fun i hi=>?_;rcases i with _ | _ | _ | _ | i
  ·rfl
  ·rfl
  ·rfl
  ·rfl
  ·omega
 ·exact gD h.own a fun g m e=>(gJ h.own m).2.2 _ _ _ _ h.cA (by decide) e.symm
theorem jE.add (h:jE w cb pc fb K W v es d u1 u2 u3) {W':World}(a:W.grownBy W' v.ownBlock) {v':Value}{x:Int×Int×Int}{m:Nat}(s:W'.ownsRow (w.heap.size+1) 55 3 v' m (qX es++[.int .i64 x.1,.int .i64 x.2.1,.int .i64 x.2.2])) (r:m=es.length+1):jE w cb pc fb K W' v' (es++[x]) d u1 u2 u3:=by
 have A:=h.hcb;have C:=h.mR;have f:But (fun c=>some c≠v.ownBlock) W W':=⟨a.os,a.tape,a.output,a.size,fun c k q=>a.block c k q⟩;have j:∀ {b t N:Nat}{g:Nat->Value},W.rowIs b t N g->t≠55->some b≠v.ownBlock:=fun u y e=>(gJ h.own e.symm).2.2 _ _ _ _ u y rfl;have i:=mH h.own a (B:=w.heap.size) (by omega) (Nat.le_trans h.but.size (Nat.le_refl _));obtain⟨l,n,o,bb,p⟩:=h.frame;refine⟨h.but.low i,h.cur.but (But.of_below (K:=fun c=>c<w.heap.size) i fun _ _ z=>z) fun c k=>by omega,f.row h.box (j h.box (by decide)),f.row h.cA (j h.cA (by decide)),?_,⟨l,n,o,bb,p.uK a h.own⟩,h.mR,h.hcb⟩;rw[Fh,List.length_append,List.length_singleton,← r];exact s
theorem jE.plan (h:jE w cb pc fb K W v es d u1 u2 u3) {b c e:Value}{p:aK}(f:aZ (fun _b=>_b<w.heap.size∧_b≠cb) w b c e p):aZ (fun _b=>_b<W.heap.size∧_b≠cb) W b c e p:=f.keep (h.but.same fun _b a=>a) fun _b a=>⟨Nat.lt_of_lt_of_le a.1 h.but.size,a.2⟩
theorem jE.read (h:jE w cb pc fb K W v es d u1 u2 u3):bB (fun b=>b<W.heap.size∧b≠cb) W u1 u2 u3 d:=by
 have a:=h.hcb;obtain⟨g,i,j,bb,f⟩:=h.frame;exact (f.bound (Q:=fun b=>b<W.heap.size∧b≠cb) fun c a e=>⟨e,by omega⟩).read
end
def pM (z:Src) (p:aK) (d:aF) (i:Nat):(Int×Int×Int)×Nat:=
 if (aU z 30 (eZ z p d i).2).1=0 then nM z (aU z 30 (eZ z p d i).2).2 else ((eZ z p d i).1,(aU z 30 (eZ z p d i).2).2)
theorem rV {z:Src}{p:aK}{d:aF}{i b c f:Nat}{e a:Int×Int×Int}(g:eZ z p d i=(e,b)) (h:aU z 30 b=(0,c)) (j:nM z c=(a,f)):pM z p d i=(a,f):=by
 unfold pM;rw[g];simp only;rw[h,if_pos rfl,j]
theorem uJ {z:Src}{p:aK}{d:aF}{i a b r:Nat}{e:Int×Int×Int}(c:eZ z p d i=(e,a)) (f:aU z 30 a=(r,b)) (g:¬r=0):pM z p d i=(e,b):=by
 unfold pM;rw[c];simp only;rw[f,if_neg g]
def iL (z:Src) (p:aK):Nat->List (Int×Int×Int)->aF->Nat->List (Int×Int×Int)
 | 0,es,_,_=>es
 | k+1,es,d,i=>iL z p k (es++[(pM z p d i).1]) (jW p d (pM z p d i).1).2 (pM z p d i).2
theorem nN {z:Src}{p:aK}{d a:aF}{k i j:Nat}{e:Int×Int×Int}{es:List (Int×Int×Int)}(f:0<k) (h:pM z p d i=(e,j)) (c:a=(jW p d e).2):iL z p (k-1) (es++[e]) a j=iL z p k es d i:=by
 obtain⟨k,rfl⟩:∃m,k=m+1:=⟨k-1,by omega⟩;have b:iL z p (k+1) es d i=iL z p k (es++[(pM z p d i).1]) (jW p d (pM z p d i).1).2 (pM z p d i).2:=rfl;rw[b,h,c];rfl
def pX (z:Src) (p:aK) (most i:Nat) (es:List (Int×Int×Int)):Prop:=∃n j,aU z most i=(n,j)∧es=iL z p n [] (bT p) j
theorem pX.inj {z:Src}{p:aK}{c i:Nat}{a b:List (Int×Int×Int)}(h:pX z p c i a) (g:pX z p c i b):a=b:=by
 obtain⟨n,j,e,rfl⟩:=h;obtain⟨m,k,d,rfl⟩:=g;obtain⟨rfl,rfl⟩:=Prod.mk.inj (e.symm.trans d);rfl
set_option maxRecDepth 100000 in
set_option maxHeartbeats 16000000 in
theorem nJ (U:Src) (cb K jj N:Nat) (p1 p2 p3:Value) (p:aK) (w:World) (hc:eW w cb ⟨K,jj,U⟩) (hK:K<=100000) (hm:N<=50) (hp:aZ (fun b=>b<w.heap.size∧b≠cb) w p1 p2 p3 p) (hr:Right p) :
  Calls Tryz.prog 36 #[.pointer (some ⟨cb,0,none⟩),.agg #[.int .i64 p.aA,p1,p2,p3,.int .i64 p.aI],.int .i64 (N:Int)] w fun e w'=>∃v es,e=.returned v∧pL (fun c=>w.heap.size<=c∧c<w'.heap.size) w' v es∧es.length<=50∧But (fun c=>c≠cb) w w'∧pX U p N jj es:=by
 have hcb:=hc.lt;have bW:=aD hp;obtain⟨a1,c1,rfl⟩:=hp.1.size;obtain⟨a2,c2,rfl⟩:=hp.2.1.size;obtain⟨a3,c3,rfl⟩:=hp.2.2.size;have T0:=cZ w 27 #[.int .i64 p.aA,.slice a1 p.aE.length c1,.slice a2 p.aB.length c2,.slice a3 p.aO.length c3,.int .i64 p.aI];have HS:=aD hr.small;have HR:=aD hr;have aX:=aD (Cx _ _ _ p _ (hp.keep (Q:=In (w.alloc (.cells #[.int .i64 p.aA,.slice a1 p.aE.length c1,.slice a2 p.aB.length c2,.slice a3 p.aO.length c3,.int .i64 p.aI] 27))) (fW T0.below fun b hb=>hb.1) fun b hb=>(In.keep T0.below).2 b hb.1) hr.small);have bB:=aD T0;have HC:=aD hc;clear hp hr T0 hc;go_enter Tryz.func36,Tryz.ntmps36
 go_wp2_with fail
 refine aX.out.mono ?_;clear aX;rintro e w3 ⟨u1,u2,u3,rfl,hb,aT⟩;have hz:qZ p=bT p:=if_pos HR.out;rw[hz] at aT ⊢;have T3:=bB.out.call hb;obtain⟨bo,bp,bw,bb,hF⟩:=aT.own (vB (xM HR.out));obtain⟨q1,s1,q2,s2,q3,s3,rfl,rfl,rfl⟩:=aT.slices;have I:=bC w3 (.cells #[.bool (bT p).ok,.slice q1 (bT p).aH.length s1,.slice q2 (bT p).aC.length s2,.slice q3 (bT p).aB.length s3] 40);have a7:=dH w3 40 #[.bool (bT p).ok,.slice q1 (bT p).aH.length s1,.slice q2 (bT p).aC.length s2,.slice q3 (bT p).aB.length s3];have T4:=T3.call I;have cR:=bB.out.below.size
 have D0:jE w cb #[.int .i64 p.aA,.slice a1 p.aE.length c1,.slice a2 p.aB.length c2,.slice a3 p.aO.length c3,.int .i64 p.aI] w3.heap.size ⟨K,jj,U⟩ (w3.alloc (.cells #[.bool (bT p).ok,.slice q1 (bT p).aH.length s1,.slice q2 (bT p).aC.length s2,.slice q3 (bT p).aB.length s3] 40)) (.slice none 0 0) [] (bT p) (.slice q1 (bT p).aH.length s1) (.slice q2 (bT p).aC.length s2) (.slice q3 (bT p).aB.length s3):=
  ⟨But.aG T4.below,HC.out.but (Q:=fun _=>True) (But.aG T4.below) fun _ _=>trivial,T4.row 0 _ _ rfl,a7,World.ownsRow_nil _ _ _ _,⟨bo,bp,bw,bb,hF.but (K:=fun _=>True) (But.aG I) (fun _ _=>trivial) fun c hc=>by omega⟩,T3.lt (j:=0) rfl,hcb⟩
 have b6:=aD D0;clear T3 T4 hF aT hb I a7 D0 hz bB HC cR
 go_wp2_with fail
 refine (bA U cb K jj N _ b6.out.cur (by omega) (by omega)).mono ?_;rintro e w4 ⟨n0,rfl,d8,j0,a6,P,hq⟩;have cX:=aD hq;clear hq;have aN:=aD (b6.out.pick P a6)
 have dB:n0<=49:=by omega
 obtain⟨fb,cL⟩:∃fb,fb=w3.heap.size:=⟨_,rfl⟩;rw[← cL] at aN ⊢;obtain⟨F,hF⟩:∃F,F=bT p:=⟨_,rfl⟩
 have aY:Hid (cJ p F):=by show cJ p F; rw[hF]; exact xM HR.out
 rw[← hF] at aN ⊢;have cT:=aD hF;clear a6 P d8 b6 cL hF;go_wp2
 go_loopw [7,9] (fun o z wr=>∃(k:Nat) (es:List (Int×Int×Int)) (d:aF) (u1 u2 u3:Value) (je:Nat),es.length+k<=49∧z=.int .i64 (k:Int)∧cJ p d∧jE w cb #[.int .i64 p.aA,.slice a1 p.aE.length c1,.slice a2 p.aB.length c2,.slice a3 p.aO.length c3,.int .i64 p.aI] fb ⟨K+2+20*(49-k),je,U⟩ wr o es d u1 u2 u3∧iL U p k es d je=iL U p n0 [] F j0) (fun _ z _=>(intOf z).toNat)
 case atStart=>exact⟨n0,[],F,_,_,_,j0,by show 0+n0<=49; omega,rfl,aY.out,aN.out.mono (by omega),rfl⟩
 case round=>
  obtain⟨k,es,d,u1,u2,u3,je,d7,rfl,aU,D,cM⟩:=hrel;have bU:=aD cM;clear cM;rename World=>wr;rename Value=>vo;clear aN aY;obtain⟨ne,aV⟩:∃m,m=es.length:=⟨_,rfl⟩;obtain⟨a5,c5,e5⟩:=zag D.own;rw[← aV] at e5 d7;subst e5;have O:=aD aV;have R:=D.read;obtain⟨o1,m1,rfl⟩:=R.1.size;obtain⟨o2,m2,rfl⟩:=R.2.1.size;obtain⟨o3,m3,rfl⟩:=R.2.2.size;obtain⟨K1,aR⟩:∃b,b=K+2+20*(49-k):=⟨_,rfl⟩;rw[← aR] at D;have cU:=aD aR
  have dA:K1<=200000:=by omega
  have aP:=aD aU;by_cases hz:0<k
  ·have d9:decide ((0:Int)<(k:Int))=true:=decide_eq_true (by omega);have bR:=aD (kU U cb K1 je _ _ _ _ _ _ p d wr D.cur (by omega) (D.plan bW.out) R aU);have y0:wr.cell? ⟨w.heap.size,0,none⟩=some (.int .i64 p.aA):=D.box.cell (i:=0) (by omega);have y1:wr.cell? ⟨w.heap.size,1,none⟩=some (.slice a1 p.aE.length c1):=D.box.cell (i:=1) (by omega);have y2:wr.cell? ⟨w.heap.size,2,none⟩=some (.slice a2 p.aB.length c2):=D.box.cell (i:=2) (by omega);have y3:wr.cell? ⟨w.heap.size,3,none⟩=some (.slice a3 p.aO.length c3):=D.box.cell (i:=3) (by omega);have y4:wr.cell? ⟨w.heap.size,4,none⟩=some (.int .i64 p.aI):=D.box.cell (i:=4) (by omega);have x0:wr.cell? ⟨fb,0,none⟩=some (.bool d.ok):=D.cA.cell (i:=0) (by omega);have x1:wr.cell? ⟨fb,1,none⟩=some (.slice o1 d.aH.length m1):=D.cA.cell (i:=1) (by omega);have x2:wr.cell? ⟨fb,2,none⟩=some (.slice o2 d.aC.length m2):=D.cA.cell (i:=2) (by omega);have x3:wr.cell? ⟨fb,3,none⟩=some (.slice o3 d.aB.length m3):=D.cA.cell (i:=3) (by omega);have HD:=aD D;clear R D aU aR aV
   go_wp2_with fail
   refine bR.out.mono ?_;clear bR y0 y1 y2 y3 y4 x0 x1 x2 x3;rintro e w2 ⟨op,of,G,rfl,-,jA,aS,c7,hq⟩;have bX:=aD hq;clear hq;have D2:=HD.out.pick c7 aS;have I:=bC w2 (.cells #[.int .i64 op,.int .i64 of,.int .i64 G] 55);have a7:(w2.alloc (.cells #[.int .i64 op,.int .i64 of,.int .i64 G] 55)).rowIs w2.heap.size 55 3 (fun i=>(#[.int .i64 op,.int .i64 of,.int .i64 G]:Array Value)[i]!):=dH w2 55 #[.int .i64 op,.int .i64 of,.int .i64 G];have bP:=aD (D2.call I);have aM:=aD D2;have bZ:=aD a7;have bO:=aD I;have dD:cb<w2.heap.size:=Nat.lt_of_lt_of_le hcb D2.but.size;clear aS c7 D2 I a7 HD
   go_wp2_with fail
   refine (bA U cb (K1+10) jA 30 _ bP.out.cur (by omega) (by omega)).mono ?_;rintro e w4 ⟨r,rfl,hr,jB,a6,P,hq⟩;have bY:=aD hq;clear hq;have M:=P.row bZ.out (by omega);have b0:=(But.aG (K:=fun c=>c≠cb) bO.out).trans P;obtain⟨B,bI⟩:∃b,b=w2.heap.size:=⟨_,rfl⟩;rw[← bI] at M ⊢;have b8:=aD bI;have t:=aD M;have aJ:=aD b0;have aL:=aD a6;clear bI M b0 a6 P hr bP bZ bO
   go_upto_if 27 with fail
   go_cut [] (fun wc=>∃(op of G:Int) (jC:Nat),jE w cb #[.int .i64 p.aA,.slice a1 p.aE.length c1,.slice a2 p.aB.length c2,.slice a3 p.aO.length c3,.int .i64 p.aI] fb ⟨K1+20,jC,U⟩ wc (.slice a5 ne c5) es d (.slice o1 d.aH.length m1) (.slice o2 d.aC.length m2) (.slice o3 d.aB.length m3)∧wc.rowIs B 55 3 (fun i=>(#[.int .i64 op,.int .i64 of,.int .i64 G]:Array Value)[i]!)∧pM U p d je=((op,of,G),jC))
   case first=>
    by_cases cP:r=0
    ·subst cP;have D4:=aM.out.pick aJ.out aL.out;have y0:w4.cell? ⟨w.heap.size,0,none⟩=some (.int .i64 p.aA):=D4.box.cell (i:=0) (by omega);have y1:w4.cell? ⟨w.heap.size,1,none⟩=some (.slice a1 p.aE.length c1):=D4.box.cell (i:=1) (by omega);have y2:w4.cell? ⟨w.heap.size,2,none⟩=some (.slice a2 p.aB.length c2):=D4.box.cell (i:=2) (by omega);have y3:w4.cell? ⟨w.heap.size,3,none⟩=some (.slice a3 p.aO.length c3):=D4.box.cell (i:=3) (by omega);have y4:w4.cell? ⟨w.heap.size,4,none⟩=some (.int .i64 p.aI):=D4.box.cell (i:=4) (by omega);have bV:=aD (nF U cb _ _ p.aA p.aI a1 a2 a3 p.aE.length p.aB.length p.aO.length c1 c2 c3 w4 aL.out (by omega));clear D4
     go_wp2_with fail
     refine bV.out.mono ?_;clear bV y0 y1 y2 y3 y4;rintro e w5 ⟨T,S,y,rfl,-,jO,cI,bE,hq⟩;have cY:=aD hq;clear hq;have l:=bE.row t.out (by have:=b8.out; omega);have r0:=l.cell (i:=0) (by omega);have r1:=l.cell (i:=1) (by omega);have r2:=l.cell (i:=2) (by omega);have k0:=l.frozen 0;have k1:=l.frozen 1;have k2:=l.frozen 2;have hk:∀o:Nat,¬((fun c=>c≠B) (⟨B,o,none⟩:Addr).block):=fun o z=>z rfl;have cB:=(((But.refl (fun c=>c≠B) w5).setCell (hk 0) (.int .i64 T)).setCell (hk 1) (.int .i64 S)).setCell (hk 2) (.int .i64 y);have bJ:w2.heap.size<=B:=Nat.le_of_eq b8.out.symm;have cC:=(((aJ.out.trans bE).cN (p:=⟨B,0,none⟩) bJ (.int .i64 T)).cN (p:=⟨B,1,none⟩) bJ (.int .i64 S)).cN (p:=⟨B,2,none⟩) bJ (.int .i64 y);have Y:=aD ((aM.out.pick cC (cI.but cB fun c hc=>by have:=b8.out; omega)).mono (L:=K1+20) (by omega))
     have b5:Hid (((((w5.setCell ⟨B,0,none⟩ (.int .i64 T)).setCell ⟨B,1,none⟩ (.int .i64 S)).setCell ⟨B,2,none⟩ (.int .i64 y))).rowIs B 55 3 (fun i=>(#[.int .i64 T,.int .i64 S,.int .i64 y]:Array Value)[i]!)):=(((l.set 0 (.int .i64 T)).set 1 (.int .i64 S)).set 2 (.int .i64 y)).congr fun i hi=>by
      rcases i with _ | _ | _ | i
      ·rfl
      ·rfl
      ·rfl
      ·omega
     clear cI bE l cB cC;go_wp2;go_meet
     case rel=>exact⟨T,S,y,jO,Y.out,b5.out,rV bX.out bY.out cY.out⟩
    ·have dC:((r:Int) == 0)=false:=by simp; omega
     go_wp2;go_meet
     case rel=>exact⟨op,of,G,jB,(aM.out.pick aJ.out aL.out).mono (by omega),t.out,uJ bX.out bY.out cP⟩
   case rest=>
    obtain⟨g,f,a,jC,n,E,cK⟩:=hcut;have cS:=aD cK;clear cK;clear aM t aJ aL;have b9:=aD (Du _ _ _ _ _ _ p d g f a wc ((n.plan bW.out).keep (hU _ _) fun b hb=>hb.1) (n.read.keep (hU _ _) fun b hb=>hb.1) HS.out (oH aP.out));have y0:wc.cell? ⟨w.heap.size,0,none⟩=some (.int .i64 p.aA):=n.box.cell (i:=0) (by omega);have y1:wc.cell? ⟨w.heap.size,1,none⟩=some (.slice a1 p.aE.length c1):=n.box.cell (i:=1) (by omega);have y2:wc.cell? ⟨w.heap.size,2,none⟩=some (.slice a2 p.aB.length c2):=n.box.cell (i:=2) (by omega);have y3:wc.cell? ⟨w.heap.size,3,none⟩=some (.slice a3 p.aO.length c3):=n.box.cell (i:=3) (by omega);have y4:wc.cell? ⟨w.heap.size,4,none⟩=some (.int .i64 p.aI):=n.box.cell (i:=4) (by omega);have x0:wc.cell? ⟨fb,0,none⟩=some (.bool d.ok):=n.cA.cell (i:=0) (by omega);have x1:wc.cell? ⟨fb,1,none⟩=some (.slice o1 d.aH.length m1):=n.cA.cell (i:=1) (by omega);have x2:wc.cell? ⟨fb,2,none⟩=some (.slice o2 d.aC.length m2):=n.cA.cell (i:=2) (by omega);have x3:wc.cell? ⟨fb,3,none⟩=some (.slice o3 d.aB.length m3):=n.cA.cell (i:=3) (by omega);have e0:wc.cell? ⟨B,0,none⟩=some (.int .i64 g):=E.cell (i:=0) (by omega);have e1:wc.cell? ⟨B,1,none⟩=some (.int .i64 f):=E.cell (i:=1) (by omega);have e2:wc.cell? ⟨B,2,none⟩=some (.int .i64 a):=E.cell (i:=2) (by omega);obtain⟨X,hX⟩:∃X,X=uD p d g f a:=⟨_,rfl⟩;rw[← hX] at b9;have bD:=aD hX;have b7:=aD n
    have t:=aD E;clear hX n E
    go_wp2_with fail
    refine b9.out.mono ?_;clear b9 y0 y1 y2 y3 y4 x0 x1 x2 x3 e0 e1 e2;rintro e w7 ⟨n1,n2,n3,rfl,bF,bK⟩;obtain⟨j1,t1,j2,t2,j3,t3,rfl,rfl,rfl⟩:=bK.slices;have bL:=bC w7 (.cells #[.int .i64 X.1,.bool X.2.ok,.slice j1 X.2.aH.length t1,.slice j2 X.2.aC.length t2,.slice j3 X.2.aB.length t3] 42);have bH:(w7.alloc (.cells #[.int .i64 X.1,.bool X.2.ok,.slice j1 X.2.aH.length t1,.slice j2 X.2.aC.length t2,.slice j3 X.2.aB.length t3] 42)).rowIs w7.heap.size 42 5 (fun i=>(#[.int .i64 X.1,.bool X.2.ok,.slice j1 X.2.aH.length t1,.slice j2 X.2.aC.length t2,.slice j3 X.2.aB.length t3]:Array Value)[i]!):=dH w7 42 #[.int .i64 X.1,.bool X.2.ok,.slice j1 X.2.aH.length t1,.slice j2 X.2.aC.length t2,.slice j3 X.2.aB.length t3];have bG:=bF.trans (bL.mono bF.size);have D8:=b7.out.call bG;have a8:=dP t.out bG;have cO:=bK.call bL;have d0:(w7.alloc (.cells #[.int .i64 X.1,.bool X.2.ok,.slice j1 X.2.aH.length t1,.slice j2 X.2.aC.length t2,.slice j3 X.2.aB.length t3] 42)).cell? ⟨w7.heap.size,0,none⟩=some (.int .i64 X.1):=bH.cell (i:=0) (by omega);have Z:=aD D8;have q:=aD a8;have a0:=aD cO;have H:=aD bH;have dE:w.heap.size<=wc.heap.size:=b7.out.but.size;clear bF bK bL bH bG D8 a8 cO b7 t
    go_upto_if 37 with fail
    obtain⟨Wd,cF⟩:∃W,W=w7.alloc (.cells #[.int .i64 X.1,.bool X.2.ok,.slice j1 X.2.aH.length t1,.slice j2 X.2.aC.length t2,.slice j3 X.2.aB.length t3] 42):=⟨_,rfl⟩;obtain⟨db,b1⟩:∃db,db=w7.heap.size:=⟨_,rfl⟩;rw[← cF] at Z q a0 H ⊢;rw[← b1] at H ⊢;clear cF b1 d0
    go_cut [] (fun V=>∃(d':aF) (v1 v2 v3:Value),cJ p d'∧jE w cb #[.int .i64 p.aA,.slice a1 p.aE.length c1,.slice a2 p.aB.length c2,.slice a3 p.aO.length c3,.int .i64 p.aI] fb ⟨K1+20,jC,U⟩ V (.slice a5 ne c5) es d' v1 v2 v3∧V.rowIs B 55 3 (fun i=>(#[.int .i64 g,.int .i64 f,.int .i64 a]:Array Value)[i]!)∧d'=(jW p d (g,f,a)).2)
    case first=>
     by_cases J:fI p.aA p.aE.length p.aB.length g f a
     ·have hX:X=jR p d g f a:=bD.out.trans (if_pos ⟨aP.out,J⟩)
      have a4:Hid (X.2=(jW p d (g,f,a)).2):=by show X.2=_; rw[hX,xS (e:=(g,f,a)) J]
      have bM:cJ p X.2:=by rw[hX]; exact D9 aP.out J
      have cH:X.1≠1:=by rw[hX]; exact EK _ _ _ _ _
      have aS:(X.1 != 1)=true:=by simpa using cH
      have d1:Wd.cell? ⟨db,1,none⟩=some (.bool X.2.ok):=H.out.cell (i:=1) (by omega);have d2:Wd.cell? ⟨db,2,none⟩=some (.slice j1 X.2.aH.length t1):=H.out.cell (i:=2) (by omega);have d3:Wd.cell? ⟨db,3,none⟩=some (.slice j2 X.2.aC.length t2):=H.out.cell (i:=3) (by omega);have d4:Wd.cell? ⟨db,4,none⟩=some (.slice j3 X.2.aB.length t3):=H.out.cell (i:=4) (by omega);have s:=Z.out.cA;have x0:=s.cell (i:=0) (by omega);have x1:=s.cell (i:=1) (by omega);have x2:=s.cell (i:=2) (by omega);have x3:=s.cell (i:=3) (by omega);have k0:=s.frozen 0;have k1:=s.frozen 1;have k2:=s.frozen 2;have k3:=s.frozen 3;obtain⟨bo,bp,bw,bb,cE⟩:=a0.out.own (vB bM)
      obtain⟨RP,c8⟩:=Z.out.put cE fun c hc=>by omega
      have Y:=aD RP;have b5:=aD (c8.row q.out (iU q.out s (by decide)));have d5:=aD bM;clear hX bM cH s cE RP c8 J;go_wp2;go_meet
      case rel=>exact⟨X.2,_,_,_,d5.out,Y.out,b5.out,a4.out⟩
     ·have hX:X=(1,iA):=bD.out.trans (if_neg fun z=>J z.2)
      have aS:(X.1 != 1)=false:=by rw[hX]; rfl
      have a4:Hid (d=(jW p d (g,f,a)).2):=by show d=_; rw[zM (e:=(g,f,a)) J]
      clear hX J;go_wp2;go_meet
      case rel=>exact⟨d,_,_,_,aP.out,Z.out,q.out,a4.out⟩
    case rest=>
     obtain⟨d',v1,v2,v3,b2,cD,aW,cQ⟩:=hcut;have a4:=aD cQ;clear cQ;rename World=>V;clear Z q a0 H bD;have e0:V.cell? ⟨B,0,none⟩=some (.int .i64 g):=aW.cell (i:=0) (by omega);have e1:V.cell? ⟨B,1,none⟩=some (.int .i64 f):=aW.cell (i:=1) (by omega);have e2:V.cell? ⟨B,2,none⟩=some (.int .i64 a):=aW.cell (i:=2) (by omega);have cG:=bC V (.cells #[.int .i64 g,.int .i64 f,.int .i64 a] 55);have DA:=cD.call cG;have c6:=aD (xU V 55 #[.int .i64 g,.int .i64 f,.int .i64 a]);have c4:Hid (1=0∨∃A,(some (⟨V.heap.size,0,none⟩:Addr))=some A∧∀j u,([.int .i64 g,.int .i64 f,.int .i64 a]:List Value)[j]?=some u->(V.alloc (.cells #[.int .i64 g,.int .i64 f,.int .i64 a] 55)).cell? (A.add j)=some u):=.inr ⟨_,rfl,c6.out⟩
     have c0:Hid (∀u∈([.int .i64 g,.int .i64 f,.int .i64 a]:List Value),u.oneCell'=true):=by
      show ∀u∈([.int .i64 g,.int .i64 f,.int .i64 a]:List Value),u.oneCell'=true;intro u hu;simp only[List.mem_cons,List.not_mem_nil,or_false] at hu
      rcases hu with h | h | h <;> rw[h] <;> rfl
     have cW:Hid (ne+1<=maxLen):=by show ne+1<=maxLen; unfold maxLen; omega
     have a0:Hid ((ne+1)*24<=140737488355328):=by show (ne+1)*24<=140737488355328; omega
     have HZ:Hid (w.heap.size+1<=(V.alloc (.cells #[.int .i64 g,.int .i64 f,.int .i64 a] 55)).heap.size):=DA.box.lt;have aQ:=aD DA.own;rw[← O.out] at aQ;obtain⟨xs,bN⟩:∃xs,xs=qX es:=⟨_,rfl⟩;have d6:=aD bN;rw[← bN] at aQ;have bQ:=aD DA;have bS:=aD b2;clear b2 cD aW cG DA bN c6
     go_wp2_with (at_builtin; refine iN rfl _ _ 28 rfl (w.heap.size+1) 55 (.agg #[.int .i64 0,.int .i64 0,.int .i64 0]) 3 24 Tryz.underlying28 Tryz.oW rfl (by decide) (.slice a5 ne c5) ne xs rfl aQ.out (some ⟨V.heap.size,0,none⟩) 1 1 [.int .i64 g,.int .i64 f,.int .i64 a] rfl rfl c4.out c0.out cW.out a0.out HZ.out ?_)
     intro u5 w9 C b3;obtain⟨a9,c9,rfl⟩:=zag C;rw[d6.out] at C;have Y:=aD ((bQ.out.add (x:=(g,f,a)) b3 C (by rw[O.out])).mono (L:=K+2+20*(49-(k-1))) (by have:=cU.out; omega))
     have cV:Hid ((es++[(g,f,a)]).length+(k-1)<=49):=by show (es++[(g,f,a)]).length+(k-1)<=49; have:=O.out; rw[List.length_append,List.length_singleton]; omega
     clear C b3 aQ c4 c0 bQ e0 e1 e2;go_wp2;go_roundw
     case rel=>exact⟨k-1,_,_,_,_,_,_,cV.out,by go_num,bS.out,Y.out,(nN hz cS.out a4.out).trans bU.out⟩
     case measure=>simp[intOf]; omega
  ·have d9:decide ((0:Int)<(k:Int))=false:=decide_eq_false (by omega);have HD:=aD D;clear R D aU aR aV;go_wp2;go_ret;refine⟨_,es,rfl,?_,by have:=O.out; omega,HD.out.but,⟨n0,j0,cX.out,by rw[← cT.out,← bU.out,show k=0 by omega]; rfl⟩⟩;have b4:=HD.out.own;rw[← O.out] at b4;exact (JI b4 O.out).keep (hU _ _) fun c hc=>⟨by have:=hc.1; omega,hc.2⟩
def kS (z:Src) (p:aK) (es:List (Int×Int×Int)):Prop:=∃j,lM z 0 p j∧pX z p 50 j es
theorem kS.inj {z:Src}{p q:aK}{a b:List (Int×Int×Int)}(h:kS z p a) (g:kS z q b):p=q∧a=b:=by
 obtain⟨j,e,f⟩:=h;obtain⟨k,c,d⟩:=g;obtain⟨rfl,rfl⟩:=e.inj c;exact⟨rfl,f.inj d⟩
set_option maxRecDepth 100000 in
set_option maxHeartbeats 8000000 in
theorem nG (U:Src) (a:Option Addr) (n c:Nat) (w:World) (hv:mZ (In w) w (.slice a n c) U) (b4:U.n=n) (hn:n<=1048576) :
  Calls Tryz.prog 12 #[.slice a n c] w fun e w'=>∃v1 v2 v3 ve p es,e=.returned (.tuple #[.agg #[.int .i64 p.aA,v1,v2,v3,.int .i64 p.aI],ve])∧Right p∧aZ (fun c=>w.heap.size<=c∧c<w'.heap.size) w' v1 v2 v3 p∧cE (fun c=>w.heap.size<=c∧c<w'.heap.size) w' v2 p.aB∧pL (fun c=>w.heap.size<=c∧c<w'.heap.size) w' ve es∧es.length<=50∧Below w.heap.size w w'∧kS U p es:=by
 have R:=eB w 27 74 #[.int .i64 0,.slice none 0 0,.slice none 0 0,.slice none 0 0,.int .i64 0] #[.slice a n c,.int .i64 0,.int .u64 0];obtain⟨W0,F⟩:∃W,W=(w.alloc (.cells #[.int .i64 0,.slice none 0 0,.slice none 0 0,.slice none 0 0,.int .i64 0] 27)).alloc (.cells #[.slice a n c,.int .i64 0,.int .u64 0] 74):=⟨_,rfl⟩;rw[← F] at R
 have aC:eW W0 (w.heap.size+1) ⟨0,0,U⟩:=by
  subst b4;exact⟨⟨a,c,R.row 1 _ _ rfl,hv.keep (fW R.below fun b (g:b<w.heap.size)=>g) fun b (g:b<w.heap.size)=>Nat.lt_succ_of_lt g⟩,hn,Nat.le_refl _⟩
 have P:=R.row 0 _ _ rfl;rw[Nat.add_zero] at P
 have b5:w.heap.size+2=W0.heap.size:=by rw[F,World.size_alloc,World.size_alloc]
 have x:=aD (lR U (w.heap.size+1) 0 0 W0 aC (by omega));have a7:=aD R;have a4:=aD P;clear R aC P hv;go_enter Tryz.func12,Tryz.ntmps12
 go_wp2_with fail
 rw[← F];clear F;refine x.out.mono ?_;clear x;rintro e y ⟨v1,v2,v3,p,rfl,hR,hp,aT,jp,aF,C,aM⟩;have aY:=aD aM;clear aM;obtain⟨l,r,rfl⟩:=hp.1.size;obtain⟨m,t,rfl⟩:=hp.2.1.size;obtain⟨q,u,rfl⟩:=hp.2.2.size;have aN:=C.row a4.out (by omega);have H:=bC y (.cells #[.int .i64 p.aA,.slice l p.aE.length r,.slice m p.aB.length t,.slice q p.aO.length u,.int .i64 p.aI] 27);have aP:(y.alloc (.cells #[.int .i64 p.aA,.slice l p.aE.length r,.slice m p.aB.length t,.slice q p.aO.length u,.int .i64 p.aI] 27)).rowIs y.heap.size 27 5 (fun i=>(#[.int .i64 p.aA,.slice l p.aE.length r,.slice m p.aB.length t,.slice q p.aO.length u,.int .i64 p.aI]:Array Value)[i]!):=dH y 27 #[.int .i64 p.aA,.slice l p.aE.length r,.slice m p.aB.length t,.slice q p.aO.length u,.int .i64 p.aI];have b6:=C.size;have a0:=aD hp;have b2:=aD aT;have a6:=aD hR;have Y:=aD (aF.but (Q:=fun _=>True) (But.aG H) fun _ _=>trivial);have a5:=aD (dP aN H);have B:=aD aP;have K:=aD H;have aU:=aD C;clear hp aT hR aF C aN H aP a4
 go_upto_region 3 with fail
 obtain⟨W3,a9⟩:∃W,W=y.alloc (.cells #[.int .i64 p.aA,.slice l p.aE.length r,.slice m p.aB.length t,.slice q p.aO.length u,.int .i64 p.aI] 27):=⟨_,rfl⟩;obtain⟨pb,O⟩:∃b,b=y.heap.size:=⟨_,rfl⟩;rw[← a9] at Y a5 B K ⊢;rw[← O] at B ⊢;have Z:=aD O;clear a9 O;have aK:∀W:World,W.rowIs pb 27 5 (fun i=>(#[.int .i64 p.aA,.slice l p.aE.length r,.slice m p.aB.length t,.slice q p.aO.length u,.int .i64 p.aI]:Array Value)[i]!)->(fun W:World=>W.cell? ⟨pb,0,none⟩=some (.int .i64 p.aA)∧W.cell? ⟨pb,1,none⟩=some (.slice l p.aE.length r)∧W.cell? ⟨pb,2,none⟩=some (.slice m p.aB.length t)∧W.cell? ⟨pb,3,none⟩=some (.slice q p.aO.length u)∧W.cell? ⟨pb,4,none⟩=some (.int .i64 p.aI)) W:=fun W h=>⟨h.cell (i:=0) (by omega),h.cell (i:=1) (by omega),h.cell (i:=2) (by omega),h.cell (i:=3) (by omega),h.cell (i:=4) (by omega)⟩;have KS:=aD aK;clear aK;refine mV (S:=fun W=>W.cell? ⟨pb,0,none⟩=some (.int .i64 p.aA)∧W.cell? ⟨pb,1,none⟩=some (.slice l p.aE.length r)∧W.cell? ⟨pb,2,none⟩=some (.slice m p.aB.length t)∧W.cell? ⟨pb,3,none⟩=some (.slice q p.aO.length u)∧W.cell? ⟨pb,4,none⟩=some (.int .i64 p.aI)) 5 (by kernel_rfl) (KS.out _ (dP B.out (cT _))) (fun hS=>?_);have j:=cT W3;obtain⟨wA,aS⟩:∃W,W=W3.drew:=⟨_,rfl⟩;rw[← aS] at hS j ⊢;clear aS;have E:But (fun c=>c≠w.heap.size+1) y wA:=But.aG (K.out.trans (j.mono K.out.size))
 have aL:=a0.out.keep (Q:=fun b=>b<wA.heap.size∧b≠w.heap.size+1) (E.same fun b g=>⟨g.2,by omega⟩) fun b g=>⟨Nat.lt_of_lt_of_le g.2 E.size,by omega⟩;have I:=aD (nJ U (w.heap.size+1) (0+1000) jp 50 _ _ _ p wA (Y.out.but (Q:=fun _=>True) (But.aG j) fun _ _=>trivial) (by omega) (by omega) aL a6.out);have b0:=aD (dP a5.out j);have aX:=aD (dP B.out j);have X:=aD E;clear j E aL;refine bM (v:=?vd0) At.z (by kernel_rfl) (fun _ _ _ h=>h) rfl ?hd0 hS ?_
 case hd0=>intro _ s;(try dsimp only at s);go_simp;try with_reducible rfl
 try simp only[Act.put,sA,sB,sC]
 refine bM (v:=?vd1) At.z.s (by kernel_rfl) (fun _ _ _ h=>h) rfl ?hd1 hS ?_
 case hd1=>intro _ s;(try dsimp only at s);go_simp;try with_reducible rfl
 try simp only[Act.put,sA,sB,sC]
 refine bM (v:=?vd2) At.z.s.s (by kernel_rfl) (fun _ _ _ h=>h) rfl ?hd2 hS ?_
 case hd2=>intro _ s;(try dsimp only at s);go_simp;try with_reducible rfl
 try simp only[Act.put,sA,sB,sC]
 clear hS;refine dX (i:=3) At.z.s.s.s (by kernel_rfl) (fun K1 f=>?_);go_simp;refine I.out.mono ?_;rintro e w5 ⟨ve,es,rfl,aH,b3,D,aQ⟩;have b1:=aD aQ;clear aQ;have N:=D.row aX.out (by have:=Z.out; omega);refine f.out _ _ (KS.out _ N) ?_;have aV:=aD aH;have aW:=aD N;have V:=aD D;have d:=D.row b0.out (by omega);clear f K1 I aH N D
 try simp only[Act.put,sA,sB,sC]
 refine dX (i:=4) At.z.s.s.s.s (by kernel_rfl) (fun K1 f=>?_);have r0:=d.cell (i:=0) (by show 0<5; omega);have r1:=d.cell (i:=1) (by show 1<5; omega);have r2:=d.cell (i:=2) (by show 2<5; omega);have r3:=d.cell (i:=3) (by show 3<5; omega);have r4:=d.cell (i:=4) (by show 4<5; omega);have k0:=d.frozen 0;have k1:=d.frozen 1;have k2:=d.frozen 2;have k3:=d.frozen 3;have k4:=d.frozen 4;have hk:∀o:Nat,¬((fun c=>c≠w.heap.size) (⟨w.heap.size,o,none⟩:Addr).block):=fun o z=>z rfl;obtain⟨A,G⟩:∃W,W=((((w5.setCell ⟨w.heap.size,0,none⟩ (.int .i64 p.aA)).setCell ⟨w.heap.size,1,none⟩ (.slice l p.aE.length r)).setCell ⟨w.heap.size,2,none⟩ (.slice m p.aB.length t)).setCell ⟨w.heap.size,3,none⟩ (.slice q p.aO.length u)).setCell ⟨w.heap.size,4,none⟩ (.int .i64 p.aI):=⟨_,rfl⟩
 have M:But (fun c=>c≠w.heap.size) w5 A:=by
  rw[G];exact (((((But.refl (fun c=>c≠w.heap.size) w5).setCell (hk 0) _).setCell (hk 1) _).setCell (hk 2) _).setCell (hk 3) _).setCell (hk 4) _
 have k:A.rowIs w.heap.size 27 5 (fun i=>(#[.int .i64 p.aA,.slice l p.aE.length r,.slice m p.aB.length t,.slice q p.aO.length u,.int .i64 p.aI]:Array Value)[i]!):=by
  rw[G];refine (((((d.set 0 _).set 1 _).set 2 _).set 3 _).set 4 _).congr fun i hi=>?_;rcases i with _ | _ | _ | _ | _ | i
  ·rfl
  ·rfl
  ·rfl
  ·rfl
  ·rfl
  ·exact absurd hi (by show ¬i+1+1+1+1+1<5; omega)
 go_simp;rw[← G];refine f.out _ _ (KS.out _ (M.row aW.out (by have:=Z.out; omega))) ?_;clear f K1 G r0 r1 r2 r3 r4 k0 k1 k2 k3 k4 d
 try simp only[Act.put,sA,sB,sC]
 have J:=aD M;have e0:A.cell? ⟨w.heap.size,0,none⟩=some (.int .i64 p.aA):=k.cell (i:=0) (by omega);have e1:A.cell? ⟨w.heap.size,1,none⟩=some (.slice l p.aE.length r):=k.cell (i:=1) (by omega);have e2:A.cell? ⟨w.heap.size,2,none⟩=some (.slice m p.aB.length t):=k.cell (i:=2) (by omega);have e3:A.cell? ⟨w.heap.size,3,none⟩=some (.slice q p.aO.length u):=k.cell (i:=3) (by omega);have e4:A.cell? ⟨w.heap.size,4,none⟩=some (.int .i64 p.aI):=k.cell (i:=4) (by omega);clear M k;refine iQ At.z.f (by kernel_rfl) (by kernel_rfl) (fun K1 f=>?_);go_simp;refine f.out _ _ ?_;clear f K1
 try simp only[Act.put,sA,sB,sC]
 go_wp2;refine bodyPost_ret (v:=.tuple #[.agg #[.int .i64 p.aA,.slice l p.aE.length r,.slice m p.aB.length t,.slice q p.aO.length u,.int .i64 p.aI],ve]) (by simp[results,Tryz.results12,go_sem,e0,e1,e2,e3,e4]) rfl ?_;have b7:=V.out.size;have b9:=J.out.size;have b8:=X.out.size;have a8:But (fun c=>c≠w.heap.size+1∧c≠w.heap.size) y A:=((X.out.trans V.out).mono fun c _ T=>T.1).trans (J.out.mono fun c _ T=>T.2);have aJ:∀b,W0.heap.size<=b∧b<y.heap.size->w.heap.size<=b∧b<A.heap.size:=fun b g=>⟨by omega,by omega⟩;have aR:Same (fun b=>W0.heap.size<=b∧b<y.heap.size) y A:=a8.same fun b g=>⟨g.2,by omega⟩;refine⟨_,_,_,ve,p,rfl,a6.out,a0.out.keep aR aJ,b2.out.keep aR aJ,es,aV.out.keep (J.out.same fun b g=>⟨g.2,by omega⟩) fun b g=>⟨by omega,by omega⟩,b3,?_,⟨jp,aY.out,b1.out⟩⟩;exact a7.out.below.trans (((aU.out.mono (L:=fun c=>c≠w.heap.size+1∧c≠w.heap.size) fun c _ T=>T.1).trans a8).below a7.out.below.size fun c T=>by omega)
end Go.Proofs.YtdhinkgjiapigaaGreatDoor

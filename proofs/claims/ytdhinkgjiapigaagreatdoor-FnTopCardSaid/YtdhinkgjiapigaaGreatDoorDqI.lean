import Derived.Test.YtdhinkgjiapigaaGreatDoorDqD
namespace Go.Proofs.YtdhinkgjiapigaaGreatDoor
open Classical Go.Deep Go.RowKit
def nM (z:Src) (i:Nat):(Int×Int×Int)×Nat:=
 ((((aU z 9 i).1:Int),((aU z 8 (aU z 9 i).2).1:Int)-1,if (aU z 2 (aU z 4 (aU z 8 (aU z 9 i).2).2).2).1=0 then 0 else ((aU z 4 (aU z 8 (aU z 9 i).2).2).1:Int)-1),(aU z 2 (aU z 4 (aU z 8 (aU z 9 i).2).2).2).2)
theorem oB {z:Src}{i a b c d e f g h:Nat}(j:aU z 9 i=(a,e)) (k:aU z 8 e=(b,f)) (l:aU z 4 f=(c,g)) (m:aU z 2 g=(d,h)):nM z i=(((a:Int),(b:Int)-1,if d=0 then 0 else (c:Int)-1),h):=by
 unfold nM;rw[j];simp only;rw[k];simp only;rw[l];simp only;rw[m]
set_option maxRecDepth 100000 in
set_option maxHeartbeats 8000000 in
theorem nF (k:Src) (h K jj:Nat) (ns hd:Int) (a1 a2 a3:Option Addr) (n1 n2 n3 c1 c2 c3:Nat) (w:World) (u:eW w h ⟨K,jj,k⟩) (hK:K<=1000000) :
  Calls Tryz.prog 80 #[.pointer (some ⟨h,0,none⟩),.agg #[.int .i64 ns,.slice a1 n1 c1,.slice a2 n2 c2,.slice a3 n3 c3,.int .i64 hd]] w fun e w'=>∃op of lie:Int,e=.returned (.agg #[.int .i64 op,.int .i64 of,.int .i64 lie])∧EvS op of lie∧∃j,eW w' h ⟨K+8,j,k⟩∧But (fun c=>c≠h) w w'∧nM k jj=((op,of,lie),j):=by
 have hcb:=u.lt;have T0:=eB w 27 55 #[.int .i64 ns,.slice a1 n1 c1,.slice a2 n2 c2,.slice a3 n3 c3,.int .i64 hd] #[.int .i64 0,.int .i64 0,.int .i64 0];have Y:=u.but (Q:=fun _=>True) (But.aG T0.below) fun _ _=>trivial;have a9:=T0.row 1 _ _ rfl;have V:But (fun c=>c≠h) w _:=But.aG T0.below;clear T0 u;go_enter Tryz.func80,Tryz.ntmps80
 go_wp2_with fail
 refine (bA k h K jj 9 _ Y (by omega) (by omega)).mono ?_;rintro e w1 ⟨x,rfl,hx,j1,Z,D,a⟩;have N:=aD a;clear a
 have aH:x<9:=by omega
 have aA:=D.row a9 (by omega);have s:=V.trans D;have S:=aD aA;have H:=aD s;clear hx a9 V Y D aA s
 go_wp2_with fail
 refine (bA k h (K+2) j1 8 _ Z (by omega) (by omega)).mono ?_;rintro e w2 ⟨y,rfl,hy,j2,a0,E,a⟩;have O:=aD a;clear a
 have aI:y<8:=by omega
 have T:=aD (E.row S.out (by omega));have I:=aD (H.out.trans E);clear hy Z S H E
 go_wp2_with fail
 refine (bA k h (K+4) j2 4 _ a0 (by omega) (by omega)).mono ?_;rintro e G ⟨z,rfl,hz,j3,a4,F,a⟩;have P:=aD a;clear a
 have aJ:z<4:=by omega
 have p:=F.row T.out (by omega);have t:=I.out.trans F;have n:=bC G (.cells #[.int .i64 (x:Int),.int .i64 ((y:Int)-1),.int .i64 ((z:Int)-1)] 55);have d:(G.alloc (.cells #[.int .i64 (x:Int),.int .i64 ((y:Int)-1),.int .i64 ((z:Int)-1)] 55)).rowIs G.heap.size 55 3 (fun i=>(#[.int .i64 (x:Int),.int .i64 ((y:Int)-1),.int .i64 ((z:Int)-1)]:Array Value)[i]!):=dH G 55 #[.int .i64 (x:Int),.int .i64 ((y:Int)-1),.int .i64 ((z:Int)-1)];have A:=a4.but (Q:=fun _=>True) (But.aG n) fun _ _=>trivial;have M:=aD A;have U:=aD (dP p n);have J:=aD (t.call n);have C:=aD d;have a7:=p.lt;have aE:w.heap.size+1<G.heap.size:=p.lt;clear hz a0 T I F p t n d a4 A
 go_wp2_with fail
 refine (bA k h (K+6) j3 2 _ M.out (by omega) (by omega)).mono ?_;rintro e w4 ⟨q,rfl,hq,j4,a5,m,a⟩;have R:=aD a;clear a;obtain⟨eb,a6⟩:∃b,b=G.heap.size:=⟨_,rfl⟩;rw[← a6] at C aE ⊢;have d:=m.row C.out (by omega);have g:=m.row U.out (by omega);have L:=aD (J.out.trans m);clear m C U J M a6 a7;have q0:w4.cell? ⟨eb,0,none⟩=some (.int .i64 (x:Int)):=d.cell (i:=0) (by omega);have q1:w4.cell? ⟨eb,1,none⟩=some (.int .i64 ((y:Int)-1)):=d.cell (i:=1) (by omega);have q2:w4.cell? ⟨eb,2,none⟩=some (.int .i64 ((z:Int)-1)):=d.cell (i:=2) (by omega);have z2:=d.frozen 2;have r0:=g.cell (i:=0) (by show 0<3; omega);have r1:=g.cell (i:=1) (by show 1<3; omega);have r2:=g.cell (i:=2) (by show 2<3; omega);have k0:=g.frozen 0;have k1:=g.frozen 1;have k2:=g.frozen 2
 have B:∀(W:World) (op of lie:Int),But (fun c=>c≠eb) w4 W->EvS op of lie->nM k jj=((op,of,lie),j4)->∃o f l,Ending.returned (.agg #[.int .i64 op,.int .i64 of,.int .i64 lie])=.returned (.agg #[.int .i64 o,.int .i64 f,.int .i64 l])∧EvS o f l∧∃j,eW (((W.setCell ⟨w.heap.size+1,0,none⟩ (.int .i64 op)).setCell ⟨w.heap.size+1,1,none⟩ (.int .i64 of)).setCell ⟨w.heap.size+1,2,none⟩ (.int .i64 lie)) h ⟨K+8,j,k⟩∧But (fun c=>c≠h) w (((W.setCell ⟨w.heap.size+1,0,none⟩ (.int .i64 op)).setCell ⟨w.heap.size+1,1,none⟩ (.int .i64 of)).setCell ⟨w.heap.size+1,2,none⟩ (.int .i64 lie))∧nM k jj=((o,f,l),j):=fun W op of lie hW aB aC=>by
  have hk:∀o:Nat,¬((fun c=>c≠w.heap.size+1) (⟨w.heap.size+1,o,none⟩:Addr).block):=fun o z=>z rfl;have hB:=(((But.refl (fun c=>c≠w.heap.size+1) W).setCell (hk 0) (.int .i64 op)).setCell (hk 1) (.int .i64 of)).setCell (hk 2) (.int .i64 lie);have X:But (fun c=>c<w.heap.size) w4 (((W.setCell ⟨w.heap.size+1,0,none⟩ (.int .i64 op)).setCell ⟨w.heap.size+1,1,none⟩ (.int .i64 of)).setCell ⟨w.heap.size+1,2,none⟩ (.int .i64 lie)):=(hW.mono fun c _ u=>by omega).trans (hB.mono fun c _ u=>by omega);exact⟨_,_,_,rfl,aB,_,a5.but X fun c u=>by omega,L.out.low (X.below L.out.size fun c u=>u),aC⟩
 have r:=aD B;clear B d g a5;by_cases a8:q=0
 ·subst a8;go_wp2;refine bodyPost_ret (v:=.agg #[.int .i64 (x:Int),.int .i64 ((y:Int)-1),.int .i64 0]) (by simp[results,Tryz.results80,go_sem,r0,r1,r2]) rfl ?_;exact r.out _ _ _ _ ((But.refl _ _).setCell (fun z=>z rfl) _) ⟨⟨by omega,by omega⟩,⟨by omega,by omega⟩,⟨by omega,by omega⟩⟩ (oB N.out O.out P.out R.out)
 ·have aF:((q:Int) == 0)=false:=by simp; omega
  go_wp2;refine bodyPost_ret (v:=.agg #[.int .i64 (x:Int),.int .i64 ((y:Int)-1),.int .i64 ((z:Int)-1)]) (by simp[results,Tryz.results80,go_sem,r0,r1,r2]) rfl ?_;exact r.out _ _ _ _ (But.refl _ _) ⟨⟨by omega,by omega⟩,⟨by omega,by omega⟩,⟨by omega,by omega⟩⟩ ((oB N.out O.out P.out R.out).trans (by rw[if_neg a8]))
def nL (aH:List Bool):Option Int->Bool
 | some s=>(aH[s.toNat]?).getD false
 | none=>false
def oD (aH:List Bool) (st:Int) (l:List Int) (k:Nat):Bool:=(st == 4)&&(nL aH l[k]?&&((k+1 == l.length) || nL aH l[k+1]?))
def eE (aH:List Bool) (h:aM) (l:List Int):Nat->Nat->Option (Int×Int×Int)
 | 0,_=>none
 | m+1,k=>if oD aH h.state l k=true then some (4,(l[k]?).getD 0,0) else if h.gone<=(k:Int)∧(h.aL[k]?).getD true=false then some (3,(l[k]?).getD 0,0) else eE aH h l m (k+1)
def bY (p:aK) (d:aF):Nat->Nat->Int×Int×Int
 | 0,_=>(1,0,0)
 | m+1,i=>match p.aB[i]?,d.aB[i]? with
  | some x,some h=>if h.state=0∨h.state=1 then bY p d m (i+1) else (eE d.aH h x.aA x.aA.length 0).getD (bY p d m (i+1))
  | _,_=>bY p d m (i+1)
def fV (p:aK) (d:aF):Int×Int×Int:=bY p d d.aB.length 0
section
variable {p : aK}{d : aF}{nw i : Nat}{x : aT}{h : aM}
theorem gN (hi:i<nw) (c:p.aB[i]?=some x) (a:d.aB[i]?=some h):bY p d (nw-i) i=if h.state=0∨h.state=1 then bY p d (nw-(i+1)) (i+1) else (eE d.aH h x.aA x.aA.length 0).getD (bY p d (nw-(i+1)) (i+1)):=by
 obtain⟨m,b⟩:∃m,nw-i=m+1:=⟨nw-i-1,by omega⟩;rw[b,show nw-(i+1)=m by omega]
 show (match p.aB[i]?,d.aB[i]? with
  | some x,some h=>if h.state=0∨h.state=1 then bY p d m (i+1) else (eE d.aH h x.aA x.aA.length 0).getD (bY p d m (i+1))
  | _,_=>bY p d m (i+1))=_
 rw[c,a]
theorem gY (hi:i<nw) (c:p.aB[i]?=some x) (a:d.aB[i]?=some h) (b:h.state=0∨h.state=1):bY p d (nw-(i+1)) (i+1)=bY p d (nw-i) i:=by
 rw[gN hi c a,if_pos b]
theorem gH (hi:i<nw) (g:p.aB[i]?=some x) (c:d.aB[i]?=some h) (a:¬h.state=0) (b:¬h.state=1) {e:Int×Int×Int}(f:eE d.aH h x.aA x.aA.length 0=some e):bY p d (nw-i) i=e:=by
 rw[gN hi g c,if_neg (fun z=>z.elim a b),f];rfl
theorem lD (hi:i<nw) (f:p.aB[i]?=some x) (c:d.aB[i]?=some h) (a:¬h.state=0) (b:¬h.state=1) (e:eE d.aH h x.aA x.aA.length 0=none):bY p d (nw-(i+1)) (i+1)=bY p d (nw-i) i:=by
 rw[gN hi f c,if_neg (fun z=>z.elim a b),e];rfl
end
section
variable {aH : List Bool}{h : aM}{l : List Int}{n k : Nat}
theorem jH (b:k<n):eE aH h l (n-k) k=if oD aH h.state l k=true then some (4,(l[k]?).getD 0,0) else if h.gone<=(k:Int)∧(h.aL[k]?).getD true=false then some (3,(l[k]?).getD 0,0) else eE aH h l (n-(k+1)) (k+1):=by
 obtain⟨m,a⟩:∃m,n-k=m+1:=⟨n-k-1,by omega⟩;rw[a,show n-(k+1)=m by omega];rfl
theorem nP {s:Int}(a:k<n) (b:l[k]?=some s) (c:oD aH h.state l k=true):eE aH h l (n-k) k=some (4,s,0):=by
 rw[jH a,if_pos c,b];rfl
theorem qM {s:Int}(c:k<n) (d:l[k]?=some s) (e:oD aH h.state l k=false) (b:h.gone<=(k:Int)) (a:h.aL[k]?=some false):eE aH h l (n-k) k=some (3,s,0):=by
 rw[jH c,if_neg (by rw[e]; decide),if_pos ⟨b,by rw[a]; rfl⟩,d];rfl
theorem jI (a:k<n) (c:oD aH h.state l k=false) (b:¬(h.gone<=(k:Int)∧(h.aL[k]?).getD true=false)):eE aH h l (n-(k+1)) (k+1)=eE aH h l (n-k) k:=by
 rw[jH a,if_neg (by rw[c]; decide),if_neg b]
theorem tC {a:Int}(b:¬a=4):oD aH a l k=false:=by
 unfold oD;simp[b]
theorem qP {c s:Int}(b:l[k]?=some s) (a:aH[s.toNat]?=some false):oD aH c l k=false:=by
 unfold oD;rw[b,show nL aH (some s)=(aH[s.toNat]?).getD false from rfl,a];simp
theorem qQ {a s:Int}(b:a=4) (e:l[k]?=some s) (d:aH[s.toNat]?=some true) (c:k+1=l.length):oD aH a l k=true:=by
 unfold oD;rw[e,show nL aH (some s)=(aH[s.toNat]?).getD false from rfl,d];simp[b,c]
theorem qR {b s:Int}{a:Bool}(d:b=4) (g:l[k]?=some s) (f:aH[s.toNat]?=some true) (e:¬k+1=l.length) (c:nL aH l[k+1]?=a):oD aH b l k=a:=by
 unfold oD;rw[g,show nL aH (some s)=(aH[s.toNat]?).getD false from rfl,f,c];simp[d,e]
end
set_option maxRecDepth 100000 in
set_option maxHeartbeats 16000000 in
theorem gT (cb:Nat) (p1 p2 p3 f1 f2 f3:Value) (p:aK) (d:aF) (w:World) (hp:aZ (In w) w p1 p2 p3 p) (hf:bB (In w) w f1 f2 f3 d) (hr:cJ p d) :
  Calls Tryz.prog 132 #[.pointer (some ⟨cb,0,none⟩),.agg #[.int .i64 p.aA,p1,p2,p3,.int .i64 p.aI],.agg #[.bool d.ok,f1,f2,f3]] w fun e w'=>∃op of lie:Int,e=.returned (.agg #[.int .i64 op,.int .i64 of,.int .i64 lie])∧EvS op of lie∧Below w.heap.size w w'∧fV p d=(op,of,lie):=by
 have KP:=aD fun (W:World) (h:Below w.heap.size w W)=>hp.keep (Q:=In W) (In.keep h).1 (In.keep h).2;have KF:=aD fun (W:World) (h:Below w.heap.size w W)=>hf.keep (Q:=In W) (In.keep h).1 (In.keep h).2;obtain⟨a1,c1,rfl⟩:=hp.1.size;obtain⟨a2,c2,rfl⟩:=hp.2.1.size;obtain⟨a3,c3,rfl⟩:=hp.2.2.size;obtain⟨o1,m1,rfl⟩:=hf.1.size;obtain⟨O,m2,rfl⟩:=hf.2.1.size;obtain⟨o3,m3,rfl⟩:=hf.2.2.size;have HR:=aD hr;obtain⟨nw,Z⟩:∃m,m=d.aB.length:=⟨_,rfl⟩
 have A:p.aB.length=nw:=by rw[Z]; exact hr.2.2.2.2.1.symm
 have cG:nw<=100:=by rw[← A]; exact hr.1.parts.1.2.2.1
 have cK:p.aA<=60:=hr.1.parts.1.1.2;have a8:=aD hr.2.2.1;obtain⟨no,Y⟩:∃m,m=d.aH.length:=⟨_,rfl⟩;rw[← Y] at a8;rw[← Z,← Y,A];have I:=aD Z;have J:=aD A;have H:=aD Y;have T0:=iE w 27 40 55 #[.int .i64 p.aA,.slice a1 p.aE.length c1,.slice a2 nw c2,.slice a3 p.aO.length c3,.int .i64 p.aI] #[.bool d.ok,.slice o1 no m1,.slice O d.aC.length m2,.slice o3 nw m3] #[.int .i64 0,.int .i64 0,.int .i64 0];have q3:=T0.c 1 3 rfl rfl;have b6:=aD T0;clear hp hf hr T0 Z A Y;go_enter Tryz.func132,Tryz.ntmps132;go_wp2
 go_loopw [15] (fun z wr=>∃i:Nat,i<=nw∧z=.int .i64 (i:Int)∧bD w [(27,#[.int .i64 p.aA,.slice a1 p.aE.length c1,.slice a2 nw c2,.slice a3 p.aO.length c3,.int .i64 p.aI]),(40,#[.bool d.ok,.slice o1 no m1,.slice O d.aC.length m2,.slice o3 nw m3]),(55,#[.int .i64 0,.int .i64 0,.int .i64 0])] wr∧bY p d (nw-i) i=fV p d) (fun z _=>nw-(intOf z).toNat)
 case atStart=>exact⟨0,by omega,rfl,b6.out,by rw[I.out]; rfl⟩
 case round=>
  obtain⟨i,hi,rfl,D,bF⟩:=hrel;have C:=aD bF;clear bF;rename World=>wr;clear b6 q3;have a5:∀(W:World) (op of lie:Int),bD w [(27,#[.int .i64 p.aA,.slice a1 p.aE.length c1,.slice a2 nw c2,.slice a3 p.aO.length c3,.int .i64 p.aI]),(40,#[.bool d.ok,.slice o1 no m1,.slice O d.aC.length m2,.slice o3 nw m3]),(55,#[.int .i64 0,.int .i64 0,.int .i64 0])] W->EvS op of lie->fV p d=(op,of,lie)->∃o f l:Int,Ending.returned (.agg #[.int .i64 op,.int .i64 of,.int .i64 lie])=.returned (.agg #[.int .i64 o,.int .i64 f,.int .i64 l])∧EvS o f l∧Below w.heap.size w (((W.setCell ⟨w.heap.size+2,0,none⟩ (.int .i64 op)).setCell ⟨w.heap.size+2,1,none⟩ (.int .i64 of)).setCell ⟨w.heap.size+2,2,none⟩ (.int .i64 lie))∧fV p d=(o,f,l):=fun W op of lie hW c5 cA=>⟨_,_,_,rfl,c5,((hW.below.setCell (by show w.heap.size<=w.heap.size+2; omega) _).setCell (by show w.heap.size<=w.heap.size+2; omega) _).setCell (by show w.heap.size<=w.heap.size+2; omega) _,cA⟩;have K:=aD a5;clear a5;by_cases u:i<nw
  ·have bJ:decide ((i:Int)<(nw:Int))=true:=decide_eq_true (by omega)
   have cD:(i:Int)<(nw:Int):=by omega
   obtain⟨x,hx⟩:=bG p.aB J u;obtain⟨h,hh⟩:=bG d.aB (aD I.out.symm) u;have c:=aD (And.intro hx hh);have bP:=HR.out.2.2.2.2.2.2.1 i (by have:=I.out; omega) x h hx hh;have aT:=HR.out.1.way hx;obtain⟨-,⟨aw,kw,ew,V⟩,-⟩:=KP.out wr D.below;obtain⟨⟨ao,ko,eo,E⟩,-,⟨af,kf,ef,U⟩⟩:=KF.out wr D.below;obtain h0 | ⟨bw,cC,rfl,-,V⟩:=V
   ·have:=J.out; omega
   obtain h0 | ⟨bf,off,rfl,-,U⟩:=U
   ·have:=I.out; omega
   cases ew
   cases ef
   cases eo
   obtain⟨v0,w1,w2,w3,w4,aG,g0,-⟩:=V i (by have:=J.out; omega) x hx;obtain⟨u2,aM,j0,j1,j2,j3,j4⟩:=U i (by have:=I.out; omega) h hh;have bX:=aD aG.1;have bT:=aD aM;obtain⟨a0,k0,rfl⟩:=aG.1.size;obtain⟨ab,kb,rfl⟩:=aM.size;have aP:=bP.1.2.1;obtain⟨n0,X⟩:∃m,m=x.aA.length:=⟨_,rfl⟩;rw[aP] at j2;rw[← X] at g0 j2
   have cF:n0<=30:=by rw[X]; exact aT.2.1.2
   have a:=aD X;have a6:=aD aP;have b5:=aD aT;have bU:=aD E;have S:=bC wr (.cells #[.int .i64 h.state,.int .i64 h.gone,.slice ab n0 kb,.bool h.aR,.int .i64 h.aN] 44);have T1:=D.call S;have aU:(wr.alloc (.cells #[.int .i64 h.state,.int .i64 h.gone,.slice ab n0 kb,.bool h.aR,.int .i64 h.aN] 44)).rowIs wr.heap.size 44 5 (fun i=>(#[.int .i64 h.state,.int .i64 h.gone,.slice ab n0 kb,.bool h.aR,.int .i64 h.aN]:Array Value)[i]!):=dH wr 44 #[.int .i64 h.state,.int .i64 h.gone,.slice ab n0 kb,.bool h.aR,.int .i64 h.aN];have b0:(wr.alloc (.cells #[.int .i64 h.state,.int .i64 h.gone,.slice ab n0 kb,.bool h.aR,.int .i64 h.aN] 44)).cell? ⟨wr.heap.size,0,none⟩=some (.int .i64 h.state):=aU.cell (i:=0) (by omega);have y2:=T1.c 0 2 rfl rfl;rw[Nat.add_zero] at y2;have b9:=S.cell (p:=⟨bw,cC+i*5,none⟩) (World.block_lt_of_cell? _ _ g0);rw[g0] at b9;have M:=aD T1;have a7:=aD S;have L:=aD aU;have HT:=aD D;clear hx hh bP aT V U E aG aM X aP S T1 aU D;by_cases r:h.state=0
   ·have bQ:(h.state == 0)=true:=by simp[r]
    have bV:=aD r;clear r;go_wp2;go_roundw
    case rel=>exact⟨i+1,by omega,by go_num,M.out,(gY u c.out.1 c.out.2 (.inl bV.out)).trans C.out⟩
    case measure=>simp[intOf]; omega
   have bQ:(h.state == 0)=false:=by simp[r]
   by_cases y:h.state=1
   ·have bR:(h.state == 1)=true:=by simp[y]
    have bW:=aD y;clear r y;go_wp2;go_roundw
    case rel=>exact⟨i+1,by omega,by go_num,M.out,(gY u c.out.1 c.out.2 (.inr bW.out)).trans C.out⟩
    case measure=>simp[intOf]; omega
   have bR:(h.state == 1)=false:=by simp[y]
   have g:=aD (And.intro r y);clear r y;go_wp2;obtain⟨wA,bO⟩:∃W,W=wr.alloc (.cells #[.int .i64 h.state,.int .i64 h.gone,.slice ab n0 kb,.bool h.aR,.int .i64 h.aN] 44):=⟨_,rfl⟩;obtain⟨hb,bI⟩:∃b,b=wr.heap.size:=⟨_,rfl⟩;rw[← bO] at M a7 L ⊢;rw[← bI] at L ⊢;clear bO bI b0 b9 y2 bQ bR
   go_loopw [36] (fun z wx=>∃k:Nat,k<=n0∧z=.int .i64 (k:Int)∧Below wA.heap.size wA wx∧eE d.aH h x.aA (n0-k) k=eE d.aH h x.aA n0 0) (fun z _=>n0-(intOf z).toNat)
   case atStart=>exact⟨0,by omega,rfl,Below.refl _ _,rfl⟩
   case round=>
    obtain⟨k,hk,rfl,t,bH⟩:=hrel;have G:=aD bH;clear bH;rename World=>wx;by_cases n:k<n0
    ·have aS:decide ((k:Int)<(n0:Int))=true:=decide_eq_true (by omega)
     have cM:(k:Int)<(n0:Int):=by omega
     have a9:Below wr.heap.size wr wx:=a7.out.trans (t.mono a7.out.size)
     have N:∀b o v,wr.cell? ⟨b,o,none⟩=some v->wx.cell? ⟨b,o,none⟩=some v:=fun b o v hv=>by rw[a9.cell (p:=⟨b,o,none⟩) (World.block_lt_of_cell? _ _ hv)]; exact hv
     obtain⟨s,hs⟩:=bG x.aA (aD a.out.symm) n;obtain⟨cL,ks,es,h0 | ⟨bs,os,rfl,-,aQ⟩⟩:=bX.out
     ·have:=a.out; omega
     cases es
     have a4:=b5.out.2.1.mem (List.mem_of_getElem? hs);have r:0<=s:=a4.1
     have y:s<(no:Int):=by have:=a8.out; have:=a4.2; omega
     have c9:s<=60:=by have:=a4.2; omega
     obtain h0 | ⟨bo,oo,rfl,-,E⟩:=bU.out
     ·have:=H.out; omega
     obtain⟨o,ho⟩:∃o,d.aH[s.toNat]?=some o:=⟨d.aH[s.toNat]'(by have:=H.out; omega),List.getElem?_eq_getElem _⟩;have q:=aD (And.intro hs ho);have x0:=N _ _ _ (aQ k (by have:=a.out; omega) s hs);have oc:=N _ _ _ (E s.toNat (by have:=H.out; omega) o ho);have TX:=M.out.call t;have y1:=TX.c 1 1 rfl rfl;have b0:wx.cell? ⟨hb,0,none⟩=some (.int .i64 h.state):=(dP L.out t).cell (i:=0) (by omega)
     have bK:k+1<n0->∃F O,wx.cell? ⟨bs,os+(k+1),none⟩=some (.int .i64 F)∧0<=F∧F<(no:Int)∧wx.cell? ⟨bo,oo+F.toNat,none⟩=some (.bool O)∧nL d.aH (x.aA[k+1]?)=O:=fun c7=>by
      obtain⟨F,aV⟩:=bG x.aA (aD a.out.symm) c7;have B:=b5.out.2.1.mem (List.mem_of_getElem? aV)
      have c8:F<(no:Int):=by have:=a8.out; have:=B.2; omega
      obtain⟨O,bL⟩:∃o,d.aH[F.toNat]?=some o:=⟨d.aH[F.toNat]'(by have:=H.out; have:=B.1; omega),List.getElem?_eq_getElem _⟩;exact⟨F,O,N _ _ _ (aQ (k+1) (by have:=a.out; omega) F aV),B.1,c8,N _ _ _ (E F.toNat (by have:=H.out; have:=B.1; omega) O bL),by rw[aV]; show (d.aH[F.toNat]?).getD false=O; rw[bL]; rfl⟩
     have b3:=aD bK;have b8:=aD TX;have aY:=aD a9;clear N hs aQ a4 E ho TX bK a9
     go_upto_region 9 with fail
     go_cut [68] (fun v wc=>∃b:Bool,v=.bool b∧Below wx.heap.size wx wc∧oD d.aH h.state x.aA k=b)
     case first=>
      by_cases h4:h.state=4
      ·have c4:(h.state == 4)=true:=by simp[h4]
       have H4:=aD h4;clear h4
       cases o
       ·go_quiet (fail)
        go_wp2;go_meet
        case rel=>exact⟨_,rfl,fC _ _,qP q.out.1 q.out.2⟩
       ·by_cases kl:k+1=n0
        ·have cB:((k:Int) == (n0:Int)-1)=true:=by simp; omega
         have KL:=aD kl;clear kl
         go_quiet (fail)
         go_wp2;go_meet
         case rel=>exact⟨_,rfl,fC _ _,qQ H4.out q.out.1 q.out.2 (by rw[← a.out]; exact KL.out)⟩
        ·have cB:((k:Int) == (n0:Int)-1)=false:=by simp; omega
         obtain⟨F,O,x1,cH,cI,cN,bM⟩:=b3.out (by omega);have b4:=aD bM;have c0:=aD kl;clear bM
         have cE:(k:Int)+1<(n0:Int):=by omega
         clear kl
         go_quiet (fail)
         go_wp2;go_meet
         case rel=>exact⟨_,rfl,fC _ _,qR H4.out q.out.1 q.out.2 (by rw[← a.out]; exact c0.out) b4.out⟩
      ·have c4:(h.state == 4)=false:=by simp[h4]
       have bS:=aD h4;clear h4
       go_quiet (fail)
       go_wp2;go_meet
       case rel=>exact⟨_,rfl,fC _ _,tC bS.out⟩
     case rest=>
      obtain⟨b,rfl,R,bN⟩:=hcut;have P:=aD bN;clear bN;have TC:=b8.out.call R;have r0:=(TC.row 2 _ _ rfl).cell (i:=0) (by show 0<3; omega);have r1:=(TC.row 2 _ _ rfl).cell (i:=1) (by show 1<3; omega);have r2:=(TC.row 2 _ _ rfl).cell (i:=2) (by show 2<3; omega);have k0:=(TC.row 2 _ _ rfl).frozen 0;have k1:=(TC.row 2 _ _ rfl).frozen 1;have k2:=(TC.row 2 _ _ rfl).frozen 2;have T:Below wA.heap.size wA wc:=t.trans (R.mono t.size);have b1:wc.cell? ⟨hb,1,none⟩=some (.int .i64 h.gone):=(dP L.out T).cell (i:=1) (by omega);have b2:wc.cell? ⟨hb,2,none⟩=some (.slice ab n0 kb):=(dP L.out T).cell (i:=2) (by omega);have b7:=aD TC;have aX:=aD T;have bA:=bT.out.keep (fW (aY.out.trans (R.mono aY.out.size)) fun b (hb:b<wr.heap.size)=>hb) (Q:=fun _=>True) fun _ _=>trivial;clear TC T t R x0 oc y1 b0 b3 b8
      cases b
      ·obtain⟨ae,ke,ee,h0 | ⟨be,oe,rfl,-,bE⟩⟩:=bA
       ·have:=a6.out; have:=a.out; omega
       cases ee
       obtain⟨bb,aJ⟩:=bG h.aL (aD (a6.out.trans a.out.symm)) n;have aW:=aD aJ;have e0:=bE k (by have:=a6.out; have:=a.out; omega) bb aJ;clear bE aJ;by_cases hg:h.gone<=(k:Int)
       ·have c6:decide (h.gone<=(k:Int))=true:=decide_eq_true hg
        cases bb
        ·go_wp2;refine bodyPost_ret (v:=.agg #[.int .i64 3,.int .i64 s,.int .i64 0]) (by simp[results,Tryz.results132,go_sem,r0,r1,r2]) rfl ?_;exact K.out _ _ _ _ b7.out ⟨⟨by omega,by omega⟩,⟨by omega,by omega⟩,⟨by omega,by omega⟩⟩ (C.out.symm.trans (gH u c.out.1 c.out.2 g.out.1 g.out.2 (by rw[← a.out,← G.out]; exact qM n q.out.1 P.out hg aW.out)))
        ·go_wp2;go_roundw
         case rel=>exact⟨k+1,by omega,by go_num,aX.out,(jI n P.out (fun z=>by rw[aW.out] at z; exact absurd z.2 (by decide))).trans G.out⟩
         case measure=>simp[intOf]; omega
       ·have c6:decide (h.gone<=(k:Int))=false:=decide_eq_false hg;go_wp2;go_roundw
        case rel=>exact⟨k+1,by omega,by go_num,aX.out,(jI n P.out (fun z=>hg z.1)).trans G.out⟩
        case measure=>simp[intOf]; omega
      ·go_wp2;refine bodyPost_ret (v:=.agg #[.int .i64 4,.int .i64 s,.int .i64 0]) (by simp[results,Tryz.results132,go_sem,r0,r1,r2]) rfl ?_;exact K.out _ _ _ _ b7.out ⟨⟨by omega,by omega⟩,⟨by omega,by omega⟩,⟨by omega,by omega⟩⟩ (C.out.symm.trans (gH u c.out.1 c.out.2 g.out.1 g.out.2 (by rw[← a.out,← G.out]; exact nP n q.out.1 P.out)))
    ·have aS:decide ((k:Int)<(n0:Int))=false:=decide_eq_false (by omega);go_wp2;go_roundw
     case rel=>exact⟨i+1,by omega,by go_num,M.out.call t,(lD u c.out.1 c.out.2 g.out.1 g.out.2 (by rw[← a.out,← G.out,show n0-k=0 by omega]; rfl)).trans C.out⟩
     case measure=>simp[intOf]; omega
  ·have bJ:decide ((i:Int)<(nw:Int))=false:=decide_eq_false (by omega);have r0:=(D.row 2 _ _ rfl).cell (i:=0) (by show 0<3; omega);have r1:=(D.row 2 _ _ rfl).cell (i:=1) (by show 1<3; omega);have r2:=(D.row 2 _ _ rfl).cell (i:=2) (by show 2<3; omega);have k0:=(D.row 2 _ _ rfl).frozen 0;have k1:=(D.row 2 _ _ rfl).frozen 1;have k2:=(D.row 2 _ _ rfl).frozen 2;have bZ:=aD D;clear D;go_wp2;refine bodyPost_ret (v:=.agg #[.int .i64 1,.int .i64 0,.int .i64 0]) (by simp[results,Tryz.results132,go_sem,r0,r1,r2]) rfl ?_;exact K.out _ _ _ _ bZ.out ⟨⟨by omega,by omega⟩,⟨by omega,by omega⟩,⟨by omega,by omega⟩⟩ (C.out.symm.trans (by rw[show nw-i=0 by omega]; rfl))
def jS (z:Src) (p:aK) (d:aF) (xw xs xp r j:Nat):(Int×Int×Int)×Nat:=
 if r<=3 then ((1,(xw:Int),0),j) else if r<=5 then ((2,(xw:Int),0),j) else if r<=7 then ((3,(xs:Int),0),j) else if r<=9 then ((4,(xs:Int),0),j) else if r<=10 then ((6,(xp:Int),1+((aU z 2 j).1:Int)),(aU z 2 j).2) else if r<=12 then ((7,0,0),j) else if r<=15 then (if h:xp<d.aC.length then (5,(xp:Int),(d.aC[xp]'h).1) else fV p d,j) else if r<=16 then ((5,(xp:Int),((aU z 3 j).1:Int)),(aU z 3 j).2) else (fV p d,j)
theorem wI {z:Src}{p:aK}{d:aF}{a xs b r j:Nat}(h:r<=3):jS z p d a xs b r j=((1,(a:Int),0),j):=by
 unfold jS;rw[if_pos (by omega)]
theorem wJ {z:Src}{p:aK}{d:aF}{a xs b r j:Nat}(h:4<=r∧r<=5):jS z p d a xs b r j=((2,(a:Int),0),j):=by
 unfold jS;rw[if_neg (by omega),if_pos (by omega)]
theorem wK {z:Src}{p:aK}{d:aF}{b xs a r j:Nat}(h:6<=r∧r<=7):jS z p d b xs a r j=((3,(xs:Int),0),j):=by
 unfold jS;rw[if_neg (by omega),if_neg (by omega),if_pos (by omega)]
theorem wL {z:Src}{p:aK}{d:aF}{b xs a r j:Nat}(h:8<=r∧r<=9):jS z p d b xs a r j=((4,(xs:Int),0),j):=by
 unfold jS;rw[if_neg (by omega),if_neg (by omega),if_neg (by omega),if_pos (by omega)]
theorem wO {z:Src}{p:aK}{d:aF}{b xs a r j:Nat}(h:11<=r∧r<=12):jS z p d b xs a r j=((7,0,0),j):=by
 unfold jS;rw[if_neg (by omega),if_neg (by omega),if_neg (by omega),if_neg (by omega),if_neg (by omega),if_pos (by omega)]
theorem wN {z:Src}{p:aK}{d:aF}{e xs b r j x a:Nat}(h:r=10) (c:aU z 2 j=(x,a)):jS z p d e xs b r j=((6,(b:Int),1+(x:Int)),a):=by
 unfold jS;rw[if_neg (by omega),if_neg (by omega),if_neg (by omega),if_neg (by omega),if_pos (by omega),c]
theorem wM {z:Src}{p:aK}{d:aF}{e xs b r j x a:Nat}(h:r=16) (c:aU z 3 j=(x,a)):jS z p d e xs b r j=((5,(b:Int),(x:Int)),a):=by
 unfold jS;rw[if_neg (by omega),if_neg (by omega),if_neg (by omega),if_neg (by omega),if_neg (by omega),if_neg (by omega),if_neg (by omega),if_pos (by omega),c]
theorem uI {z:Src}{p:aK}{d:aF}{b xs a r j:Nat}(h:17<=r):jS z p d b xs a r j=(fV p d,j):=by
 unfold jS;rw[if_neg (by omega),if_neg (by omega),if_neg (by omega),if_neg (by omega),if_neg (by omega),if_neg (by omega),if_neg (by omega),if_neg (by omega)]
theorem uH {z:Src}{p:aK}{d:aF}{f xs a r j:Nat}{x:Int×Int}(c:d.aC[a]?=some x) (g:13<=r) (b:r<=15):jS z p d f xs a r j=((5,(a:Int),x.1),j):=by
 obtain⟨h,e⟩:=List.getElem?_eq_some_iff.1 c;unfold jS;rw[if_neg (by omega),if_neg (by omega),if_neg (by omega),if_neg (by omega),if_neg (by omega),if_neg (by omega),if_pos b,dif_pos h,e]
theorem uG {z:Src}{p:aK}{d:aF}{e xs a r j:Nat}(c:¬a<d.aC.length) (b:13<=r∧r<=15):jS z p d e xs a r j=(fV p d,j):=by
 unfold jS;rw[if_neg (by omega),if_neg (by omega),if_neg (by omega),if_neg (by omega),if_neg (by omega),if_neg (by omega),if_pos b.2,dif_neg c]
def eZ (z:Src) (p:aK) (d:aF) (i:Nat):(Int×Int×Int)×Nat:=
 jS z p d (aU z p.aB.length i).1 (aU z p.aA.toNat (aU z p.aB.length i).2).1 (aU z p.aE.length (aU z p.aA.toNat (aU z p.aB.length i).2).2).1 (aU z 20 (aU z p.aE.length (aU z p.aA.toNat (aU z p.aB.length i).2).2).2).1 (aU z 20 (aU z p.aE.length (aU z p.aA.toNat (aU z p.aB.length i).2).2).2).2
theorem oU {z:Src}{p:aK}{d:aF}{i a b c r e f g h:Nat}(j:aU z p.aB.length i=(a,e)) (k:aU z p.aA.toNat e=(b,f)) (l:aU z p.aE.length f=(c,g)) (m:aU z 20 g=(r,h)):eZ z p d i=jS z p d a b c r h:=by
 unfold eZ;rw[j];simp only;rw[k];simp only;rw[l];simp only;rw[m]
structure nA (w:World) (cb:Nat) (K:iW) (pc fc:Array Value) (W:World):Prop where
 but:But (fun c=>c≠cb) w W
 cur:eW W cb K
 plan:W.rowIs w.heap.size 27 5 (fun i=>pc[i]!)
 frame:W.rowIs (w.heap.size+1) 40 4 (fun i=>fc[i]!)
 ev:W.rowIs (w.heap.size+2) 55 3 (fun i=>(#[.int .i64 0,.int .i64 0,.int .i64 0]:Array Value)[i]!)
 hcb:cb<w.heap.size
theorem nA.pick {w:World}{a:Nat}{K L:iW}{e d:Array Value}{W W':World}(h:nA w a K e d W) (b:But (fun c=>c≠a) W W') (f:eW W' a L):nA w a L e d W':=by
 have g:=h.hcb;exact⟨h.but.trans b,f,b.row h.plan (by omega),b.row h.frame (by omega),b.row h.ev (by omega),h.hcb⟩
theorem nA.call {w:World}{b:Nat}{K:iW}{d c:Array Value}{W W':World}(h:nA w b K d c W) (a:Below W.heap.size W W'):nA w b K d c W':=
 ⟨h.but.call a,h.cur.but (Q:=fun _=>True) (But.aG a) fun _ _=>trivial,dP h.plan a,dP h.frame a,dP h.ev a,h.hcb⟩
theorem nA.mono {w:World}{a K L i:Nat}{z:Src}{c b:Array Value}{W:World}(h:nA w a ⟨K,i,z⟩ c b W) (d:K<=L):nA w a ⟨L,i,z⟩ c b W:=⟨h.but,h.cur.mono d,h.plan,h.frame,h.ev,h.hcb⟩
theorem nA.ret {w:World}{e K L i:Nat}{z:Src}{r m:Array Value}{W:World}(h:nA w e ⟨K,i,z⟩ r m W) (q:K<=L) (d of a:Int) (g:EvS d of a) {X:(Int×Int×Int)×Nat}(n:X=((d,of,a),i)):∃o f l:Int,Ending.returned (.agg #[.int .i64 d,.int .i64 of,.int .i64 a])=.returned (.agg #[.int .i64 o,.int .i64 f,.int .i64 l])∧EvS o f l∧∃j,eW (((W.setCell ⟨w.heap.size+2,0,none⟩ (.int .i64 d)).setCell ⟨w.heap.size+2,1,none⟩ (.int .i64 of)).setCell ⟨w.heap.size+2,2,none⟩ (.int .i64 a)) e ⟨L,j,z⟩∧But (fun c=>c≠e) w (((W.setCell ⟨w.heap.size+2,0,none⟩ (.int .i64 d)).setCell ⟨w.heap.size+2,1,none⟩ (.int .i64 of)).setCell ⟨w.heap.size+2,2,none⟩ (.int .i64 a))∧X=((o,f,l),j):=by
 have s:=h.hcb;have b:∀o:Nat,¬((fun c=>c≠w.heap.size+2) (⟨w.heap.size+2,o,none⟩:Addr).block):=fun o z=>z rfl;have k:=(((But.refl (fun c=>c≠w.heap.size+2) W).setCell (b 0) (.int .i64 d)).setCell (b 1) (.int .i64 of)).setCell (b 2) (.int .i64 a);exact⟨_,_,_,rfl,g,i,(h.cur.but k fun c p=>by omega).mono q,h.but.low (k.below h.but.size fun c p=>by omega),n⟩
set_option maxRecDepth 100000 in
set_option maxHeartbeats 32000000 in
theorem kU (s:Src) (q K jj:Nat) (p1 p2 p3 f1 f2 f3:Value) (p:aK) (d:aF) (w:World) (hc:eW w q ⟨K,jj,s⟩) (hK:K<=1000000) (hp:aZ (fun b=>b<w.heap.size∧b≠q) w p1 p2 p3 p) (hf:bB (fun b=>b<w.heap.size∧b≠q) w f1 f2 f3 d) (hr:cJ p d) :
  Calls Tryz.prog 79 #[.pointer (some ⟨q,0,none⟩),.agg #[.int .i64 p.aA,p1,p2,p3,.int .i64 p.aI],.agg #[.bool d.ok,f1,f2,f3]] w fun e w'=>∃op of lie:Int,e=.returned (.agg #[.int .i64 op,.int .i64 of,.int .i64 lie])∧EvS op of lie∧∃j,eW w' q ⟨K+10,j,s⟩∧But (fun c=>c≠q) w w'∧eZ s p d jj=((op,of,lie),j):=by
 have hcb:=hc.lt;have KP:=aD fun (W:World) (h:But (fun c=>c≠q) w W)=>hp.keep (Q:=In W) (h.same fun b hb=>hb) fun b hb=>Nat.lt_of_lt_of_le hb.1 h.size;have KF:=aD fun (W:World) (h:But (fun c=>c≠q) w W)=>hf.keep (Q:=In W) (h.same fun b hb=>hb) fun b hb=>Nat.lt_of_lt_of_le hb.1 h.size;obtain⟨U,V,rfl⟩:=hp.1.size;obtain⟨a2,c2,rfl⟩:=hp.2.1.size;obtain⟨a3,c3,rfl⟩:=hp.2.2.size;obtain⟨o1,m1,rfl⟩:=hf.1.size;obtain⟨o2,m2,rfl⟩:=hf.2.1.size;obtain⟨o3,m3,rfl⟩:=hf.2.2.size;have HR:=aD hr;have A:=hr.1.parts.1.1;obtain⟨z,J⟩:∃m:Nat,p.aA=(m:Int):=⟨p.aA.toNat,by have:=A.1; omega⟩
 have b3:1<=z:=by have:=A.1; omega
 have aY:z<=60:=by have:=A.2; omega
 have a9:=aD J;obtain⟨C,S⟩:∃m,m=p.aE.length:=⟨_,rfl⟩;obtain⟨nw,T⟩:∃m,m=p.aB.length:=⟨_,rfl⟩;obtain⟨D,a6⟩:∃m,m=d.aC.length:=⟨_,rfl⟩
 have aV:C<=40:=by rw[S]; exact hr.1.parts.1.2.1
 have aS:nw<=100:=by rw[T]; exact hr.1.parts.1.2.2.1
 have a8:=aD (And.intro S T);rw[← S,← T] at KP ⊢;rw[← a6] at KF ⊢;have O:=aD a6;have T0:=iE w 27 40 55 #[.int .i64 p.aA,.slice U C V,.slice a2 nw c2,.slice a3 p.aO.length c3,.int .i64 p.aI] #[.bool d.ok,.slice o1 d.aH.length m1,.slice o2 D m2,.slice o3 d.aB.length m3] #[.int .i64 0,.int .i64 0,.int .i64 0];have aN:nA w q ⟨K,jj,s⟩ #[.int .i64 p.aA,.slice U C V,.slice a2 nw c2,.slice a3 p.aO.length c3,.int .i64 p.aI] #[.bool d.ok,.slice o1 d.aH.length m1,.slice o2 D m2,.slice o3 d.aB.length m3] _:=⟨But.aG T0.below,hc.but (Q:=fun _=>True) (But.aG T0.below) fun _ _=>trivial,T0.row 0 _ _ rfl,T0.row 1 _ _ rfl,T0.row 2 _ _ rfl,hcb⟩;have q2:=T0.c 0 2 rfl rfl;rw[Nat.add_zero] at q2;have E:=aD aN;clear hp hf hr T0 aN J S T a6 A hc;go_enter Tryz.func79,Tryz.ntmps79
 go_upto_if 13 with fail
 go_cut [7] (fun v wc=>∃x:Nat,v=.int .i64 (x:Int)∧x<=100∧∃j,nA w q ⟨K+2,j,s⟩ #[.int .i64 p.aA,.slice U C V,.slice a2 nw c2,.slice a3 p.aO.length c3,.int .i64 p.aI] #[.bool d.ok,.slice o1 d.aH.length m1,.slice o2 D m2,.slice o3 d.aB.length m3] wc∧aU s nw jj=(x,j))
 case first=>
  by_cases h0:0<nw
  ·have P:decide ((0:Int)<(nw:Int))=true:=decide_eq_true (by omega)
   go_wp2_with fail
   refine (bA s q K jj nw _ E.out.cur (by omega) (by omega)).mono ?_;rintro e w1 ⟨x,rfl,B,jx,k,g,l⟩;have G:=aD l;clear l;have F:=aD (E.out.pick g k)
   have M:x<=100:=by omega
   clear B k g E;go_wp2;go_meet
   case rel=>exact⟨x,rfl,M,_,F.out,G.out⟩
  ·have P:decide ((0:Int)<(nw:Int))=false:=decide_eq_false (by omega);go_wp2;go_meet
   case rel=>exact⟨0,rfl,by omega,_,E.out.mono (by omega),if_pos (by omega)⟩
 case rest=>
  obtain⟨xw,rfl,b6,ja,f,l⟩:=hcut;have HA:=aD l;clear l;have q0:wc.cell? ⟨w.heap.size,0,none⟩=some (.int .i64 p.aA):=f.plan.cell (i:=0) (by omega);rw[a9.out] at q0;have a:=aD f;clear f E q2
  go_upto_if 21 with fail
  go_cut [8] (fun v wc=>∃x:Nat,v=.int .i64 (x:Int)∧x<=100∧∃j,nA w q ⟨K+4,j,s⟩ #[.int .i64 p.aA,.slice U C V,.slice a2 nw c2,.slice a3 p.aO.length c3,.int .i64 p.aI] #[.bool d.ok,.slice o1 d.aH.length m1,.slice o2 D m2,.slice o3 d.aB.length m3] wc∧aU s z ja=(x,j))
  case first=>
   have P:decide ((0:Int)<(z:Int))=true:=decide_eq_true (by omega)
   go_wp2_with fail
   refine (bA s q (K+2) ja z _ a.out.cur (by omega) (by omega)).mono ?_;rintro e w1 ⟨x,rfl,B,jx,k,g,l⟩;have G:=aD l;clear l;have F:=aD (a.out.pick g k)
   have M:x<=100:=by omega
   clear B k g a;go_wp2;go_meet
   case rel=>exact⟨x,rfl,M,_,F.out,G.out⟩
  case rest=>
   obtain⟨xs,rfl,b5,jb,f,l⟩:=hcut;have HB:=aD l;clear l;rename World=>wd;have q1:wd.cell? ⟨w.heap.size,1,none⟩=some (.slice U C V):=f.plan.cell (i:=1) (by omega);clear a q0;have a:=aD f;clear f
   go_upto_if 29 with fail
   go_cut [9] (fun v wc=>∃x:Nat,v=.int .i64 (x:Int)∧x<=100∧∃j,nA w q ⟨K+6,j,s⟩ #[.int .i64 p.aA,.slice U C V,.slice a2 nw c2,.slice a3 p.aO.length c3,.int .i64 p.aI] #[.bool d.ok,.slice o1 d.aH.length m1,.slice o2 D m2,.slice o3 d.aB.length m3] wc∧aU s C jb=(x,j))
   case first=>
    by_cases h0:0<C
    ·have P:decide ((0:Int)<(C:Int))=true:=decide_eq_true (by omega)
     go_wp2_with fail
     refine (bA s q (K+4) jb C _ a.out.cur (by omega) (by omega)).mono ?_;rintro e w1 ⟨x,rfl,B,jx,k,g,l⟩;have G:=aD l;clear l;have F:=aD (a.out.pick g k)
     have M:x<=100:=by omega
     clear B k g a;go_wp2;go_meet
     case rel=>exact⟨x,rfl,M,_,F.out,G.out⟩
    ·have P:decide ((0:Int)<(C:Int))=false:=decide_eq_false (by omega);go_wp2;go_meet
     case rel=>exact⟨0,rfl,by omega,_,a.out.mono (by omega),if_pos (by omega)⟩
   case rest=>
    obtain⟨N,rfl,b4,jc,f,l⟩:=hcut;have HC:=aD l;clear l;rename World=>we;clear q1 a;have a:=aD f;clear f
    go_wp2_with fail
    refine (bA s q (K+6) jc 20 _ a.out.cur (by omega) (by omega)).mono ?_;rintro e o ⟨r,rfl,hr,jr,k,g,l⟩
    have aJ:aU s p.aB.length jj=(xw,ja):=by rw[← a8.out.2]; exact HA.out
    have aL:aU s p.aA.toNat ja=(xs,jb):=by rw[a9.out,Int.toNat_natCast]; exact HB.out
    have aM:aU s p.aE.length jb=(N,jc):=by rw[← a8.out.1]; exact HC.out
    have n:=aD (oU (d:=d) aJ aL aM l);clear aJ aL aM;clear l;have f:=a.out.pick g k
    have aR:r<20:=by omega
    clear hr k g a;have t:=f.ev.cell (i:=0) (by omega);have u:=f.ev.cell (i:=1) (by omega);have y:=f.ev.cell (i:=2) (by omega);have X:=f.ev.frozen 0;have Y:=f.ev.frozen 1;have Z:=f.ev.frozen 2;have a:=aD f;clear f
    have R:(r=0∨r=1∨r=2∨r=3)∨(r=4∨r=5)∨(r=6∨r=7)∨(r=8∨r=9)∨r=10∨(r=11∨r=12)∨(r=13∨r=14∨r=15)∨r=16∨(r=17∨r=18∨r=19):=by omega
    clear aR;rcases R with h | h | h | h | h | h | h | h | h
    ·rcases h with rfl | rfl | rfl | rfl
     all_goals
      go_wp2;refine bodyPost_ret (v:=.agg #[.int .i64 1,.int .i64 (xw:Int),.int .i64 0]) (by simp[results,Tryz.results79,go_sem,t,u,y]) rfl ?_;exact a.out.ret (by omega) _ _ _ ⟨⟨by omega,by omega⟩,⟨by omega,by omega⟩,⟨by omega,by omega⟩⟩ (n.out.trans (wI (by omega)))
    ·rcases h with rfl | rfl
     all_goals
      go_wp2;refine bodyPost_ret (v:=.agg #[.int .i64 2,.int .i64 (xw:Int),.int .i64 0]) (by simp[results,Tryz.results79,go_sem,t,u,y]) rfl ?_;exact a.out.ret (by omega) _ _ _ ⟨⟨by omega,by omega⟩,⟨by omega,by omega⟩,⟨by omega,by omega⟩⟩ (n.out.trans (wJ ⟨by omega,by omega⟩))
    ·rcases h with rfl | rfl
     all_goals
      go_wp2;refine bodyPost_ret (v:=.agg #[.int .i64 3,.int .i64 (xs:Int),.int .i64 0]) (by simp[results,Tryz.results79,go_sem,t,u,y]) rfl ?_;exact a.out.ret (by omega) _ _ _ ⟨⟨by omega,by omega⟩,⟨by omega,by omega⟩,⟨by omega,by omega⟩⟩ (n.out.trans (wK ⟨by omega,by omega⟩))
    ·rcases h with rfl | rfl
     all_goals
      go_wp2;refine bodyPost_ret (v:=.agg #[.int .i64 4,.int .i64 (xs:Int),.int .i64 0]) (by simp[results,Tryz.results79,go_sem,t,u,y]) rfl ?_;exact a.out.ret (by omega) _ _ _ ⟨⟨by omega,by omega⟩,⟨by omega,by omega⟩,⟨by omega,by omega⟩⟩ (n.out.trans (wL ⟨by omega,by omega⟩))
    ·subst h
     go_wp2_with fail
     refine (bA s q (K+8) jr 2 _ a.out.cur (by omega) (by omega)).mono ?_;rintro e wg ⟨x,rfl,B,jx,k,g,l⟩;have a4:=aD l;clear l;have f:=a.out.pick g k
     have aX:x<2:=by omega
     clear B k g a t u y X Y Z;have t:=f.ev.cell (i:=0) (by omega);have u:=f.ev.cell (i:=1) (by omega);have y:=f.ev.cell (i:=2) (by omega);have X:=f.ev.frozen 0;have Y:=f.ev.frozen 1;have Z:=f.ev.frozen 2;have a:=aD f;clear f;go_wp2;refine bodyPost_ret (v:=.agg #[.int .i64 6,.int .i64 (N:Int),.int .i64 (1+(x:Int))]) (by simp[results,Tryz.results79,go_sem,t,u,y]) rfl ?_;exact a.out.ret (by omega) _ _ _ ⟨⟨by omega,by omega⟩,⟨by omega,by omega⟩,⟨by omega,by omega⟩⟩ (n.out.trans (wN rfl a4.out))
    ·rcases h with rfl | rfl
     all_goals
      go_wp2;refine bodyPost_ret (v:=.agg #[.int .i64 7,.int .i64 0,.int .i64 0]) (by simp[results,Tryz.results79,go_sem,t,u,y]) rfl ?_;exact a.out.ret (by omega) _ _ _ ⟨⟨by omega,by omega⟩,⟨by omega,by omega⟩,⟨by omega,by omega⟩⟩ (n.out.trans (wO ⟨by omega,by omega⟩))
    ·rcases h with rfl | rfl | rfl
     all_goals
      have t7:o.cell? ⟨w.heap.size+1,2,none⟩=some (.slice o2 D m2):=a.out.frame.cell (i:=2) (by omega);by_cases aW:N<D
      ·have aQ:decide ((N:Int)<(D:Int))=true:=decide_eq_true (by omega)
       have b0:(N:Int)<(D:Int):=by omega
       obtain⟨-,⟨ap,kp,ep,h0 | ⟨bp,op,rfl,-,aP⟩⟩,-⟩:=KF.out _ a.out.but
       ·have:=O.out; omega
       cases ep
       obtain⟨x,B⟩:=bG d.aC (aD O.out.symm) aW;have x0:=(aP N (by have:=O.out; omega) x B).1;have a7:=(HR.out.2.2.2.2.2.1 N x B).1;have b1:=a7.1;have b2:=a7.2;have aT:=aD B;clear aP B a7;go_wp2;refine bodyPost_ret (v:=.agg #[.int .i64 5,.int .i64 (N:Int),.int .i64 x.1]) (by simp[results,Tryz.results79,go_sem,t,u,y]) rfl ?_;exact a.out.ret (by omega) _ _ _ ⟨⟨by omega,by omega⟩,⟨by omega,by omega⟩,⟨by omega,by omega⟩⟩ (n.out.trans (uH aT.out (by omega) (by omega)))
      ·have aQ:decide ((N:Int)<(D:Int))=false:=decide_eq_false (by omega);have t0:o.cell? ⟨w.heap.size,0,none⟩=some (.int .i64 p.aA):=a.out.plan.cell (i:=0) (by omega);have t1:o.cell? ⟨w.heap.size,1,none⟩=some (.slice U C V):=a.out.plan.cell (i:=1) (by omega);have t2:o.cell? ⟨w.heap.size,2,none⟩=some (.slice a2 nw c2):=a.out.plan.cell (i:=2) (by omega);have t3:o.cell? ⟨w.heap.size,3,none⟩=some (.slice a3 p.aO.length c3):=a.out.plan.cell (i:=3) (by omega);have t4:o.cell? ⟨w.heap.size,4,none⟩=some (.int .i64 p.aI):=a.out.plan.cell (i:=4) (by omega);have t5:o.cell? ⟨w.heap.size+1,0,none⟩=some (.bool d.ok):=a.out.frame.cell (i:=0) (by omega);have t6:o.cell? ⟨w.heap.size+1,1,none⟩=some (.slice o1 d.aH.length m1):=a.out.frame.cell (i:=1) (by omega);have t7:o.cell? ⟨w.heap.size+1,2,none⟩=some (.slice o2 D m2):=a.out.frame.cell (i:=2) (by omega);have t8:o.cell? ⟨w.heap.size+1,3,none⟩=some (.slice o3 d.aB.length m3):=a.out.frame.cell (i:=3) (by omega)
       go_wp2_with fail
       refine (gT q _ _ _ _ _ _ p d o (KP.out _ a.out.but) (KF.out _ a.out.but) HR.out).mono ?_;rintro e wg ⟨op,of,lie,rfl,I,H,L⟩;have a5:=aD L;clear L;have f:=a.out.call H;clear a t u y X Y Z H t0 t1 t2 t3 t4 t5 t6 t7 t8;have t:=f.ev.cell (i:=0) (by omega);have u:=f.ev.cell (i:=1) (by omega);have y:=f.ev.cell (i:=2) (by omega);have X:=f.ev.frozen 0;have Y:=f.ev.frozen 1;have Z:=f.ev.frozen 2;have a:=aD f;have a0:=aD I;clear f I;go_wp2;refine bodyPost_ret (v:=.agg #[.int .i64 op,.int .i64 of,.int .i64 lie]) (by simp[results,Tryz.results79,go_sem,t,u,y]) rfl ?_;exact a.out.ret (by omega) _ _ _ a0.out (n.out.trans (by rw[← a5.out]; exact uG (by have:=O.out; omega) (by omega)))
    ·subst h
     go_wp2_with fail
     refine (bA s q (K+8) jr 3 _ a.out.cur (by omega) (by omega)).mono ?_;rintro e wg ⟨x,rfl,B,jx,k,g,l⟩;have a4:=aD l;clear l;have f:=a.out.pick g k
     have aX:x<3:=by omega
     clear B k g a t u y X Y Z;have t:=f.ev.cell (i:=0) (by omega);have u:=f.ev.cell (i:=1) (by omega);have y:=f.ev.cell (i:=2) (by omega);have X:=f.ev.frozen 0;have Y:=f.ev.frozen 1;have Z:=f.ev.frozen 2;have a:=aD f;clear f;go_wp2;refine bodyPost_ret (v:=.agg #[.int .i64 5,.int .i64 (N:Int),.int .i64 (x:Int)]) (by simp[results,Tryz.results79,go_sem,t,u,y]) rfl ?_;exact a.out.ret (by omega) _ _ _ ⟨⟨by omega,by omega⟩,⟨by omega,by omega⟩,⟨by omega,by omega⟩⟩ (n.out.trans (wM rfl a4.out))
    ·rcases h with rfl | rfl | rfl
     all_goals
      have t0:o.cell? ⟨w.heap.size,0,none⟩=some (.int .i64 p.aA):=a.out.plan.cell (i:=0) (by omega);have t1:o.cell? ⟨w.heap.size,1,none⟩=some (.slice U C V):=a.out.plan.cell (i:=1) (by omega);have t2:o.cell? ⟨w.heap.size,2,none⟩=some (.slice a2 nw c2):=a.out.plan.cell (i:=2) (by omega);have t3:o.cell? ⟨w.heap.size,3,none⟩=some (.slice a3 p.aO.length c3):=a.out.plan.cell (i:=3) (by omega);have t4:o.cell? ⟨w.heap.size,4,none⟩=some (.int .i64 p.aI):=a.out.plan.cell (i:=4) (by omega);have t5:o.cell? ⟨w.heap.size+1,0,none⟩=some (.bool d.ok):=a.out.frame.cell (i:=0) (by omega);have t6:o.cell? ⟨w.heap.size+1,1,none⟩=some (.slice o1 d.aH.length m1):=a.out.frame.cell (i:=1) (by omega);have t7:o.cell? ⟨w.heap.size+1,2,none⟩=some (.slice o2 D m2):=a.out.frame.cell (i:=2) (by omega);have t8:o.cell? ⟨w.heap.size+1,3,none⟩=some (.slice o3 d.aB.length m3):=a.out.frame.cell (i:=3) (by omega)
      go_wp2_with fail
      refine (gT q _ _ _ _ _ _ p d o (KP.out _ a.out.but) (KF.out _ a.out.but) HR.out).mono ?_;rintro e wg ⟨op,of,lie,rfl,I,H,L⟩;have a5:=aD L;clear L;have f:=a.out.call H;clear a t u y X Y Z H t0 t1 t2 t3 t4 t5 t6 t7 t8;have t:=f.ev.cell (i:=0) (by omega);have u:=f.ev.cell (i:=1) (by omega);have y:=f.ev.cell (i:=2) (by omega);have X:=f.ev.frozen 0;have Y:=f.ev.frozen 1;have Z:=f.ev.frozen 2;have a:=aD f;have a0:=aD I;clear f I;go_wp2;refine bodyPost_ret (v:=.agg #[.int .i64 op,.int .i64 of,.int .i64 lie]) (by simp[results,Tryz.results79,go_sem,t,u,y]) rfl ?_;exact a.out.ret (by omega) _ _ _ a0.out (n.out.trans (by rw[← a5.out]; exact uI (by omega)))
end Go.Proofs.YtdhinkgjiapigaaGreatDoor

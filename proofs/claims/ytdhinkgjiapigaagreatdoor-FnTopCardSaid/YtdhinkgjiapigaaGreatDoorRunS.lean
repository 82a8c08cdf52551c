import Derived.Test.YtdhinkgjiapigaaGreatDoorRunJ
namespace Go.Proofs.YtdhinkgjiapigaaGreatDoor
open Go.Deep Go.RowKit
def Rows (rs:List (Nat×TypeId×Array Value)) (W:World):Prop:=∀r∈rs,W.rowIs r.1 r.2.1 r.2.2.size (fun i=>r.2.2[i]!)
theorem Rows.but {a:List (Nat×TypeId×Array Value)}{W W':World}{K:Nat->Prop}(h:Rows a W) (c:But K W W') (d:∀r∈a,K r.1):Rows a W':=fun r b=>c.row (h r b) (d r b)
theorem Rows.call {a:List (Nat×TypeId×Array Value)}{W W':World}(h:Rows a W) (b:Below W.heap.size W W'):Rows a W':=h.but (K:=fun _=>True) (But.aG b) fun _ _=>trivial
theorem Rows.snoc {a:List (Nat×TypeId×Array Value)}{W:World}(h:Rows a W) {b:Nat}{t:TypeId}{c:Array Value}(e:W.rowIs b t c.size (fun i=>c[i]!)):Rows (a++[(b,t,c)]) W:=fun r d=>by
 rcases List.mem_append.1 d with z | z
 ·exact h r z
 ·obtain rfl:=List.mem_singleton.1 z
  exact e
theorem Rows.cell {d:List (Nat×TypeId×Array Value)}{W:World}(h:Rows d W) {j b i:Nat}{t:TypeId}{c:Array Value}{v:Value}(f:d[j]?=some (b,t,c)) (hi:c[i]?=some v):W.cell? ⟨b,i,none⟩=some v:=by
 have g:=h _ (List.mem_of_getElem? f);obtain⟨a,e⟩:=Array.getElem?_eq_some_iff.1 hi;rw[g.cell (i:=i) a];show some c[i]! = some v;rw[getElem!_pos c i a,e]
theorem Rows.c {d:List (Nat×TypeId×Array Value)}{W:World}(h:Rows d W) (j i:Nat) {b:Nat}{t:TypeId}{c:Array Value}{v:Value}(f:d[j]?=some (b,t,c)) (a:c[i]?=some v):W.cell? ⟨b,i,none⟩=some v:=h.cell f a
theorem Rows.cells5 {c:List (Nat×TypeId×Array Value)}{W:World}(h:Rows c W) {j b:Nat}{t:TypeId}{d e f g i:Value}(a:c[j]?=some (b,t,#[d,e,f,g,i])):W.cell? ⟨b,0,none⟩=some d∧W.cell? ⟨b,1,none⟩=some e∧W.cell? ⟨b,2,none⟩=some f∧W.cell? ⟨b,3,none⟩=some g∧W.cell? ⟨b,4,none⟩=some i:=⟨h.cell a rfl,h.cell a rfl,h.cell a rfl,h.cell a rfl,h.cell a rfl⟩
section
open Classical
theorem Tryz.oW:(Tryz.prog.info? 55).map (fun i=>(i.zero,i.size,i.bytes))=some (some (.agg #[.int .i64 0,.int .i64 0,.int .i64 0]),3,24):=by kernel_rfl
def fK (P:Nat->Prop) (w:World) (v:Value) (l:List (Int×aF)):Prop:=
 Sl P v l.length fun b off i=>∀x,l[i]?=some x->∃u1 u2 u3,bB P w u1 u2 u3 x.2∧w.cell? ⟨b,off+i*5,none⟩=some (.int .i64 x.1)∧w.cell? ⟨b,off+i*5+1,none⟩=some (.bool x.2.ok)∧w.cell? ⟨b,off+i*5+2,none⟩=some u1∧w.cell? ⟨b,off+i*5+3,none⟩=some u2∧w.cell? ⟨b,off+i*5+4,none⟩=some u3
theorem fK.keep {P Q:Nat->Prop}{w w':World}{v:Value}{l:List (Int×aF)}(h:fK P w v l) (a:Same P w w') (d:∀b,P b->Q b):fK Q w' v l:=
 Sl.imp h d fun b off i c _ f x j=>by
  obtain⟨k,m,n,g,e⟩:=f x j
  refine⟨k,m,n,g.keep a d,?_⟩
  rw[a b c,a b c,a b c,a b c,a b c]; exact e
theorem eX.read {w w':World}{v:Value}{l:List (Int×aF)}(h:eX w w' v l):fK (fun c=>w.heap.size<=c∧c<w'.heap.size) w' v l:=by
 obtain⟨xs,lo,b,D,o,m,q⟩:=h
 have F:∀j,j<=l.length->lo j<=w'.heap.size:=fun j O=>by
  have:∀n,j+n=l.length->lo j<=w'.heap.size:=fun n=>by
   induction n generalizing j with
   | zero=>intro e; rw[show j=l.length by omega]; exact o
   | succ n ih=>intro e; exact Nat.le_trans (q j (by omega)) (ih (j+1) (by omega) (by omega))
  exact this (l.length-j) (by omega)
 rcases Nat.eq_zero_or_pos l.length with z | z
 ·obtain⟨a,c,rfl⟩:=zag b;exact⟨a,c,rfl,.inl z⟩
 ·obtain⟨g,p,f,rfl,B,d,N,k⟩:=zdt b z;refine⟨_,p,rfl,.inr ⟨g,0,rfl,⟨B,d.lt⟩,fun i hi x G=>?_⟩⟩;obtain⟨H,I,J,K,L,M,bb,r,s,t,u,y,A⟩:=D i x G;refine⟨H,I,J,(A.bound fun c C E=>⟨Nat.le_trans (m i) C.1,E⟩).read,?_⟩;rw[Nat.zero_add,d.cell (by omega),d.cell (by omega),d.cell (by omega),d.cell (by omega),d.cell (by omega),k _ _ r,k _ _ s,k _ _ t,k _ _ u,k _ _ y];exact⟨rfl,rfl,rfl,rfl,rfl⟩
def iB (base:Nat) (W:World) (v:Value) (l:List (Int×aF)) (lo:Nat->Nat):Prop:=
 (∃a cap,v=.slice a l.length cap∧(l.length=0∨∃g N f,a=some ⟨g,0,none⟩∧base<=g∧W.rowIs g 42 N f∧l.length*5<=N∧∀(j:Nat) x,l[j]?=some x->∃bo bp bw bb,f (j*5)=.int .i64 x.1∧f (j*5+1)=.bool x.2.ok∧aP (fun c=>(lo j<=c∧c<lo (j+1))∧c≠g) W (f (j*5+2)) (f (j*5+3)) (f (j*5+4)) x.2 bo bp bw bb)) ∧
 (∀j,base<=lo j)∧(∀j,j<l.length->lo j<=lo (j+1))∧lo l.length<=W.heap.size
theorem eX.owned {w w':World}{v:Value}{l:List (Int×aF)}(h:eX w w' v l):∃lo,iB w.heap.size w' v l lo:=by
 obtain⟨xs,lo,d,G,k,i,o⟩:=h;refine⟨lo,?_,i,o,k⟩;rcases Nat.eq_zero_or_pos l.length with z | z
 ·obtain⟨a,c,rfl⟩:=zag d;exact⟨a,c,rfl,.inl z⟩
 ·obtain⟨g,m,f,rfl,F,p,E,e⟩:=zdt d z;refine⟨_,m,rfl,.inr ⟨g,_,f,rfl,F,p,E,fun j x I=>?_⟩⟩;obtain⟨J,K,L,q,r,s,bb,u,y,A,B,C,D⟩:=G j x I;rw[e _ _ u,e _ _ y,e _ _ A,e _ _ B,e _ _ C];refine⟨q,r,s,bb,rfl,rfl,D.away fun t N f b n H=>iU n p ?_⟩
  rcases H with rfl | rfl | rfl <;> decide
theorem iB.but {base:Nat}{W W':World}{v:Value}{l:List (Int×aF)}{lo:Nat->Nat}{K:Nat->Prop}(h:iB base W v l lo) (k:But K W W') (p:∀c,base<=c->K c):iB base W' v l lo:=by
 obtain⟨⟨a,i,rfl,m⟩,b,n,d⟩:=h;refine⟨⟨a,i,rfl,?_⟩,b,n,Nat.le_trans d k.size⟩;rcases m with z | ⟨g,N,f,e,o,B,y,A⟩
 ·exact .inl z
 ·refine .inr ⟨g,N,f,e,o,k.row B (p g o),y,fun j x C=>?_⟩;obtain⟨q,r,s,bb,t,u,w⟩:=A j x C;exact⟨q,r,s,bb,t,u,w.but k (fun c m=>p c (Nat.le_trans (b j) m.1.1)) fun _ z=>z⟩
theorem iB.read {base:Nat}{W:World}{v:Value}{l:List (Int×aF)}{lo:Nat->Nat}(h:iB base W v l lo):fK (In W) W v l:=by
 obtain⟨⟨a,c,rfl,d⟩,-,-,-⟩:=h;rcases d with z | ⟨g,N,f,rfl,s,b,r,m⟩
 ·exact⟨a,c,rfl,.inl z⟩
 ·refine⟨_,c,rfl,.inr ⟨g,0,rfl,b.lt,fun i hi x n=>?_⟩⟩;obtain⟨o,p,q,bb,e,j,k⟩:=m i x n;refine⟨_,_,_,(k.bound (Q:=In W) fun _ _ d=>d).read,?_⟩;rw[Nat.zero_add,b.cell (by omega),b.cell (by omega),b.cell (by omega),b.cell (by omega),b.cell (by omega),e,j];exact⟨rfl,rfl,rfl,rfl,rfl⟩
set_option maxRecDepth 100000 in
set_option maxHeartbeats 4000000 in
theorem Cx (v1 v2 v3:Value) (p:aK) (w:World) (hp:aZ (In w) w v1 v2 v3 p) (hs:p.Small 1048576) :
  Calls Tryz.prog 26 #[.agg #[.int .i64 p.aA,v1,v2,v3,.int .i64 p.aI]] w fun e w'=>∃u1 u2 u3,e=.returned (.agg #[.bool (qZ p).ok,u1,u2,u3])∧Below w.heap.size w w'∧cQ (w.heap.size+1) w' u1 u2 u3 (qZ p):=by
 have T0:=eB w 27 40 #[.int .i64 p.aA,v1,v2,v3,.int .i64 p.aI] #[.bool false,.slice none 0 0,.slice none 0 0,.slice none 0 0];have HK:=aD fun (W:World) (h:Below w.heap.size w W)=>hp.keep (Q:=In W) (In.keep h).1 (In.keep h).2;have HS:=aD hs;obtain⟨⟨a1,c1,rfl,-⟩,⟨a2,c2,rfl,-⟩,⟨a3,c3,rfl,-⟩⟩:=id hp;clear hp hs;have b0:=T0.c 0 0 rfl rfl;have b1:=T0.c 0 1 rfl rfl;have b2:=T0.c 0 2 rfl rfl;have b3:=T0.c 0 3 rfl rfl;have b4:=T0.c 0 4 rfl rfl;rw[Nat.add_zero] at b0 b1 b2 b3 b4;go_enter Tryz.func26,Tryz.ntmps26
 go_wp2_with fail
 refine (B6 _ _ _ p _ (HK.out _ T0.below) HS.out).mono ?_;clear b0 b1 b2 b3 b4;rintro e D ⟨rfl,hb⟩;have F:=T0.call hb;clear T0 hb;have r0:=F.c 1 0 rfl rfl;have r1:=F.c 1 1 rfl rfl;have r2:=F.c 1 2 rfl rfl;have r3:=F.c 1 3 rfl rfl;have k0:=F.frozen (j:=1) 0 rfl;have k1:=F.frozen (j:=1) 1 rfl;have k2:=F.frozen (j:=1) 2 rfl;have k3:=F.frozen (j:=1) 3 rfl;by_cases hr:Right p
 case neg=>
  rw[bE hr];have HR:=aD hr;have HT:=aD F.below;clear hr F;go_wp2;refine bodyPost_ret (v:=.agg #[.bool false,.slice none 0 0,.slice none 0 0,.slice none 0 0]) (by simp[results,Tryz.results26,go_sem,r0,r1,r2,r3]) rfl ?_;have hz:qZ p=iA:=if_neg HR.out;rw[hz]
  have pz:w.heap.size<=w.heap.size+1:=by omega
  exact⟨_,_,_,rfl,(((HT.out.setCell (p:=⟨w.heap.size+1,0,none⟩) pz _).setCell (p:=⟨w.heap.size+1,1,none⟩) pz _).setCell (p:=⟨w.heap.size+1,2,none⟩) pz _).setCell (p:=⟨w.heap.size+1,3,none⟩) pz _,zK _ _⟩
 rw[bQ hr];have aN:=hr.parts;have HR:=aD hr;have bR:1<=p.aA∧p.aA<=60:=aN.1.1;obtain⟨n,hn⟩:∃n:Nat,p.aA=n:=⟨p.aA.toNat,by omega⟩
 have aX:∀x∈p.aB,1<=x.aA.length∧x.aA.length<=30:=fun x hx=>by
  obtain⟨i,hi⟩:=List.getElem?_of_mem hx;have hw:=Right.way HR.out hi;refine⟨?_,hw.2.1.2⟩;rcases Nat.eq_zero_or_pos x.aA.length with e | e
  ·exact absurd (List.length_eq_zero_iff.1 e) hw.1
  ·exact e
 have bJ:=aD aX;have cP:p.aE.length<=40:=aN.1.2.1;have cR:p.aB.length<=100:=aN.1.2.2.1;have cO:=run_make_row' (P:=Tryz.prog) 36 4 (.bool false) 1 Tryz.underlying36 Tryz.bZ rfl .i64 .i64 n (by omega) (by omega);have q0:=F.c 0 0 rfl rfl;rw[Nat.add_zero] at q0;rw[hn] at q0 bR ⊢;have HN:=aD hn;have c0:=aD F;have aR:w.heap.size+1<D.heap.size:=F.lt (j:=1) rfl;have T3:=(F.call (bC D (.cells (madeCells #[.bool false] n) 4))).call (bC _ (.cells #[.bool true,.slice (some ⟨D.heap.size,0,none⟩) n n,.slice none 0 0,.slice none 0 0] 40));have q1:=T3.c 0 1 rfl rfl;rw[Nat.add_zero] at q1;have Y:=yS (W:=D) (n:=n) (by omega)
 have bA:eI w #[.int .i64 p.aA,.slice a1 p.aE.length c1,.slice a2 p.aB.length c2,.slice a3 p.aO.length c3,.int .i64 p.aI] n (D.heap.size+1) ((D.alloc (.cells (madeCells #[.bool false] n) 4)).alloc (.cells #[.bool true,.slice (some ⟨D.heap.size,0,none⟩) n n,.slice none 0 0,.slice none 0 0] 40)) (.slice (some ⟨D.heap.size,0,none⟩) n n) (.slice none 0 0) (.slice none 0 0) D.heap.size:=by
  refine⟨T3.below,T3.row 0 _ _ rfl,⟨_,T3.row 1 _ _ rfl⟩,?_,Y.but (K:=fun _=>True) (But.aG (bC _ _)) trivial,aR,Nat.lt_succ_self _⟩;have:=dH (D.alloc (.cells (madeCells #[.bool false] n) 4)) 40 #[.bool true,.slice (some ⟨D.heap.size,0,none⟩) n n,.slice none 0 0,.slice none 0 0];rw[World.size_alloc] at this;exact this
 have a4:=aD bA;clear hr aN aX hn F r0 r1 r2 r3 k0 k1 k2 k3 T3 bA Y c0;go_wp2;clear q0 q1;generalize c8:((D.alloc (.cells (madeCells #[.bool false] n) 4)).alloc (.cells #[.bool true,.slice (some ⟨D.heap.size,0,none⟩) n n,.slice none 0 0,.slice none 0 0] 40))=W3 at a4 ⊢;obtain⟨d,bP⟩:∃d,d=D.heap.size+1:=⟨_,rfl⟩;obtain⟨B,Y⟩:∃B,B=D.heap.size:=⟨_,rfl⟩;rw[← bP,← Y] at a4 ⊢;obtain⟨pc,b8⟩:∃pc:Array Value,pc=#[.int .i64 p.aA,.slice a1 p.aE.length c1,.slice a2 p.aB.length c2,.slice a3 p.aO.length c3,.int .i64 p.aI]:=⟨_,rfl⟩;rw[← b8] at a4;have bY:=aD b8
 have cK:Hid (w.heap.size+1<B):=by show w.heap.size+1<B; omega
 have cL:Hid (w.heap.size+1<d):=by show w.heap.size+1<d; omega
 clear c8 b8 bP Y aR D
 go_loopw [17] (fun z wr=>∃(k:Nat) (u2:Value),k<=p.aE.length∧z=.int .i64 k∧eI w pc n d wr (.slice (some ⟨B,0,none⟩) n n) u2 (.slice none 0 0) B∧wr.ownsRow (d+1) 46 2 u2 k (dC (List.replicate k (1,1)))) (fun z _=>p.aE.length-(intOf z).toNat)
 case atStart=>exact⟨0,_,Nat.zero_le _,rfl,a4.out,World.ownsRow_nil _ _ _ _⟩
 case round=>
  obtain⟨k,u2,hk,rfl,a,g⟩:=hrel;rename World=>wA;obtain⟨S,U,rfl⟩:=zag g;by_cases Z:k<p.aE.length
  ·have y2:wA.cell? ⟨d,2,none⟩=some (.slice S k U):=a.out.cell (i:=2) (by omega);have c9:d<wA.heap.size:=a.out.lt;have L:=bC wA (.cells #[.int .i64 1,.int .i64 1] 46);have s:=aD (gD (K:=fun _=>True) g (But.aG L) fun _ _=>trivial)
   have R:Hid (1=0∨∃A,(some (⟨wA.heap.size,0,none⟩:Addr))=some A∧∀j u,([.int .i64 1,.int .i64 1]:List Value)[j]?=some u->(wA.alloc (.cells #[.int .i64 1,.int .i64 1] 46)).cell? (A.add j)=some u):=by
    refine .inr ⟨_,rfl,fun j u C=>?_⟩;rw[mJ,Nat.zero_add];have cB:j<2:=(List.getElem?_eq_some_iff.1 C).1;rw[(dH wA 46 #[.int .i64 1,.int .i64 1]).cell (by simpa using cB)];rcases j with _ | _ | j
    ·exact C
    ·exact C
    ·omega
   have a9:Hid (∀u∈([.int .i64 1,.int .i64 1]:List Value),u.oneCell'=true):=by
    intro u hu;simp at hu;subst hu;rfl
   have b5:Hid (k+1<=maxLen):=by show k+1<=maxLen; unfold maxLen; omega
   have b6:Hid ((k+1)*16<=140737488355328):=by show (k+1)*16<=140737488355328; omega
   have I:Hid (d+1<=(wA.alloc (.cells #[.int .i64 1,.int .i64 1] 46)).heap.size):=by show d+1<=_; rw[World.size_alloc]; omega
   obtain⟨xs,b9⟩:∃xs,xs=dC (List.replicate k (1,1)):=⟨_,rfl⟩;have c4:=aD b9;rw[← b9] at s;have a0:=aD a;have bD:=aD L;clear b9 a g L
   go_wp2_with (at_builtin; refine iN rfl _ _ 37 rfl (d+1) 46 (.agg #[.int .i64 0,.int .i64 0]) 2 16 Tryz.underlying37 Tryz.fY rfl (by decide) (.slice S k U) k xs rfl s.out (some ⟨wA.heap.size,0,none⟩) 1 1 [.int .i64 1,.int .i64 1] rfl rfl R.out a9.out b5.out b6.out I.out ?_)
   intro u5 r q t;obtain⟨a6,c6,rfl⟩:=zag q;have E:=(a0.out.call bD.out).but (K:=fun c=>c<d+1) (But.of_below (mH s.out t (Nat.le_refl _) I.out) fun _ _ z=>z) fun _ z=>z;have y3:r.cell? ⟨d,2,none⟩=some (.slice S k U):=E.out.cell (i:=2) (by omega);have z3:=E.out.frozen 2
   have bB:=aD (And.intro (E.wX (.slice a6 (k+1) c6)) (show (r.setCell ⟨d,2,none⟩ (.slice a6 (k+1) c6)).ownsRow (d+1) 46 2 (.slice a6 (k+1) c6) (k+1) (dC (List.replicate (k+1) (1,1))) by
    rw[← Cc,← c4.out]
    exact iY (K:=fun c=>c≠d) q ((But.refl _ _).setCell (fun z=>z rfl) _) fun c hc _=>by omega))
   clear E q t s R a9 a0 bD y2;go_wp2;go_roundw
   case rel=>exact⟨k+1,_,by omega,by go_num,bB.out.1,bB.out.2⟩
   case measure=>simp[intOf]; omega
  ·obtain rfl:k=p.aE.length:=by omega
   obtain⟨bp,bM,bN⟩:=vM (l:=List.replicate p.aE.length (1,1)) g (by rw[List.length_replicate]);have cN:(List.replicate p.aE.length ((1,1):Int×Int)).length=p.aE.length:=List.length_replicate;have bX:=aD bM;have bF:=aD bN;have a0:=aD a
   have x2:wA.cell? ⟨w.heap.size,2,none⟩=some (.slice a2 p.aB.length c2):=by have:=a.box.cell (i:=2) (by omega); rw[bY.out] at this; exact this
   clear g a bM bN Z hk;go_wp2;clear x2
   go_loopw [29] (fun z wr=>∃(k:Nat) (xs:List Value) (u3:Value) (bb:Nat->Nat),k<=p.aB.length∧z=.int .i64 k∧eI w pc n d wr (.slice (some ⟨B,0,none⟩) n n) (.slice S p.aE.length U) u3 B∧bH wr (.slice S p.aE.length U) (List.replicate p.aE.length (1,1)) bp ∧
    wr.ownsRow (d+1) 44 5 u3 k xs∧dQ wr (d+1) (lJ p.aB) k xs bb∧(∀i j,i<k->j<k->bb i=bb j->i=j)) (fun z _=>p.aB.length-(intOf z).toNat)
   case atStart=>exact⟨0,[],.slice none 0 0,fun _=>0,Nat.zero_le _,rfl,a0.out,bX.out,World.ownsRow_nil _ _ _ _,fun j _ C=>by omega,fun i j hi=>by omega⟩
   case round=>
    obtain⟨k,xs,u3,bb,hk,rfl,a,aM,g,hX,H⟩:=hrel;rename World=>f;obtain⟨T,V,rfl⟩:=zag g;by_cases Z:k<p.aB.length
    ·obtain⟨x,hx⟩:=bG p.aB (aD rfl) Z;obtain⟨-,hW,-⟩:=HK.out f a.below;obtain⟨aw,cw,ew,aC⟩:=hW
     cases ew
     obtain h0 | ⟨b2,o2,rfl,-,aC⟩:=aC
     ·omega
     obtain⟨v0,v1,v2,v3,v4,M,g0,g1,g2,g3,g4⟩:=aC k Z x hx;obtain⟨s0,e0,rfl⟩:=M.1.size;obtain⟨s1,N,rfl⟩:=M.2.1.size;obtain⟨s2,O,rfl⟩:=M.2.2.1.size;obtain⟨s3,e3,rfl⟩:=M.2.2.2.1.size;obtain⟨s4,e4,rfl⟩:=M.2.2.2.2.size;have cS:=bJ.out x (List.mem_of_getElem? hx);have cJ:=run_make_row' (P:=Tryz.prog) 36 4 (.bool false) 1 Tryz.underlying36 Tryz.bZ rfl .i64 .i64 x.aA.length (by omega) (by omega);have c9:d<f.heap.size:=a.out.lt;have L:=bC f (.cells #[.slice s0 x.aA.length e0,.slice s1 x.aQ.length N,.slice s2 x.aJ.length O,.slice s3 x.over.length e3,.slice s4 x.aW.length e4] 51);have y3:(f.alloc (.cells #[.slice s0 x.aA.length e0,.slice s1 x.aQ.length N,.slice s2 x.aJ.length O,.slice s3 x.over.length e3,.slice s4 x.aW.length e4] 51)).cell? ⟨d,3,none⟩=some (.slice T k V):=(a.call L).out.cell (i:=3) (by omega);have z3:=(a.call L).out.frozen 3
     have yw:(f.alloc (.cells #[.slice s0 x.aA.length e0,.slice s1 x.aQ.length N,.slice s2 x.aJ.length O,.slice s3 x.over.length e3,.slice s4 x.aW.length e4] 51)).cell? ⟨f.heap.size,0,none⟩=some (.slice s0 x.aA.length e0):=by simp
     have Hx:=aD hx;have aY:=aD a;have bI:=aD aM;have b7:=aD g;have HX:=aD hX;have bV:=aD H;clear hx aC M a aM g hX H;obtain⟨i0,cA,cF,aR,cG⟩:=info_parts Tryz.gU;obtain⟨WY,J⟩:∃W,W=((((f.alloc (.cells #[.slice s0 x.aA.length e0,.slice s1 x.aQ.length N,.slice s2 x.aJ.length O,.slice s3 x.over.length e3,.slice s4 x.aW.length e4] 51)).alloc (.cells (madeCells #[.bool false] x.aA.length) 4)).alloc (.cells #[.int .i64 0,.int .i64 0,.slice (some ⟨f.heap.size+1,0,none⟩) x.aA.length x.aA.length,.bool false,.int .i64 0] 44)).drew):=⟨_,rfl⟩;have C3:=iE f 51 4 44 #[.slice s0 x.aA.length e0,.slice s1 x.aQ.length N,.slice s2 x.aJ.length O,.slice s3 x.over.length e3,.slice s4 x.aW.length e4] (madeCells #[.bool false] x.aA.length) #[.int .i64 0,.int .i64 0,.slice (some ⟨f.heap.size+1,0,none⟩) x.aA.length x.aA.length,.bool false,.int .i64 0];have C4:=C3.call (cT _);rw[← J] at C4
     have bK:Hid (WY.heap.size=f.heap.size+1+1+1):=by show WY.heap.size=_; rw[J]; simp
     have s:=aD (gD (K:=fun _=>True) b7.out (But.aG C4.below) fun _ _=>trivial)
     have R:Hid (∀j u,([.int .i64 0,.int .i64 0,.slice (some ⟨f.heap.size+1,0,none⟩) x.aA.length x.aA.length,.bool false,.int .i64 0]:List Value)[j]?=some u->WY.cell? ((⟨f.heap.size+1+1,0,none⟩:Addr).add j)=some u):=by
      intro j u C;rw[mJ,Nat.zero_add];have cC:j<5:=(List.getElem?_eq_some_iff.1 C).1;rw[(C4.row 2 _ _ rfl).cell (by simpa using cC)];rcases j with _ | _ | _ | _ | _ | j
      ·exact C
      ·exact C
      ·exact C
      ·exact C
      ·exact C
      ·omega
     have a9:Hid (∀u∈([.int .i64 0,.int .i64 0,.slice (some ⟨f.heap.size+1,0,none⟩) x.aA.length x.aA.length,.bool false,.int .i64 0]:List Value),u.oneCell'=true):=by
      intro u hu;simp at hu
      rcases hu with rfl | rfl | rfl | rfl <;> rfl
     have b5:Hid (k+1<=maxLen):=by show k+1<=maxLen; unfold maxLen; omega
     have b6:Hid ((k+1)*56<=140737488355328):=by show (k+1)*56<=140737488355328; omega
     have I:Hid (d+1<=WY.heap.size):=by show d+1<=WY.heap.size; rw[bK.out]; omega
     have a8:=aD C4
     have aT:∀r:World,WY.grownBy r (Value.slice T k V).ownBlock->eI w pc n d r (.slice (some ⟨B,0,none⟩) n n) (.slice S p.aE.length U) (.slice T k V) B∧r.cell? ⟨f.heap.size,0,none⟩=some (.slice s0 x.aA.length e0):=fun r hg=>by
      refine⟨(aY.out.call a8.out.below).but (K:=fun c=>c<d+1) (But.of_below (mH s.out hg (Nat.le_refl _) I.out) fun _ _ z=>z) fun _ z=>z,?_⟩;rw[hg.cell_far ⟨f.heap.size,0,none⟩ (by show f.heap.size<_; rw[bK.out]; omega) (fun e=>by have:=(gJ b7.out e.symm).2.1; simp at this)];exact a8.out.c 0 0 rfl rfl
     have G:=aD aT
     have bW:Hid (aV WY (.slice (some ⟨f.heap.size+1,0,none⟩) x.aA.length x.aA.length) (jQ x.aA.length).aL (f.heap.size+1)):=by
      have:=yS (W:=f.alloc (.cells #[.slice s0 x.aA.length e0,.slice s1 x.aQ.length N,.slice s2 x.aJ.length O,.slice s3 x.over.length e3,.slice s4 x.aW.length e4] 51)) (n:=x.aA.length) (by omega);rw[World.size_alloc] at this;show aV WY _ _ _;rw[J];exact (this.but (K:=fun _=>True) (But.aG (bC _ _)) trivial).but (K:=fun _=>True) (But.aG (cT _)) trivial
     have aF:∀j,j<k->bb j<f.heap.size∧d+1<=bb j:=fun j C=>by
      obtain⟨y,hy⟩:=bG (lJ p.aB) (aD (oE _)) (show j<p.aB.length by omega);obtain⟨_,_,⟨_,_,hu⟩,_,_,hm⟩:=HX.out j y C hy;exact⟨hu.lt,hm⟩
     have aU:∀(r:World) (X m:Nat),WY.grownBy r (Value.slice T k V).ownBlock->r.ownsRow (d+1) 44 5 (.slice (some ⟨X,0,none⟩) (k+1) m) (k+1) (xs++[.int .i64 0,.int .i64 0,.slice (some ⟨f.heap.size+1,0,none⟩) x.aA.length x.aA.length,.bool false,.int .i64 0]) ->
       eI w pc n d (r.setCell ⟨d,3,none⟩ (.slice (some ⟨X,0,none⟩) (k+1) m)) (.slice (some ⟨B,0,none⟩) n n) (.slice S p.aE.length U) (.slice (some ⟨X,0,none⟩) (k+1) m) B∧bH (r.setCell ⟨d,3,none⟩ (.slice (some ⟨X,0,none⟩) (k+1) m)) (.slice S p.aE.length U) (List.replicate p.aE.length (1,1)) bp ∧
       (r.setCell ⟨d,3,none⟩ (.slice (some ⟨X,0,none⟩) (k+1) m)).ownsRow (d+1) 44 5 (.slice (some ⟨X,0,none⟩) (k+1) m) (k+1) (xs++[.int .i64 0,.int .i64 0,.slice (some ⟨f.heap.size+1,0,none⟩) x.aA.length x.aA.length,.bool false,.int .i64 0]) ∧
       dQ (r.setCell ⟨d,3,none⟩ (.slice (some ⟨X,0,none⟩) (k+1) m)) (d+1) (lJ p.aB) (k+1) (xs++[.int .i64 0,.int .i64 0,.slice (some ⟨f.heap.size+1,0,none⟩) x.aA.length x.aA.length,.bool false,.int .i64 0]) (fun j=>if j=k then f.heap.size+1 else bb j) ∧
       ∀i j,i<k+1->j<k+1->(if i=k then f.heap.size+1 else bb i)=(if j=k then f.heap.size+1 else bb j)->i=j:=fun r X m hg ho=>by
      have cD:∀c,c≠d->c≠(⟨d,3,none⟩:Addr).block:=fun c hc=>hc;have hO:∀ {v:Value}{l:List Bool}{b:Nat},aV WY v l b->b≠d->aV (r.setCell ⟨d,3,none⟩ (.slice (some ⟨X,0,none⟩) (k+1) m)) v l b:=fun hb cE=>(hb.held hg s.out).of_block (Below.heap_setCell _ _ _ _ (cD _ cE));refine⟨(G.out r hg).1.wY _,?_,iY (K:=fun c=>c≠d) ho ((But.refl _ _).setCell (fun z=>z rfl) _) fun c hc _=>by omega,?_,fun i j hi C=>?_⟩
      ·refine (bH.held (bI.out.but (K:=fun _=>True) (But.aG a8.out.below) fun _=>trivial) hg s.out).but (K:=fun c=>c≠d) ((But.refl _ _).setCell (fun z=>z rfl) _) fun z=>?_;have:=bF.out z; omega
      ·exact dQ.snoc (W':=r.setCell ⟨d,3,none⟩ (.slice (some ⟨X,0,none⟩) (k+1) m)) HX.out b7.out.1 (yP Hx.out) (hO bW.out (by omega)) (by omega) fun j y v C hy hv=>hO (hv.but (K:=fun _=>True) (But.aG a8.out.below) trivial) (by have:=(aF j C).2; omega)
      ·by_cases N:i=k <;> by_cases O:j=k
       ·intro _; omega
       ·rw[if_pos N,if_neg O]; intro z; have:=(aF j (by omega)).1; omega
       ·rw[if_neg N,if_pos O]; intro z; have:=(aF i (by omega)).1; omega
       ·rw[if_neg N,if_neg O]; exact bV.out i j (by omega) (by omega)
     have aS:=aD aU;clear aU aF;rw[J] at s R I G aS;have cU:((f.alloc (.cells #[.slice s0 x.aA.length e0,.slice s1 x.aQ.length N,.slice s2 x.aJ.length O,.slice s3 x.over.length e3,.slice s4 x.aW.length e4] 51)).alloc (.cells (madeCells #[.bool false] x.aA.length) 4)).cell? ⟨d,3,none⟩=some (.slice T k V):=(aY.out.call (eB f 51 4 _ _).below).out.cell (i:=3) (by omega);have cV:(((f.alloc (.cells #[.slice s0 x.aA.length e0,.slice s1 x.aQ.length N,.slice s2 x.aJ.length O,.slice s3 x.over.length e3,.slice s4 x.aW.length e4] 51)).alloc (.cells (madeCells #[.bool false] x.aA.length) 4)).alloc (.cells #[.int .i64 0,.int .i64 0,.slice (some ⟨f.heap.size+1,0,none⟩) x.aA.length x.aA.length,.bool false,.int .i64 0] 44)).cell? ⟨d,3,none⟩=some (.slice T k V):=(aY.out.call C3.below).out.cell (i:=3) (by omega);have cM:=aD J;clear C3 C4 aT J
     go_wp2_with fail
     clear g0 g1 g2 g3 g4
     go_region_law
      ((refine step_append_lies _ (by rfl) _ _ _ (by rfl) (d+1) 44 i0 _ 5 56 Tryz.underlying38 cA cF aR cG rfl (by omega) (.slice T k V) k xs (by rfl) s.out ⟨f.heap.size+1+1,0,none⟩ 1 1 [.int .i64 0,.int .i64 0,.slice (some ⟨f.heap.size+1,0,none⟩) x.aA.length x.aA.length,.bool false,.int .i64 0] (by rfl) (by rfl) R.out a9.out (by omega) b5.out b6.out I.out (f.heap.size+1+1+1) (by simp) ?_; intro X m r q t cH cI; have E:=(G.out r t).1; have y5:r.cell? ⟨d,3,none⟩=some (.slice T k V):=E.out.cell (i:=3) (by omega); have z5:=E.out.frozen 3; have cW:=(G.out r t).2))
     all_goals
      go_wp2;go_roundw
      case rel=>exact⟨k+1,_,_,_,by omega,by go_num,aS.out r _ _ t q⟩
      case measure=>simp[intOf]; omega
    ·obtain rfl:k=p.aB.length:=by omega
     obtain⟨bw,bL,bO⟩:=BE g hX (oE _).symm;obtain⟨gR,hR⟩:=a.res;have t0:f.cell? ⟨d,0,none⟩=some (.bool true):=a.out.cell (i:=0) (by omega);have t1:f.cell? ⟨d,1,none⟩=some (.slice (some ⟨B,0,none⟩) n n):=a.out.cell (i:=1) (by omega);have t2:f.cell? ⟨d,2,none⟩=some (.slice S p.aE.length U):=a.out.cell (i:=2) (by omega);have t3:f.cell? ⟨d,3,none⟩=some (.slice T p.aB.length V):=a.out.cell (i:=3) (by omega);have r0:=hR.cell (i:=0) (by omega);have r1:=hR.cell (i:=1) (by omega);have r2:=hR.cell (i:=2) (by omega);have r3:=hR.cell (i:=3) (by omega);have k0:=hR.frozen 0;have k1:=hR.frozen 1;have k2:=hR.frozen 2;have k3:=hR.frozen 3
     have fr:aP (fun c=>w.heap.size+1+1<=c) f (.slice (some ⟨B,0,none⟩) n n) (.slice S p.aE.length U) (.slice T p.aB.length V) (bT p) B bp bw bb:=by
      refine⟨?_,aM,?_,a.po,fun z=>?_,fun z=>?_,fun i hi=>?_,fun i j hi C=>H i j ?_ ?_,fun i hi=>?_⟩
      ·show aV f _ (List.replicate p.aA.toNat false) B;rw[HN.out,Int.toNat_natCast];exact a.aH
      ·exact bL
      ·have:=bF.out z; have:=a.po; have:=a.pf; omega
      ·have:=bO z; have:=a.po; have:=a.pf; omega
      ·obtain⟨y,hy⟩:=bG (lJ p.aB) (aD rfl) hi;have:=(hX i y (by rw[← oE]; exact hi) hy).2.2.2.2.2;have:=a.po; have:=a.pf; omega
      ·rw[← oE]; exact hi
      ·rw[← oE]; exact C
      ·obtain⟨y,hy⟩:=bG (lJ p.aB) (aD rfl) hi;have:=(hX i y (by rw[← oE]; exact hi) hy).2.2.2.2.2;have:=a.pf; omega
     have bU:=aD fr;have bS:=aD a.below;clear fr hR bL bO hX H g aM a Z;go_wp2;refine bodyPost_ret (v:=.agg #[.bool true,.slice (some ⟨B,0,none⟩) n n,.slice S p.aE.length U,.slice T p.aB.length V]) (by simp[results,Tryz.results26,go_sem,r0,r1,r2,r3]) rfl ?_;have hz:qZ p=bT p:=if_pos HR.out;rw[hz]
     have pz:w.heap.size<=w.heap.size+1:=by omega
     have hk:∀o:Nat,¬((fun c=>c≠w.heap.size+1) (⟨w.heap.size+1,o,none⟩:Addr).block):=fun o z=>z rfl;refine⟨_,_,_,rfl,(((bS.out.setCell (p:=⟨w.heap.size+1,0,none⟩) pz _).setCell (p:=⟨w.heap.size+1,1,none⟩) pz _).setCell (p:=⟨w.heap.size+1,2,none⟩) pz _).setCell (p:=⟨w.heap.size+1,3,none⟩) pz _,.inl ⟨B,bp,bw,bb,?_⟩⟩
     exact bU.out.but (Q:=fun c=>w.heap.size+1<=c) (((((But.refl (fun c=>c≠w.heap.size+1) f).setCell (hk 0) _).setCell (hk 1) _).setCell (hk 2) _).setCell (hk 3) _) (fun c hc=>by omega) fun c hc=>by omega
theorem gC.put {w:World}{A:Array Value}{a:Nat}{W:World}{v:Value}{xs:List Value}{lo:Nat->Nat}{l:List (Int×aF)}{f x:aF}{C D E b j m:Value}{n p q:Nat}{bb:Nat->Nat}{P:Nat->Prop}(h:gC w A a W v xs lo l f C D E) (y:aP P W b j m x n p q bb) (B:∀c,P c->w.heap.size<=c) :
  gC w A a ((((W.setCell ⟨a,0,none⟩ (.bool x.ok)).setCell ⟨a,1,none⟩ b).setCell ⟨a,2,none⟩ j).setCell ⟨a,3,none⟩ m) v xs lo l x b j m∧aP P ((((W.setCell ⟨a,0,none⟩ (.bool x.ok)).setCell ⟨a,1,none⟩ b).setCell ⟨a,2,none⟩ j).setCell ⟨a,3,none⟩ m) b j m x n p q bb∧But (fun c=>c≠a) W ((((W.setCell ⟨a,0,none⟩ (.bool x.ok)).setCell ⟨a,1,none⟩ b).setCell ⟨a,2,none⟩ j).setCell ⟨a,3,none⟩ m):=by
 have t:∀o:Nat,¬((fun c=>c≠a) (⟨a,o,none⟩:Addr).block):=fun o z=>z rfl;have s:=((((But.refl (fun c=>c≠a) W).setCell (t 0) (.bool x.ok)).setCell (t 1) b).setCell (t 2) j).setCell (t 3) m;have r:∀(P:Nat->Prop) v1 v2 v3 d n p q bb,aP P W v1 v2 v3 d n p q bb->aP P ((((W.setCell ⟨a,0,none⟩ (.bool x.ok)).setCell ⟨a,1,none⟩ b).setCell ⟨a,2,none⟩ j).setCell ⟨a,3,none⟩ m) v1 v2 v3 d n p q bb:=fun P v1 v2 v3 d n p q bb k=>k.boxed h.cA ⟨by decide,by decide,by decide⟩ s fun _ z=>z;refine⟨⟨h.below.trans (s.below h.below.size fun c F=>by have:=h.mR; omega),s.row h.box (by have:=h.mR; omega),?_,?_,h.kG.map r,⟨n,p,q,bb,(r _ _ _ _ _ _ _ _ _ y).but (K:=fun _=>True) (But.refl _ _) (fun _ _=>trivial) B⟩,Nat.le_trans h.top s.size,h.low,h.step,h.mR⟩,r _ _ _ _ _ _ _ _ _ y,s⟩
 ·refine ((((h.cA.set 0 _).set 1 _).set 2 _).set 3 _).congr fun i hi=>?_;rcases i with _ | _ | _ | _ | i
  ·rfl
  ·rfl
  ·rfl
  ·rfl
  ·omega
 ·exact gD h.own s fun g u e=>(gJ h.own u).2.2 _ _ _ _ h.cA (by decide) e.symm
theorem gC.add {w:World}{I:Array Value}{H hi:Nat}{W q:World}{v v':Value}{xs:List Value}{lo:Nat->Nat}{l:List (Int×aF)}{f:aF}{J K L B C D:Value}{x:Int×aF}{E F G:Nat}{bb:Nat->Nat}(h:gC w I H W v xs lo l f J K L) (O:aP (fun c=>lo l.length<=c∧c<hi) W B C D x.2 E F G bb) (z:hi<=W.heap.size) (n:lo l.length<=hi)
  (o:q.ownsRow w.heap.size 42 5 v' (l.length+1) (xs++[.int .i64 x.1,.bool x.2.ok,B,C,D])) (a:W.grownBy q v.ownBlock) :
  gC w I H q v' (xs++[.int .i64 x.1,.bool x.2.ok,B,C,D]) (fun j=>if j=l.length+1 then hi else lo j) (l++[x]) f J K L:=by
 have i:But (fun c=>some c≠v.ownBlock) W q:=⟨a.os,a.tape,a.output,a.size,fun c Q S=>a.block c Q S⟩;have p:∀ {b t N:Nat}{g:Nat->Value},W.rowIs b t N g->t≠42->some b≠v.ownBlock:=fun T U e=>(gJ h.own e.symm).2.2 _ _ _ _ T U rfl
 have m:(l++[x]).length=l.length+1:=by rw[List.length_append]; rfl
 have M:Below w.heap.size w q:=h.below.trans (mH h.own a (Nat.le_refl _) h.below.size);obtain⟨s,u,y,r,R⟩:=h.frame;refine⟨M,i.row h.box (p h.box (by decide)),i.row h.cA (p h.cA (by decide)),by rw[m]; exact o,(h.kG.map fun P v1 v2 v3 d E F G bb k=>k.grown a h.own).snoc h.own.1 (O.grown a h.own),⟨s,u,y,r,R.grown a h.own⟩,?_,fun j=>?_,fun j A=>?_,h.mR⟩
 ·rw[m,if_pos rfl];exact Nat.le_trans z i.size
 ·by_cases e:j=l.length+1
  ·rw[if_pos e];exact Nat.le_trans (h.low l.length) n
  ·rw[if_neg e];exact h.low j
 ·rw[m] at A;by_cases e:j=l.length
  ·rw[if_neg (show ¬j=l.length+1 by omega),if_pos (show j+1=l.length+1 by omega),e];exact n
  ·rw[if_neg (show ¬j=l.length+1 by omega),if_neg (show ¬j+1=l.length+1 by omega)];exact h.step j (by omega)
set_option maxRecDepth 100000 in
set_option maxHeartbeats 8000000 in
theorem Es (p1 p2 p3 ve:Value) (p:aK) (M:List (Int×Int×Int)) (w:World) (hp:aZ (In w) w p1 p2 p3 p) (N:pL (In w) w ve M) (hs:p.Small 1048576) (cU:M.length<=1048576) :
  Calls Tryz.prog 13 #[.agg #[.int .i64 p.aA,p1,p2,p3,.int .i64 p.aI],ve] w fun e w'=>∃v,e=.returned v∧Below w.heap.size w w'∧eX w w' v (iZ p M):=by
 have KP:=aD fun (W:World) (h:Below w.heap.size w W)=>hp.keep (Q:=In W) (In.keep h).1 (In.keep h).2;have KE:=aD fun (W:World) (h:Below w.heap.size w W)=>N.keep (Q:=In W) (In.keep h).1 (In.keep h).2;obtain⟨a1,c1,rfl⟩:=hp.1.size;obtain⟨a2,c2,rfl⟩:=hp.2.1.size;obtain⟨a3,c3,rfl⟩:=hp.2.2.size;obtain⟨ae,ce,rfl,-⟩:=id N;have T0:=cZ w 27 #[.int .i64 p.aA,.slice a1 p.aE.length c1,.slice a2 p.aB.length c2,.slice a3 p.aO.length c3,.int .i64 p.aI];have HS:=aD hs;have cE:¬(Right p∧M.length<=1000)->iZ p M=[]:=fun h=>if_neg h;have bJ:=aD cE;clear hp N hs cE;go_enter Tryz.func13,Tryz.ntmps13
 go_wp2_with fail
 refine (B6 _ _ _ p _ (KP.out _ T0.below) HS.out).mono ?_;rintro e w1 ⟨rfl,hb⟩;have T1:=T0.call hb;clear T0 hb;by_cases hr:Right p
 case neg=>
  rw[bE hr];have bK:=aD (bJ.out fun z=>hr z.1);have HT:=aD T1.below;clear hr T1;go_wp2;go_ret;refine⟨_,rfl,HT.out,?_⟩;rw[bK.out];exact zN HT.out.size
 rw[bQ hr];by_cases hl:M.length<=1000
 case neg=>
  have bK:=aD (bJ.out fun z=>hl z.2);have HT:=aD T1.below
  have cC:(1000:Int)<(M.length:Int):=by omega
  have cN:decide ((1000:Int)<(M.length:Int))=true:=decide_eq_true cC;clear hr T1 hl cC;go_wp2;go_ret;refine⟨_,rfl,HT.out,?_⟩;rw[bK.out];exact zN HT.out.size
 have bY:=aD (show iZ p M=iV p (bT p) M from if_pos ⟨hr,hl⟩);have cN:decide ((1000:Int)<(M.length:Int))=false:=decide_eq_false (by omega);have HR:=aD hr;have m0:=T1.c 0 0 rfl rfl;have m1:=T1.c 0 1 rfl rfl;have m2:=T1.c 0 2 rfl rfl;have m3:=T1.c 0 3 rfl rfl;have m4:=T1.c 0 4 rfl rfl;rw[Nat.add_zero] at m0 m1 m2 m3 m4;have bB:=aD (Cx _ _ _ p w1 (KP.out _ T1.below) HS.out);clear hr hl bJ
 go_wp2_with fail
 refine bB.out.mono ?_;clear m0 m1 m2 m3 m4 bB;rintro e w3 ⟨u1,u2,u3,rfl,hb,b8⟩;have hz:qZ p=bT p:=if_pos HR.out;rw[hz] at b8 ⊢;have T3:=T1.call hb;obtain⟨bo,bp,bw,bb,hF⟩:=b8.own (vB (xM HR.out));obtain⟨q1,s1,q2,s2,q3,s3,rfl,rfl,rfl⟩:=b8.slices;have R:=bC w3 (.cells #[.bool (bT p).ok,.slice q1 (bT p).aH.length s1,.slice q2 (bT p).aC.length s2,.slice q3 (bT p).aB.length s3] 40);have bA:=dH w3 40 #[.bool (bT p).ok,.slice q1 (bT p).aH.length s1,.slice q2 (bT p).aC.length s2,.slice q3 (bT p).aB.length s3];have T4:=T3.call R
 have RB:gC w #[.int .i64 p.aA,.slice a1 p.aE.length c1,.slice a2 p.aB.length c2,.slice a3 p.aO.length c3,.int .i64 p.aI] w3.heap.size (w3.alloc (.cells #[.bool (bT p).ok,.slice q1 (bT p).aH.length s1,.slice q2 (bT p).aC.length s2,.slice q3 (bT p).aB.length s3] 40)) (.slice none 0 0) [] (fun _=>(w3.alloc (.cells #[.bool (bT p).ok,.slice q1 (bT p).aH.length s1,.slice q2 (bT p).aC.length s2,.slice q3 (bT p).aB.length s3] 40)).heap.size) [] (bT p) (.slice q1 (bT p).aH.length s1) (.slice q2 (bT p).aC.length s2) (.slice q3 (bT p).aB.length s3):=
  ⟨T4.below,T4.row 0 _ _ rfl,bA,World.ownsRow_nil _ _ _ _,(fun j _ P=>by cases P),⟨bo,bp,bw,bb,hF.but (K:=fun _=>True) (But.aG R) (fun _ _=>trivial) fun c hc=>by have:=T1.below.size; omega⟩,Nat.le_refl _,fun _=>T4.below.size,(fun j P=>absurd P (by show ¬j<0; omega)),T3.lt (j:=0) rfl⟩
 have r:=aD RB;clear T3 T4 T1 hF b8 hb R bA RB hz;go_wp2;obtain⟨W4,bR⟩:∃W,W=w3.alloc (.cells #[.bool (bT p).ok,.slice q1 (bT p).aH.length s1,.slice q2 (bT p).aC.length s2,.slice q3 (bT p).aB.length s3] 40):=⟨_,rfl⟩;obtain⟨b,bU⟩:∃b,b=w3.heap.size:=⟨_,rfl⟩;rw[← bR,← bU] at r;rw[← bR,← bU];clear bR bU w3;obtain⟨F,hF⟩:∃F,F=bT p:=⟨_,rfl⟩;have bX:=aD hF;rw[← hF] at r;clear hF
 go_loopw [6,22] (fun o z wr=>∃(k:Nat) (xs:List Value) (lo:Nat->Nat) (u1 u2 u3:Value),k<=M.length∧z=.int .i64 k∧gC w #[.int .i64 p.aA,.slice a1 p.aE.length c1,.slice a2 p.aB.length c2,.slice a3 p.aO.length c3,.int .i64 p.aI] b wr o xs lo (iV p F (M.take k)) (rC F (iV p F (M.take k))) u1 u2 u3) (fun _ z _=>M.length-(intOf z).toNat)
 case atStart=>exact⟨0,_,_,_,_,_,Nat.zero_le _,rfl,r.out⟩
 case round=>
  obtain⟨k,xs,lo,u1,u2,u3,hk,rfl,RB⟩:=hrel;rename World=>wr;rename Value=>vo;have Y:=yW p F M k hk;obtain⟨L,hL⟩:∃L,L=iV p F (M.take k):=⟨_,rfl⟩;rw[← hL] at Y RB;obtain⟨f,hf⟩:∃f,f=rC F L:=⟨_,rfl⟩;rw[← hf] at RB
  have b9:cJ p f:=by
   have:=BM HR.out M k hk;rw[← bX.out,← hL,← hf] at this;exact this
  have HL:=aD hL;have Hf:=aD hf;clear hL hf r;obtain⟨a5,c5,e5⟩:=zag RB.own;rw[Y] at e5;subst e5;by_cases cD:k<M.length
  ·obtain⟨⟨O,of,t⟩,hx⟩:=bG M (aD rfl) cD;obtain⟨cO,cP,e,h0 | ⟨be,oe,rfl,cQ,cB⟩⟩:=KE.out wr RB.below
   ·omega
   cases e
   obtain⟨g0,g1,g2⟩:=cB k cD _ hx;simp only at g0 g1 g2;obtain⟨bo,bp,bw,bb,hF⟩:=RB.frame;have b7:=hF.read;obtain⟨o1,m1,rfl⟩:=b7.1.size;obtain⟨o2,m2,rfl⟩:=b7.2.1.size;obtain⟨o3,m3,rfl⟩:=b7.2.2.size;have R:=bC wr (.cells #[.int .i64 O,.int .i64 of,.int .i64 t] 55);have bA:=dH wr 55 #[.int .i64 O,.int .i64 of,.int .i64 t];have R1:=RB.call R;have bO:=(hF.bound (Q:=In wr) fun _ _ z=>z).read.keep (Q:=In (wr.alloc (.cells #[.int .i64 O,.int .i64 of,.int .i64 t] 55))) (In.keep R).1 (In.keep R).2;have cI:=aD fun (W:World) (h:Below (wr.alloc (.cells #[.int .i64 O,.int .i64 of,.int .i64 t] 55)).heap.size (wr.alloc (.cells #[.int .i64 O,.int .i64 of,.int .i64 t] 55)) W)=>bO.keep (Q:=In W) (In.keep h).1 (In.keep h).2;have aL:=aD (Du _ _ _ _ _ _ p f O of t (wr.alloc (.cells #[.int .i64 O,.int .i64 of,.int .i64 t] 55)) (KP.out _ R1.below) bO HS.out (oH b9));have y0:(wr.alloc (.cells #[.int .i64 O,.int .i64 of,.int .i64 t] 55)).cell? ⟨w.heap.size,0,none⟩=some (.int .i64 p.aA):=R1.box.cell (i:=0) (by omega);have y1:(wr.alloc (.cells #[.int .i64 O,.int .i64 of,.int .i64 t] 55)).cell? ⟨w.heap.size,1,none⟩=some (.slice a1 p.aE.length c1):=R1.box.cell (i:=1) (by omega);have y2:(wr.alloc (.cells #[.int .i64 O,.int .i64 of,.int .i64 t] 55)).cell? ⟨w.heap.size,2,none⟩=some (.slice a2 p.aB.length c2):=R1.box.cell (i:=2) (by omega)
   have y3:(wr.alloc (.cells #[.int .i64 O,.int .i64 of,.int .i64 t] 55)).cell? ⟨w.heap.size,3,none⟩=some (.slice a3 p.aO.length c3):=R1.box.cell (i:=3) (by omega);have y4:(wr.alloc (.cells #[.int .i64 O,.int .i64 of,.int .i64 t] 55)).cell? ⟨w.heap.size,4,none⟩=some (.int .i64 p.aI):=R1.box.cell (i:=4) (by omega);have x0:(wr.alloc (.cells #[.int .i64 O,.int .i64 of,.int .i64 t] 55)).cell? ⟨b,0,none⟩=some (.bool f.ok):=R1.cA.cell (i:=0) (by omega);have x1:(wr.alloc (.cells #[.int .i64 O,.int .i64 of,.int .i64 t] 55)).cell? ⟨b,1,none⟩=some (.slice o1 f.aH.length m1):=R1.cA.cell (i:=1) (by omega);have x2:(wr.alloc (.cells #[.int .i64 O,.int .i64 of,.int .i64 t] 55)).cell? ⟨b,2,none⟩=some (.slice o2 f.aC.length m2):=R1.cA.cell (i:=2) (by omega);have x3:(wr.alloc (.cells #[.int .i64 O,.int .i64 of,.int .i64 t] 55)).cell? ⟨b,3,none⟩=some (.slice o3 f.aB.length m3):=R1.cA.cell (i:=3) (by omega)
   have cV:(k:Int)<(M.length:Int):=by omega
   have HX:=aD hx;have r:=aD RB;have aP:=aD b9;have b6:=aD R;have cW:=R.size;obtain⟨X,hX⟩:∃X,X=jW p f (O,of,t):=⟨_,rfl⟩;have bZ:=aD hX;clear RB R1 hF b7 bO cB hx b9 R bA;by_cases N:fI p.aA p.aE.length p.aB.length O of t
   case pos=>
    have b1:uD p f O of t=X:=by rw[hX,xS (show rE p (O,of,t) from N)]; exact if_pos ⟨aP.out,N⟩
    rw[b1] at aL
    have cG:cJ p X.2:=by rw[hX]; exact BN aP.out _
    have c9:X.1≠1:=by rw[hX,xS (show rE p (O,of,t) from N)]; exact EK _ _ _ _ _
    have cR:(X.1 == 1)=false:=by simpa using c9
    have cS:decide (X.1=1)=false:=by simpa using c9
    have cH:=aD cG;clear hX b1 N cG
    go_wp2_with fail
    refine aL.out.mono ?_;clear y0 y1 y2 y3 y4 x0 x1 x2 x3 g0 g1 g2 aL;rintro e w2 ⟨n1,n2,n3,rfl,a4,b2⟩;have H:Below wr.heap.size wr w2:=b6.out.trans (a4.mono b6.out.size);obtain⟨a,cL,cM,cK,aV⟩:=b2.own (vB cH.out);obtain⟨gO,NO,m,rfl,-⟩:=id aV.aH;obtain⟨d,n,rfl,-⟩:=id aV.aC;obtain⟨l,q,rfl,-⟩:=id aV.aB;have a9:=bC w2 (.cells #[.int .i64 X.1,.bool X.2.ok,.slice (some ⟨a,0,none⟩) X.2.aH.length m,.slice d X.2.aC.length n,.slice l X.2.aB.length q] 42);have T:=H.trans (a9.mono H.size);have s:(w2.alloc (.cells #[.int .i64 X.1,.bool X.2.ok,.slice (some ⟨a,0,none⟩) X.2.aH.length m,.slice d X.2.aC.length n,.slice l X.2.aB.length q] 42)).rowIs w2.heap.size 42 5 (fun i=>(#[.int .i64 X.1,.bool X.2.ok,.slice (some ⟨a,0,none⟩) X.2.aH.length m,.slice d X.2.aC.length n,.slice l X.2.aB.length q]:Array Value)[i]!):=dH w2 42 #[.int .i64 X.1,.bool X.2.ok,.slice (some ⟨a,0,none⟩) X.2.aH.length m,.slice d X.2.aC.length n,.slice l X.2.aB.length q];have Z:=(aV.but (K:=fun _=>True) (Q:=fun c=>wr.heap.size<=c) (But.aG a9) (fun _ _=>trivial) fun c hc=>by omega).bound fun c h1 h2=>And.intro h1 h2;obtain⟨y,a0⟩:∃W,W=w2.alloc (.cells #[.int .i64 X.1,.bool X.2.ok,.slice (some ⟨a,0,none⟩) X.2.aH.length m,.slice d X.2.aC.length n,.slice l X.2.aB.length q] 42):=⟨_,rfl⟩;obtain⟨C,I⟩:∃C,C=w2.heap.size:=⟨_,rfl⟩;rw[← a0] at T s Z
    rw[← I] at s;have c0:y.cell? ⟨C,0,none⟩=some (.int .i64 X.1):=s.cell (i:=0) (by simp);clear a9 aV b2 a4 H
    go_upto_region 9 with fail
    rw[← a0,← I];clear a0 I;have R3:=r.out.call T;have B:=R3.cA;have d0:y.cell? ⟨C,0,none⟩=some (.int .i64 X.1):=s.cell (i:=0) (by omega);have d1:y.cell? ⟨C,1,none⟩=some (.bool X.2.ok):=s.cell (i:=1) (by omega);have d2:y.cell? ⟨C,2,none⟩=some (.slice (some ⟨a,0,none⟩) X.2.aH.length m):=s.cell (i:=2) (by omega);have d3:y.cell? ⟨C,3,none⟩=some (.slice d X.2.aC.length n):=s.cell (i:=3) (by omega);have d4:y.cell? ⟨C,4,none⟩=some (.slice l X.2.aB.length q):=s.cell (i:=4) (by omega);have x0:=B.cell (i:=0) (by omega);have x1:=B.cell (i:=1) (by omega);have x2:=B.cell (i:=2) (by omega);have x3:=B.cell (i:=3) (by omega);have k0:=B.frozen 0;have k1:=B.frozen 1;have k2:=B.frozen 2;have k3:=B.frozen 3;obtain⟨RP,aX,aU⟩:=R3.put (x:=X.2) Z fun c hc=>Nat.le_trans r.out.below.size hc.1;have b3:C≠b:=iU s B (by decide);have G:=aU.row s b3;have z0:((((y.setCell ⟨b,0,none⟩ (.bool X.2.ok)).setCell ⟨b,1,none⟩ (.slice (some ⟨a,0,none⟩) X.2.aH.length m)).setCell ⟨b,2,none⟩ (.slice d X.2.aC.length n)).setCell ⟨b,3,none⟩ (.slice l X.2.aB.length q)).cell? ⟨C,0,none⟩=some (.int .i64 X.1):=G.cell (i:=0) (by omega);have z1:((((y.setCell ⟨b,0,none⟩ (.bool X.2.ok)).setCell ⟨b,1,none⟩ (.slice (some ⟨a,0,none⟩) X.2.aH.length m)).setCell ⟨b,2,none⟩ (.slice d X.2.aC.length n)).setCell ⟨b,3,none⟩ (.slice l X.2.aB.length q)).cell? ⟨C,1,none⟩=some (.bool X.2.ok):=G.cell (i:=1) (by omega)
    have z2:((((y.setCell ⟨b,0,none⟩ (.bool X.2.ok)).setCell ⟨b,1,none⟩ (.slice (some ⟨a,0,none⟩) X.2.aH.length m)).setCell ⟨b,2,none⟩ (.slice d X.2.aC.length n)).setCell ⟨b,3,none⟩ (.slice l X.2.aB.length q)).cell? ⟨C,2,none⟩=some (.slice (some ⟨a,0,none⟩) X.2.aH.length m):=G.cell (i:=2) (by omega);have z3:((((y.setCell ⟨b,0,none⟩ (.bool X.2.ok)).setCell ⟨b,1,none⟩ (.slice (some ⟨a,0,none⟩) X.2.aH.length m)).setCell ⟨b,2,none⟩ (.slice d X.2.aC.length n)).setCell ⟨b,3,none⟩ (.slice l X.2.aB.length q)).cell? ⟨C,3,none⟩=some (.slice d X.2.aC.length n):=G.cell (i:=3) (by omega);have z4:((((y.setCell ⟨b,0,none⟩ (.bool X.2.ok)).setCell ⟨b,1,none⟩ (.slice (some ⟨a,0,none⟩) X.2.aH.length m)).setCell ⟨b,2,none⟩ (.slice d X.2.aC.length n)).setCell ⟨b,3,none⟩ (.slice l X.2.aB.length q)).cell? ⟨C,4,none⟩=some (.slice l X.2.aB.length q):=G.cell (i:=4) (by omega)
    have aJ:((((y.setCell ⟨b,0,none⟩ (.bool X.2.ok)).setCell ⟨b,1,none⟩ (.slice (some ⟨a,0,none⟩) X.2.aH.length m)).setCell ⟨b,2,none⟩ (.slice d X.2.aC.length n)).setCell ⟨b,3,none⟩ (.slice l X.2.aB.length q)).heap.size=y.heap.size:=by simp
    have U:=bC ((((y.setCell ⟨b,0,none⟩ (.bool X.2.ok)).setCell ⟨b,1,none⟩ (.slice (some ⟨a,0,none⟩) X.2.aH.length m)).setCell ⟨b,2,none⟩ (.slice d X.2.aC.length n)).setCell ⟨b,3,none⟩ (.slice l X.2.aB.length q)) (.cells #[.int .i64 X.1,.bool X.2.ok,.slice (some ⟨a,0,none⟩) X.2.aH.length m,.slice d X.2.aC.length n,.slice l X.2.aB.length q] 42);have aF:=dH ((((y.setCell ⟨b,0,none⟩ (.bool X.2.ok)).setCell ⟨b,1,none⟩ (.slice (some ⟨a,0,none⟩) X.2.aH.length m)).setCell ⟨b,2,none⟩ (.slice d X.2.aC.length n)).setCell ⟨b,3,none⟩ (.slice l X.2.aB.length q)) 42 #[.int .i64 X.1,.bool X.2.ok,.slice (some ⟨a,0,none⟩) X.2.aH.length m,.slice d X.2.aC.length n,.slice l X.2.aB.length q];rw[aJ] at aF;have R5:=RP.call U;have aW:=aX.but (K:=fun _=>True) (Q:=fun c=>lo L.length<=c∧c<y.heap.size) (But.aG U) (fun _ _=>trivial) fun c hc=>⟨Nat.le_trans r.out.top hc.1,hc.2⟩
    have aT:Hid (1=0∨∃A,(some (⟨y.heap.size,0,none⟩:Addr))=some A∧∀j u,([.int .i64 X.1,.bool X.2.ok,.slice (some ⟨a,0,none⟩) X.2.aH.length m,.slice d X.2.aC.length n,.slice l X.2.aB.length q]:List Value)[j]?=some u->(((((y.setCell ⟨b,0,none⟩ (.bool X.2.ok)).setCell ⟨b,1,none⟩ (.slice (some ⟨a,0,none⟩) X.2.aH.length m)).setCell ⟨b,2,none⟩ (.slice d X.2.aC.length n)).setCell ⟨b,3,none⟩ (.slice l X.2.aB.length q)).alloc (.cells #[.int .i64 X.1,.bool X.2.ok,.slice (some ⟨a,0,none⟩) X.2.aH.length m,.slice d X.2.aC.length n,.slice l X.2.aB.length q] 42)).cell? (A.add j)=some u):=by
     refine .inr ⟨_,rfl,fun j u P=>?_⟩;rw[mJ,Nat.zero_add];have bW:j<5:=(List.getElem?_eq_some_iff.1 P).1;rw[aF.cell (by simpa using bW)];rcases j with _ | _ | _ | _ | _ | j
     ·exact P
     ·exact P
     ·exact P
     ·exact P
     ·exact P
     ·omega
    have aR:Hid (∀u∈([.int .i64 X.1,.bool X.2.ok,.slice (some ⟨a,0,none⟩) X.2.aH.length m,.slice d X.2.aC.length n,.slice l X.2.aB.length q]:List Value),u.oneCell'=true):=by
     intro u hu;simp at hu
     rcases hu with rfl | rfl | rfl | rfl | rfl <;> rfl
    have bH:Hid (k+1<=maxLen):=by show k+1<=maxLen; unfold maxLen; omega
    have bI:Hid ((k+1)*88<=140737488355328):=by show (k+1)*88<=140737488355328; omega
    have D:=R5.own;rw[Y] at D;have aS:=aD D;have bN:Hid (w.heap.size<=(((((y.setCell ⟨b,0,none⟩ (.bool X.2.ok)).setCell ⟨b,1,none⟩ (.slice (some ⟨a,0,none⟩) X.2.aH.length m)).setCell ⟨b,2,none⟩ (.slice d X.2.aC.length n)).setCell ⟨b,3,none⟩ (.slice l X.2.aB.length q)).alloc (.cells #[.int .i64 X.1,.bool X.2.ok,.slice (some ⟨a,0,none⟩) X.2.aH.length m,.slice d X.2.aC.length n,.slice l X.2.aB.length q] 42)).heap.size):=R5.below.size;have aQ:=aD R5;have aN:=aD aW;have b5:y.heap.size<=(((((y.setCell ⟨b,0,none⟩ (.bool X.2.ok)).setCell ⟨b,1,none⟩ (.slice (some ⟨a,0,none⟩) X.2.aH.length m)).setCell ⟨b,2,none⟩ (.slice d X.2.aC.length n)).setCell ⟨b,3,none⟩ (.slice l X.2.aB.length q)).alloc (.cells #[.int .i64 X.1,.bool X.2.ok,.slice (some ⟨a,0,none⟩) X.2.aH.length m,.slice d X.2.aC.length n,.slice l X.2.aB.length q] 42)).heap.size:=Nat.le_trans (Nat.le_of_eq aJ.symm) U.size;have bM:=aD b5;have bF:Hid (lo L.length<=y.heap.size):=Nat.le_trans r.out.top T.size;clear R3 B RP aX aU G U aF R5 aW D aJ b3 s Z T b5
    go_wp2_with (at_builtin; refine iN rfl _ _ 31 rfl w.heap.size 42 (.agg #[.int .i64 0,.bool false,.slice none 0 0,.slice none 0 0,.slice none 0 0]) 5 88 Tryz.underlying31 Tryz.fP rfl (by decide) (.slice a5 k c5) k xs rfl aS.out (some ⟨y.heap.size,0,none⟩) 1 1 [.int .i64 X.1,.bool X.2.ok,.slice (some ⟨a,0,none⟩) X.2.aH.length m,.slice d X.2.aC.length n,.slice l X.2.aB.length q] rfl rfl aT.out aR.out bH.out bI.out bN.out ?_)
    intro u5 w6 E V;obtain⟨a8,c8,rfl⟩:=zag E;have bD:=aD (aQ.out.add (x:=X) aN.out bM.out bF.out (by rw[Y]; exact E) V);clear E V aT aR aS aQ aN r d0 d1 d2 d3 d4 x0 x1 x2 x3 k0 k1 k2 k3 z0 z1 z2 z3 z4;go_wp2;go_roundw
    case rel=>exact⟨k+1,_,_,_,_,_,by omega,by go_num,by rw[vO p F HX.out,← HL.out,zO,← Hf.out,← bZ.out]; exact bD.out⟩
    case measure=>simp[intOf]; omega
   case neg=>
    have b1:uD p f O of t=(1,iA):=if_neg fun z=>N z.2;have c6:X=(1,f):=hX.trans (zM (show ¬rE p (O,of,t) from N));rw[b1] at aL;have bL:=aD c6;clear hX b1 N c6
    go_wp2_with fail
    refine aL.out.mono ?_;clear y0 y1 y2 y3 y4 x0 x1 x2 x3 g0 g1 g2 aL;rintro e w2 ⟨n1,n2,n3,rfl,a4,b2⟩;have H:Below wr.heap.size wr w2:=b6.out.trans (a4.mono b6.out.size);obtain⟨r1,i1,r2,i2,r3,i3,rfl,rfl,rfl⟩:=b2.slices;have a9:=bC w2 (.cells #[.int .i64 1,.bool iA.ok,.slice r1 iA.aH.length i1,.slice r2 iA.aC.length i2,.slice r3 iA.aB.length i3] 42);have b4:(w2.alloc (.cells #[.int .i64 1,.bool iA.ok,.slice r1 iA.aH.length i1,.slice r2 iA.aC.length i2,.slice r3 iA.aB.length i3] 42)).rowIs w2.heap.size 42 5 (fun i=>(#[.int .i64 1,.bool iA.ok,.slice r1 iA.aH.length i1,.slice r2 iA.aC.length i2,.slice r3 iA.aB.length i3]:Array Value)[i]!):=dH w2 42 #[.int .i64 1,.bool iA.ok,.slice r1 iA.aH.length i1,.slice r2 iA.aC.length i2,.slice r3 iA.aB.length i3];have S:=H.trans (a9.mono H.size);have b0:=a4.trans (a9.mono a4.size);obtain⟨W3,bP⟩:∃W,W=w2.alloc (.cells #[.int .i64 1,.bool iA.ok,.slice r1 iA.aH.length i1,.slice r2 iA.aC.length i2,.slice r3 iA.aB.length i3] 42):=⟨_,rfl⟩;obtain⟨C,I⟩:∃C,C=w2.heap.size:=⟨_,rfl⟩;rw[← bP] at S b0 b4;rw[← I] at b4;have R3:=r.out.call S;have v0:W3.cell? ⟨b,0,none⟩=some (.bool f.ok):=R3.cA.cell (i:=0) (by omega);have v1:W3.cell? ⟨b,1,none⟩=some (.slice o1 f.aH.length m1):=R3.cA.cell (i:=1) (by omega);have v2:W3.cell? ⟨b,2,none⟩=some (.slice o2 f.aC.length m2):=R3.cA.cell (i:=2) (by omega)
    have v3:W3.cell? ⟨b,3,none⟩=some (.slice o3 f.aB.length m3):=R3.cA.cell (i:=3) (by omega);have c0:W3.cell? ⟨C,0,none⟩=some (.int .i64 1):=b4.cell (i:=0) (by simp);have HC:=aD (BL f.ok _ _ _ f W3 (cI.out _ b0) (oH aP.out) (vB aP.out) (BA aP.out));have c7:=S.size
    have cT:wr.heap.size<=C:=by rw[I]; exact H.size
    clear a9 b2 a4 H b0 R3
    go_upto_region 9 with fail
    rw[← bP,← I];clear bP I
    go_wp2_with fail
    refine HC.out.mono ?_;clear HC v0 v1 v2 v3 c0;rintro e w4 ⟨n1,n2,n3,a,cL,cM,cK,rfl,bS,aM⟩
    have bV:f=X.2:=by rw[bL.out]
    have cF:f.ok=X.2.ok:=by rw[bL.out]
    have c4:(1:Int)=X.1:=by rw[bL.out]
    rw[bV] at aM;obtain⟨gO,NO,m,rfl,-⟩:=id aM.aH;obtain⟨d,n,rfl,-⟩:=id aM.aC;obtain⟨l,q,rfl,-⟩:=id aM.aB;have J:=dP b4 bS;have s0:=J.cell (i:=0) (by simp);have s1:=J.cell (i:=1) (by simp);have s2:=J.cell (i:=2) (by simp);have s3:=J.cell (i:=3) (by simp);have s4:=J.cell (i:=4) (by simp);have k1:=J.frozen 1;have k2:=J.frozen 2;have k3:=J.frozen 3;have k4:=J.frozen 4;have P:∀o:Nat,¬((fun c=>c≠C) (⟨C,o,none⟩:Addr).block):=fun o z=>z rfl;have hB:=((((But.refl (fun c=>c≠C) w4).setCell (P 1) (.bool X.2.ok)).setCell (P 2) (.slice (some ⟨a,0,none⟩) X.2.aH.length m)).setCell (P 3) (.slice d X.2.aC.length n)).setCell (P 4) (.slice l X.2.aB.length q);have aY:=S.trans (bS.mono S.size);have T:=aY.trans (hB.below aY.size fun c hc=>by omega);have s:=(((J.set 1 (.bool X.2.ok)).set 2 (.slice (some ⟨a,0,none⟩) X.2.aH.length m)).set 3 (.slice d X.2.aC.length n)).set 4 (.slice l X.2.aB.length q)
    have s:=s.congr (g:=fun i=>(#[.int .i64 X.1,.bool X.2.ok,.slice (some ⟨a,0,none⟩) X.2.aH.length m,.slice d X.2.aC.length n,.slice l X.2.aB.length q]:Array Value)[i]!) fun i hi=>by
     rw[← c4];rcases i with _ | _ | _ | _ | _ | i
     ·rfl
     ·rfl
     ·rfl
     ·rfl
     ·rfl
     ·omega
    have Z:=((aM.boxed J ⟨by decide,by decide,by decide⟩ hB fun _ z=>z).but (K:=fun _=>True) (Q:=fun c=>wr.heap.size<=c) (But.refl _ _) (fun _ _=>trivial) fun c hc=>Nat.le_trans c7 hc.1).bound fun c h1 h2=>And.intro h1 h2;obtain⟨y,a0⟩:∃W,W=(((w4.setCell ⟨C,1,none⟩ (.bool X.2.ok)).setCell ⟨C,2,none⟩ (.slice (some ⟨a,0,none⟩) X.2.aH.length m)).setCell ⟨C,3,none⟩ (.slice d X.2.aC.length n)).setCell ⟨C,4,none⟩ (.slice l X.2.aB.length q):=⟨_,rfl⟩;rw[← a0] at T s Z;rw[cF];rw[bV];clear J hB aY aM bS b4 S bV cF c4
    go_upto_region 11 with fail
    rw[← a0];clear a0 s0 s1 s2 s3 s4 k1 k2 k3 k4;have R3:=r.out.call T;have B:=R3.cA;have d0:y.cell? ⟨C,0,none⟩=some (.int .i64 X.1):=s.cell (i:=0) (by omega);have d1:y.cell? ⟨C,1,none⟩=some (.bool X.2.ok):=s.cell (i:=1) (by omega);have d2:y.cell? ⟨C,2,none⟩=some (.slice (some ⟨a,0,none⟩) X.2.aH.length m):=s.cell (i:=2) (by omega);have d3:y.cell? ⟨C,3,none⟩=some (.slice d X.2.aC.length n):=s.cell (i:=3) (by omega);have d4:y.cell? ⟨C,4,none⟩=some (.slice l X.2.aB.length q):=s.cell (i:=4) (by omega);have x0:=B.cell (i:=0) (by omega);have x1:=B.cell (i:=1) (by omega);have x2:=B.cell (i:=2) (by omega);have x3:=B.cell (i:=3) (by omega);have k0:=B.frozen 0;have k1:=B.frozen 1;have k2:=B.frozen 2;have k3:=B.frozen 3;obtain⟨RP,aX,aU⟩:=R3.put (x:=X.2) Z fun c hc=>Nat.le_trans r.out.below.size hc.1;have b3:C≠b:=iU s B (by decide);have G:=aU.row s b3;have z0:((((y.setCell ⟨b,0,none⟩ (.bool X.2.ok)).setCell ⟨b,1,none⟩ (.slice (some ⟨a,0,none⟩) X.2.aH.length m)).setCell ⟨b,2,none⟩ (.slice d X.2.aC.length n)).setCell ⟨b,3,none⟩ (.slice l X.2.aB.length q)).cell? ⟨C,0,none⟩=some (.int .i64 X.1):=G.cell (i:=0) (by omega);have z1:((((y.setCell ⟨b,0,none⟩ (.bool X.2.ok)).setCell ⟨b,1,none⟩ (.slice (some ⟨a,0,none⟩) X.2.aH.length m)).setCell ⟨b,2,none⟩ (.slice d X.2.aC.length n)).setCell ⟨b,3,none⟩ (.slice l X.2.aB.length q)).cell? ⟨C,1,none⟩=some (.bool X.2.ok):=G.cell (i:=1) (by omega)
    have z2:((((y.setCell ⟨b,0,none⟩ (.bool X.2.ok)).setCell ⟨b,1,none⟩ (.slice (some ⟨a,0,none⟩) X.2.aH.length m)).setCell ⟨b,2,none⟩ (.slice d X.2.aC.length n)).setCell ⟨b,3,none⟩ (.slice l X.2.aB.length q)).cell? ⟨C,2,none⟩=some (.slice (some ⟨a,0,none⟩) X.2.aH.length m):=G.cell (i:=2) (by omega);have z3:((((y.setCell ⟨b,0,none⟩ (.bool X.2.ok)).setCell ⟨b,1,none⟩ (.slice (some ⟨a,0,none⟩) X.2.aH.length m)).setCell ⟨b,2,none⟩ (.slice d X.2.aC.length n)).setCell ⟨b,3,none⟩ (.slice l X.2.aB.length q)).cell? ⟨C,3,none⟩=some (.slice d X.2.aC.length n):=G.cell (i:=3) (by omega);have z4:((((y.setCell ⟨b,0,none⟩ (.bool X.2.ok)).setCell ⟨b,1,none⟩ (.slice (some ⟨a,0,none⟩) X.2.aH.length m)).setCell ⟨b,2,none⟩ (.slice d X.2.aC.length n)).setCell ⟨b,3,none⟩ (.slice l X.2.aB.length q)).cell? ⟨C,4,none⟩=some (.slice l X.2.aB.length q):=G.cell (i:=4) (by omega)
    have aJ:((((y.setCell ⟨b,0,none⟩ (.bool X.2.ok)).setCell ⟨b,1,none⟩ (.slice (some ⟨a,0,none⟩) X.2.aH.length m)).setCell ⟨b,2,none⟩ (.slice d X.2.aC.length n)).setCell ⟨b,3,none⟩ (.slice l X.2.aB.length q)).heap.size=y.heap.size:=by simp
    have U:=bC ((((y.setCell ⟨b,0,none⟩ (.bool X.2.ok)).setCell ⟨b,1,none⟩ (.slice (some ⟨a,0,none⟩) X.2.aH.length m)).setCell ⟨b,2,none⟩ (.slice d X.2.aC.length n)).setCell ⟨b,3,none⟩ (.slice l X.2.aB.length q)) (.cells #[.int .i64 X.1,.bool X.2.ok,.slice (some ⟨a,0,none⟩) X.2.aH.length m,.slice d X.2.aC.length n,.slice l X.2.aB.length q] 42);have aF:=dH ((((y.setCell ⟨b,0,none⟩ (.bool X.2.ok)).setCell ⟨b,1,none⟩ (.slice (some ⟨a,0,none⟩) X.2.aH.length m)).setCell ⟨b,2,none⟩ (.slice d X.2.aC.length n)).setCell ⟨b,3,none⟩ (.slice l X.2.aB.length q)) 42 #[.int .i64 X.1,.bool X.2.ok,.slice (some ⟨a,0,none⟩) X.2.aH.length m,.slice d X.2.aC.length n,.slice l X.2.aB.length q];rw[aJ] at aF;have R5:=RP.call U;have aW:=aX.but (K:=fun _=>True) (Q:=fun c=>lo L.length<=c∧c<y.heap.size) (But.aG U) (fun _ _=>trivial) fun c hc=>⟨Nat.le_trans r.out.top hc.1,hc.2⟩
    have aT:Hid (1=0∨∃A,(some (⟨y.heap.size,0,none⟩:Addr))=some A∧∀j u,([.int .i64 X.1,.bool X.2.ok,.slice (some ⟨a,0,none⟩) X.2.aH.length m,.slice d X.2.aC.length n,.slice l X.2.aB.length q]:List Value)[j]?=some u->(((((y.setCell ⟨b,0,none⟩ (.bool X.2.ok)).setCell ⟨b,1,none⟩ (.slice (some ⟨a,0,none⟩) X.2.aH.length m)).setCell ⟨b,2,none⟩ (.slice d X.2.aC.length n)).setCell ⟨b,3,none⟩ (.slice l X.2.aB.length q)).alloc (.cells #[.int .i64 X.1,.bool X.2.ok,.slice (some ⟨a,0,none⟩) X.2.aH.length m,.slice d X.2.aC.length n,.slice l X.2.aB.length q] 42)).cell? (A.add j)=some u):=by
     refine .inr ⟨_,rfl,fun j u P=>?_⟩;rw[mJ,Nat.zero_add];have bW:j<5:=(List.getElem?_eq_some_iff.1 P).1;rw[aF.cell (by simpa using bW)];rcases j with _ | _ | _ | _ | _ | j
     ·exact P
     ·exact P
     ·exact P
     ·exact P
     ·exact P
     ·omega
    have aR:Hid (∀u∈([.int .i64 X.1,.bool X.2.ok,.slice (some ⟨a,0,none⟩) X.2.aH.length m,.slice d X.2.aC.length n,.slice l X.2.aB.length q]:List Value),u.oneCell'=true):=by
     intro u hu;simp at hu
     rcases hu with rfl | rfl | rfl | rfl | rfl <;> rfl
    have bH:Hid (k+1<=maxLen):=by show k+1<=maxLen; unfold maxLen; omega
    have bI:Hid ((k+1)*88<=140737488355328):=by show (k+1)*88<=140737488355328; omega
    have D:=R5.own;rw[Y] at D;have aS:=aD D;have bN:Hid (w.heap.size<=(((((y.setCell ⟨b,0,none⟩ (.bool X.2.ok)).setCell ⟨b,1,none⟩ (.slice (some ⟨a,0,none⟩) X.2.aH.length m)).setCell ⟨b,2,none⟩ (.slice d X.2.aC.length n)).setCell ⟨b,3,none⟩ (.slice l X.2.aB.length q)).alloc (.cells #[.int .i64 X.1,.bool X.2.ok,.slice (some ⟨a,0,none⟩) X.2.aH.length m,.slice d X.2.aC.length n,.slice l X.2.aB.length q] 42)).heap.size):=R5.below.size;have aQ:=aD R5;have aN:=aD aW;have b5:y.heap.size<=(((((y.setCell ⟨b,0,none⟩ (.bool X.2.ok)).setCell ⟨b,1,none⟩ (.slice (some ⟨a,0,none⟩) X.2.aH.length m)).setCell ⟨b,2,none⟩ (.slice d X.2.aC.length n)).setCell ⟨b,3,none⟩ (.slice l X.2.aB.length q)).alloc (.cells #[.int .i64 X.1,.bool X.2.ok,.slice (some ⟨a,0,none⟩) X.2.aH.length m,.slice d X.2.aC.length n,.slice l X.2.aB.length q] 42)).heap.size:=Nat.le_trans (Nat.le_of_eq aJ.symm) U.size;have bM:=aD b5;have bF:Hid (lo L.length<=y.heap.size):=Nat.le_trans r.out.top T.size;clear R3 B RP aX aU G U aF R5 aW D aJ b3 s Z T b5
    go_wp2_with (at_builtin; refine iN rfl _ _ 31 rfl w.heap.size 42 (.agg #[.int .i64 0,.bool false,.slice none 0 0,.slice none 0 0,.slice none 0 0]) 5 88 Tryz.underlying31 Tryz.fP rfl (by decide) (.slice a5 k c5) k xs rfl aS.out (some ⟨y.heap.size,0,none⟩) 1 1 [.int .i64 X.1,.bool X.2.ok,.slice (some ⟨a,0,none⟩) X.2.aH.length m,.slice d X.2.aC.length n,.slice l X.2.aB.length q] rfl rfl aT.out aR.out bH.out bI.out bN.out ?_)
    intro u5 w6 E V;obtain⟨a8,c8,rfl⟩:=zag E;have bD:=aD (aQ.out.add (x:=X) aN.out bM.out bF.out (by rw[Y]; exact E) V);clear E V aT aR aS aQ aN r d0 d1 d2 d3 d4 x0 x1 x2 x3 k0 k1 k2 k3 z0 z1 z2 z3 z4;go_wp2;go_roundw
    case rel=>exact⟨k+1,_,_,_,_,_,by omega,by go_num,by rw[vO p F HX.out,← HL.out,zO,← Hf.out,← bZ.out]; exact bD.out⟩
    case measure=>simp[intOf]; omega
  ·obtain rfl:k=M.length:=by omega
   have r:=aD RB;clear RB b9;go_wp2;go_ret;refine⟨_,rfl,r.out.below,?_⟩
   have e:iZ p M=L:=by rw[bY.out,HL.out,List.take_length,bX.out]
   rw[e];have h1:=r.out.own;rw[Y] at h1;exact⟨xs,lo,by rw[Y]; exact h1,r.out.kG,r.out.top,r.out.low,r.out.step⟩
def qX (l:List (Int×Int×Int)):List Value:=l.flatMap fun e=>[.int .i64 e.1,.int .i64 e.2.1,.int .i64 e.2.2]
theorem GF (l:List (Int×Int×Int)) (i:Nat) (x:Int×Int×Int) (h:l[i]?=some x):(qX l)[i*3]?=some (.int .i64 x.1)∧(qX l)[i*3+1]?=some (.int .i64 x.2.1)∧(qX l)[i*3+2]?=some (.int .i64 x.2.2):=by
 unfold qX
 induction l generalizing i with
 | nil=>simp at h
 | cons a l ih=>
  cases i with
  | zero=>simp at h; subst h; exact⟨rfl,rfl,rfl⟩
  | succ i=>
   have:=ih i (by simpa using h);rw[List.flatMap_cons];refine⟨?_,?_,?_⟩
   ·rw[List.getElem?_append_right (by simp; omega)];simpa [show (i+1)*3-3=i*3 by omega] using this.1
   ·rw[List.getElem?_append_right (by simp; omega)];simpa [show (i+1)*3+1-3=i*3+1 by omega] using this.2.1
   ·rw[List.getElem?_append_right (by simp; omega)];simpa [show (i+1)*3+2-3=i*3+2 by omega] using this.2.2
theorem JI {w:World}{base:Nat}{v:Value}{l:List (Int×Int×Int)}{n:Nat}(h:w.ownsRow base 55 3 v n (qX l)) (p:n=l.length):pL (fun c=>base<=c∧c<w.heap.size) w v l:=by
 subst p;rcases Nat.eq_zero_or_pos l.length with z | z
 ·obtain⟨a,c,rfl⟩:=zag h;exact⟨a,c,rfl,.inl z⟩
 ·obtain⟨g,d,f,rfl,o,b,r,e⟩:=zdt h z;refine⟨_,d,rfl,.inr ⟨g,0,rfl,⟨o,b.lt⟩,fun i hi x q=>?_⟩⟩;obtain⟨j,k,m⟩:=GF l i x q;rw[Nat.zero_add,b.cell (by omega),b.cell (by omega),b.cell (by omega),e _ _ j,e _ _ k,e _ _ m];exact⟨rfl,rfl,rfl⟩
theorem Fh (l:List (Int×Int×Int)) (e:Int×Int×Int):qX (l++[e])=qX l++[.int .i64 e.1,.int .i64 e.2.1,.int .i64 e.2.2]:=by
 unfold qX;rw[List.flatMap_append];rfl
end
end Go.Proofs.YtdhinkgjiapigaaGreatDoor

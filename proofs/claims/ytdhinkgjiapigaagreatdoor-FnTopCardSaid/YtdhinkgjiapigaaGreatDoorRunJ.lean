import Derived.Deep.RegionLaw
import Derived.Deep.AppendLies
import Derived.Test.YtdhinkgjiapigaaGreatDoorRunD
namespace Go.Proofs.YtdhinkgjiapigaaGreatDoor
open Classical Go.Deep Go.RowKit
set_option maxRecDepth 100000 in
set_option maxHeartbeats 4000000 in
theorem Fq (v1 v2 v3:Value) (p:aK) (w:World) (hp:aZ (In w) w v1 v2 v3 p) (hs:p.Small 1048576) (hg:w.cell? ⟨1,0,none⟩=some rF) :
  Calls Tryz.prog 21 #[.agg #[.int .i64 p.aA,v1,v2,v3,.int .i64 p.aI]] w fun e w'=>∃u1 u2 u3,e=.returned (.agg #[.bool (qZ p).ok,u1,u2,u3])∧Below w.heap.size w w'∧cQ (w.heap.size+1) w' u1 u2 u3 (qZ p):=by
 have T0:=eB w 27 40 #[.int .i64 p.aA,v1,v2,v3,.int .i64 p.aI] #[.bool false,.slice none 0 0,.slice none 0 0,.slice none 0 0];have HK:=aD fun (W:World) (h:Below w.heap.size w W)=>hp.keep (Q:=In W) (In.keep h).1 (In.keep h).2;have HS:=aD hs;obtain⟨⟨a1,c1,rfl,-⟩,⟨a2,c2,rfl,-⟩,⟨a3,c3,rfl,-⟩⟩:=id hp;clear hp hs;have b0:=T0.c 0 0 rfl rfl;have b1:=T0.c 0 1 rfl rfl;have b2:=T0.c 0 2 rfl rfl;have b3:=T0.c 0 3 rfl rfl;have M:=T0.c 0 4 rfl rfl;rw[Nat.add_zero] at b0 b1 b2 b3 M;go_enter Tryz.func21,Tryz.ntmps21
 go_wp2_with fail
 refine (Ai _ _ _ p _ (HK.out _ T0.below) HS.out (ck hg T0.below)).mono ?_;clear b0 b1 b2 b3 M;rintro e G ⟨rfl,hb⟩;have H:=T0.call hb;clear T0 hb;have r0:=H.c 1 0 rfl rfl;have r1:=H.c 1 1 rfl rfl;have r2:=H.c 1 2 rfl rfl;have r3:=H.c 1 3 rfl rfl;have k0:=H.frozen (j:=1) 0 rfl;have k1:=H.frozen (j:=1) 1 rfl;have k2:=H.frozen (j:=1) 2 rfl;have k3:=H.frozen (j:=1) 3 rfl;by_cases hr:Right p
 case neg=>
  rw[bE hr];have HR:=aD hr;have HT:=aD H.below;clear hr H;go_wp2;refine bodyPost_ret (v:=.agg #[.bool false,.slice none 0 0,.slice none 0 0,.slice none 0 0]) (by simp[results,Tryz.results21,go_sem,r0,r1,r2,r3]) rfl ?_;have hz:qZ p=iA:=if_neg HR.out;rw[hz]
  have pz:w.heap.size<=w.heap.size+1:=by omega
  exact⟨_,_,_,rfl,(((HT.out.setCell (p:=⟨w.heap.size+1,0,none⟩) pz _).setCell (p:=⟨w.heap.size+1,1,none⟩) pz _).setCell (p:=⟨w.heap.size+1,2,none⟩) pz _).setCell (p:=⟨w.heap.size+1,3,none⟩) pz _,zK _ _⟩
 rw[bQ hr];have aN:=hr.parts;have HR:=aD hr;have bV:1<=p.aA∧p.aA<=60:=aN.1.1;obtain⟨n,hn⟩:∃n:Nat,p.aA=n:=⟨p.aA.toNat,by omega⟩
 have aU:∀x∈p.aB,1<=x.aA.length∧x.aA.length<=30:=fun x hx=>by
  obtain⟨i,hi⟩:=List.getElem?_of_mem hx;have hw:=Right.way HR.out hi;refine⟨?_,hw.2.1.2⟩;rcases Nat.eq_zero_or_pos x.aA.length with e | e
  ·exact absurd (List.length_eq_zero_iff.1 e) hw.1
  ·exact e
 have bJ:=aD aU;have cX:p.aE.length<=40:=aN.1.2.1;have cY:p.aB.length<=100:=aN.1.2.2.1;have cW:=run_make_row' (P:=Tryz.prog) 36 4 (.bool false) 1 Tryz.underlying36 Tryz.bZ rfl .i64 .i64 n (by omega) (by omega);have q0:=H.c 0 0 rfl rfl;rw[Nat.add_zero] at q0;rw[hn] at q0 bV ⊢;have HN:=aD hn;have c9:=aD H;have aR:w.heap.size+1<G.heap.size:=H.lt (j:=1) rfl;have T3:=(H.call (bC G (.cells (madeCells #[.bool false] n) 4))).call (bC _ (.cells #[.bool true,.slice (some ⟨G.heap.size,0,none⟩) n n,.slice none 0 0,.slice none 0 0] 40));have q1:=T3.c 0 1 rfl rfl;rw[Nat.add_zero] at q1;have O:=yS (W:=G) (n:=n) (by omega)
 have b9:eI w #[.int .i64 p.aA,.slice a1 p.aE.length c1,.slice a2 p.aB.length c2,.slice a3 p.aO.length c3,.int .i64 p.aI] n (G.heap.size+1) ((G.alloc (.cells (madeCells #[.bool false] n) 4)).alloc (.cells #[.bool true,.slice (some ⟨G.heap.size,0,none⟩) n n,.slice none 0 0,.slice none 0 0] 40)) (.slice (some ⟨G.heap.size,0,none⟩) n n) (.slice none 0 0) (.slice none 0 0) G.heap.size:=by
  refine⟨T3.below,T3.row 0 _ _ rfl,⟨_,T3.row 1 _ _ rfl⟩,?_,O.but (K:=fun _=>True) (But.aG (bC _ _)) trivial,aR,Nat.lt_succ_self _⟩;have:=dH (G.alloc (.cells (madeCells #[.bool false] n) 4)) 40 #[.bool true,.slice (some ⟨G.heap.size,0,none⟩) n n,.slice none 0 0,.slice none 0 0];rw[World.size_alloc] at this;exact this
 have Y:=aD b9;clear hr aN aU hn H r0 r1 r2 r3 k0 k1 k2 k3 T3 b9 O c9;go_wp2;clear q0 q1;generalize cE:((G.alloc (.cells (madeCells #[.bool false] n) 4)).alloc (.cells #[.bool true,.slice (some ⟨G.heap.size,0,none⟩) n n,.slice none 0 0,.slice none 0 0] 40))=W3 at Y ⊢;obtain⟨f,bS⟩:∃f,f=G.heap.size+1:=⟨_,rfl⟩;obtain⟨F,O⟩:∃F,F=G.heap.size:=⟨_,rfl⟩;rw[← bS,← O] at Y ⊢;obtain⟨pc,b7⟩:∃pc:Array Value,pc=#[.int .i64 p.aA,.slice a1 p.aE.length c1,.slice a2 p.aB.length c2,.slice a3 p.aO.length c3,.int .i64 p.aI]:=⟨_,rfl⟩;rw[← b7] at Y;have c8:=aD b7
 have cS:Hid (w.heap.size+1<F):=by show w.heap.size+1<F; omega
 have cU:Hid (w.heap.size+1<f):=by show w.heap.size+1<f; omega
 clear cE b7 bS O aR G
 go_loopw [17] (fun z wr=>∃(k:Nat) (u2:Value),k<=p.aE.length∧z=.int .i64 k∧eI w pc n f wr (.slice (some ⟨F,0,none⟩) n n) u2 (.slice none 0 0) F∧wr.ownsRow (f+1) 46 2 u2 k (dC (List.replicate k (1,1)))) (fun z _=>p.aE.length-(intOf z).toNat)
 case atStart=>exact⟨0,_,Nat.zero_le _,rfl,Y.out,World.ownsRow_nil _ _ _ _⟩
 case round=>
  obtain⟨k,u2,hk,rfl,d,g⟩:=hrel;rename World=>wA;obtain⟨S,U,rfl⟩:=zag g;by_cases R:k<p.aE.length
  ·have y2:wA.cell? ⟨f,2,none⟩=some (.slice S k U):=d.out.cell (i:=2) (by omega);have cF:f<wA.heap.size:=d.out.lt;have r:=bC wA (.cells #[.int .i64 1,.int .i64 1] 46);have a0:=aD (gD (K:=fun _=>True) g (But.aG r) fun _ _=>trivial)
   have bL:Hid (1=0∨∃A,(some (⟨wA.heap.size,0,none⟩:Addr))=some A∧∀j u,([.int .i64 1,.int .i64 1]:List Value)[j]?=some u->(wA.alloc (.cells #[.int .i64 1,.int .i64 1] 46)).cell? (A.add j)=some u):=by
    refine .inr ⟨_,rfl,fun j u C=>?_⟩;rw[mJ,Nat.zero_add];have cH:j<2:=(List.getElem?_eq_some_iff.1 C).1;rw[(dH wA 46 #[.int .i64 1,.int .i64 1]).cell (by simpa using cH)];rcases j with _ | _ | j
    ·exact C
    ·exact C
    ·omega
   have Z:Hid (∀u∈([.int .i64 1,.int .i64 1]:List Value),u.oneCell'=true):=by
    intro u hu;simp at hu;subst hu;rfl
   have aY:Hid (k+1<=maxLen):=by show k+1<=maxLen; unfold maxLen; omega
   have b5:Hid ((k+1)*16<=140737488355328):=by show (k+1)*16<=140737488355328; omega
   have bK:Hid (f+1<=(wA.alloc (.cells #[.int .i64 1,.int .i64 1] 46)).heap.size):=by show f+1<=_; rw[World.size_alloc]; omega
   obtain⟨xs,b8⟩:∃xs,xs=dC (List.replicate k (1,1)):=⟨_,rfl⟩;have cC:=aD b8;rw[← b8] at a0;have X:=aD d;have L:=aD r;clear b8 d g r
   go_wp2_with (at_builtin; refine iN rfl _ _ 37 rfl (f+1) 46 (.agg #[.int .i64 0,.int .i64 0]) 2 16 Tryz.underlying37 Tryz.fY rfl (by decide) (.slice S k U) k xs rfl a0.out (some ⟨wA.heap.size,0,none⟩) 1 1 [.int .i64 1,.int .i64 1] rfl rfl bL.out Z.out aY.out b5.out bK.out ?_)
   intro u5 D m s;obtain⟨a6,c6,rfl⟩:=zag m;have E:=(X.out.call L.out).but (K:=fun c=>c<f+1) (But.of_below (mH a0.out s (Nat.le_refl _) bK.out) fun _ _ z=>z) fun _ z=>z;have y3:D.cell? ⟨f,2,none⟩=some (.slice S k U):=E.out.cell (i:=2) (by omega);have z3:=E.out.frozen 2
   have bA:=aD (And.intro (E.wX (.slice a6 (k+1) c6)) (show (D.setCell ⟨f,2,none⟩ (.slice a6 (k+1) c6)).ownsRow (f+1) 46 2 (.slice a6 (k+1) c6) (k+1) (dC (List.replicate (k+1) (1,1))) by
    rw[← Cc,← cC.out]
    exact iY (K:=fun c=>c≠f) m ((But.refl _ _).setCell (fun z=>z rfl) _) fun c hc _=>by omega))
   clear E m s a0 bL Z X L y2;go_wp2;go_roundw
   case rel=>exact⟨k+1,_,by omega,by go_num,bA.out.1,bA.out.2⟩
   case measure=>simp[intOf]; omega
  ·obtain rfl:k=p.aE.length:=by omega
   obtain⟨bp,bN,bP⟩:=vM (l:=List.replicate p.aE.length (1,1)) g (by rw[List.length_replicate]);have cV:(List.replicate p.aE.length ((1,1):Int×Int)).length=p.aE.length:=List.length_replicate;have c0:=aD bN;have bD:=aD bP;have X:=aD d
   have x2:wA.cell? ⟨w.heap.size,2,none⟩=some (.slice a2 p.aB.length c2):=by have:=d.box.cell (i:=2) (by omega); rw[c8.out] at this; exact this
   clear g d bN bP R hk;go_wp2;clear x2
   go_loopw [29] (fun z wr=>∃(k:Nat) (xs:List Value) (u3:Value) (bb:Nat->Nat),k<=p.aB.length∧z=.int .i64 k∧eI w pc n f wr (.slice (some ⟨F,0,none⟩) n n) (.slice S p.aE.length U) u3 F∧bH wr (.slice S p.aE.length U) (List.replicate p.aE.length (1,1)) bp ∧
    wr.ownsRow (f+1) 44 5 u3 k xs∧dQ wr (f+1) (lJ p.aB) k xs bb∧(∀i j,i<k->j<k->bb i=bb j->i=j)) (fun z _=>p.aB.length-(intOf z).toNat)
   case atStart=>exact⟨0,[],.slice none 0 0,fun _=>0,Nat.zero_le _,rfl,X.out,c0.out,World.ownsRow_nil _ _ _ _,fun j _ C=>by omega,fun i j hi=>by omega⟩
   case round=>
    obtain⟨k,xs,u3,bb,hk,rfl,d,aM,g,hX,J⟩:=hrel;rename World=>B;obtain⟨T,V,rfl⟩:=zag g;by_cases R:k<p.aB.length
    ·obtain⟨x,hx⟩:=bG p.aB (aD rfl) R;obtain⟨-,hW,-⟩:=HK.out B d.below;obtain⟨aw,cw,ew,aC⟩:=hW
     cases ew
     obtain h0 | ⟨b2,o2,rfl,-,aC⟩:=aC
     ·omega
     obtain⟨v0,v1,v2,v3,v4,I,g0,g1,g2,g3,g4⟩:=aC k R x hx;obtain⟨s0,e0,rfl⟩:=I.1.size;obtain⟨s1,e1,rfl⟩:=I.2.1.size;obtain⟨s2,e2,rfl⟩:=I.2.2.1.size;obtain⟨s3,e3,rfl⟩:=I.2.2.2.1.size;obtain⟨s4,e4,rfl⟩:=I.2.2.2.2.size;have cZ:=bJ.out x (List.mem_of_getElem? hx);have cP:=run_make_row' (P:=Tryz.prog) 36 4 (.bool false) 1 Tryz.underlying36 Tryz.bZ rfl .i64 .i64 x.aA.length (by omega) (by omega);have cF:f<B.heap.size:=d.out.lt;have r:=bC B (.cells #[.slice s0 x.aA.length e0,.slice s1 x.aQ.length e1,.slice s2 x.aJ.length e2,.slice s3 x.over.length e3,.slice s4 x.aW.length e4] 51);have y3:(B.alloc (.cells #[.slice s0 x.aA.length e0,.slice s1 x.aQ.length e1,.slice s2 x.aJ.length e2,.slice s3 x.over.length e3,.slice s4 x.aW.length e4] 51)).cell? ⟨f,3,none⟩=some (.slice T k V):=(d.call r).out.cell (i:=3) (by omega);have z3:=(d.call r).out.frozen 3
     have yw:(B.alloc (.cells #[.slice s0 x.aA.length e0,.slice s1 x.aQ.length e1,.slice s2 x.aJ.length e2,.slice s3 x.over.length e3,.slice s4 x.aW.length e4] 51)).cell? ⟨B.heap.size,0,none⟩=some (.slice s0 x.aA.length e0):=by simp
     have Hx:=aD hx;have cB:=aD I;have aX:=aD d;have bF:=aD aM;have bI:=aD g;have HX:=aD hX;have bY:=aD J;clear hx aC I d aM g hX J;obtain⟨i0,cG,cL,aR,cM⟩:=info_parts Tryz.gU;have bO:=(cB.out.1.keep (In.keep r).1 (In.keep r).2);have cA:=aD (bO.keep (In.keep (cT _)).1 (In.keep (cT _)).2)
     have aF:∀j,j<k->bb j<B.heap.size∧f+1<=bb j:=fun j C=>by
      obtain⟨y,hy⟩:=bG (lJ p.aB) (aD (oE _)) (show j<p.aB.length by omega);obtain⟨_,_,⟨_,_,hu⟩,_,_,hm⟩:=HX.out j y C hy;exact⟨hu.lt,hm⟩
     have aS:∀(t:World) (v:Value) (M:Nat),aV t v (jQ x.aA.length).aL M->B.heap.size+1<=M->Below B.heap.size B t ->
       (t.alloc (.cells #[.int .i64 0,.int .i64 0,v,.bool false,.int .i64 0] 44)).ownsRow (f+1) 44 5 (.slice T k V) k xs ∧
       (∀j u,([.int .i64 0,.int .i64 0,v,.bool false,.int .i64 0]:List Value)[j]?=some u->(t.alloc (.cells #[.int .i64 0,.int .i64 0,v,.bool false,.int .i64 0] 44)).cell? ((⟨t.heap.size,0,none⟩:Addr).add j)=some u)∧f+1<=(t.alloc (.cells #[.int .i64 0,.int .i64 0,v,.bool false,.int .i64 0] 44)).heap.size∧t.cell? ⟨f,3,none⟩=some (.slice T k V)∧(t.alloc (.cells #[.int .i64 0,.int .i64 0,v,.bool false,.int .i64 0] 44)).cell? ⟨f,3,none⟩=some (.slice T k V) ∧
       ∀(D:World) (N q:Nat),(t.alloc (.cells #[.int .i64 0,.int .i64 0,v,.bool false,.int .i64 0] 44)).grownBy D (Value.slice T k V).ownBlock->D.ownsRow (f+1) 44 5 (.slice (some ⟨N,0,none⟩) (k+1) q) (k+1) (xs++[.int .i64 0,.int .i64 0,v,.bool false,.int .i64 0]) ->
        (D.cell? ⟨f,3,none⟩=some (.slice T k V)∧D.frozen? ⟨f,3,none⟩=false)∧eI w pc n f (D.setCell ⟨f,3,none⟩ (.slice (some ⟨N,0,none⟩) (k+1) q)) (.slice (some ⟨F,0,none⟩) n n) (.slice S p.aE.length U) (.slice (some ⟨N,0,none⟩) (k+1) q) F∧bH (D.setCell ⟨f,3,none⟩ (.slice (some ⟨N,0,none⟩) (k+1) q)) (.slice S p.aE.length U) (List.replicate p.aE.length (1,1)) bp ∧
        (D.setCell ⟨f,3,none⟩ (.slice (some ⟨N,0,none⟩) (k+1) q)).ownsRow (f+1) 44 5 (.slice (some ⟨N,0,none⟩) (k+1) q) (k+1) (xs++[.int .i64 0,.int .i64 0,v,.bool false,.int .i64 0]) ∧
        dQ (D.setCell ⟨f,3,none⟩ (.slice (some ⟨N,0,none⟩) (k+1) q)) (f+1) (lJ p.aB) (k+1) (xs++[.int .i64 0,.int .i64 0,v,.bool false,.int .i64 0]) (fun j=>if j=k then M else bb j) ∧
        ∀i j,i<k+1->j<k+1->(if i=k then M else bb i)=(if j=k then M else bb j)->i=j:=fun t v M cD b6 a8=>by
      have cR:=a8.size;have hC:Below B.heap.size B (t.alloc (.cells #[.int .i64 0,.int .i64 0,v,.bool false,.int .i64 0] 44)):=a8.trans ((bC t _).mono a8.size);have a9:=gD (K:=fun _=>True) bI.out (But.aG hC) fun _ _=>trivial
      have hZ:f+1<=(t.alloc (.cells #[.int .i64 0,.int .i64 0,v,.bool false,.int .i64 0] 44)).heap.size:=by rw[World.size_alloc]; omega
      refine⟨a9,fun j u C=>?_,hZ,(aX.out.call a8).out.cell (i:=3) (by omega),(aX.out.call hC).out.cell (i:=3) (by omega),fun D N q hg ho=>?_⟩
      ·rw[mJ,Nat.zero_add];have cI:j<5:=(List.getElem?_eq_some_iff.1 C).1;rw[(dH t 44 #[.int .i64 0,.int .i64 0,v,.bool false,.int .i64 0]).cell (by simpa using cI)];rcases j with _ | _ | _ | _ | _ | j
       ·exact C
       ·exact C
       ·exact C
       ·exact C
       ·exact C
       ·omega
      ·have E:=(aX.out.call hC).but (K:=fun c=>c<f+1) (But.of_below (mH a9 hg (Nat.le_refl _) hZ) fun _ _ z=>z) fun _ z=>z;have cJ:∀c,c≠f->c≠(⟨f,3,none⟩:Addr).block:=fun c hc=>hc;have hO:∀ {v':Value}{l:List Bool}{b:Nat},aV (t.alloc (.cells #[.int .i64 0,.int .i64 0,v,.bool false,.int .i64 0] 44)) v' l b->b≠f->aV (D.setCell ⟨f,3,none⟩ (.slice (some ⟨N,0,none⟩) (k+1) q)) v' l b:=fun hb cK=>(hb.held hg a9).of_block (Below.heap_setCell _ _ _ _ (cJ _ cK));refine⟨⟨E.out.cell (i:=3) (by omega),E.out.frozen 3⟩,E.wY _,?_,iY (K:=fun c=>c≠f) ho ((But.refl _ _).setCell (fun z=>z rfl) _) fun c hc _=>by omega,?_,fun i j hi C=>?_⟩
       ·refine (bH.held (bF.out.but (K:=fun _=>True) (But.aG hC) fun _=>trivial) hg a9).but (K:=fun c=>c≠f) ((But.refl _ _).setCell (fun z=>z rfl) _) fun z=>?_;have:=bD.out z; omega
       ·exact dQ.snoc (W':=(D.setCell ⟨f,3,none⟩ (.slice (some ⟨N,0,none⟩) (k+1) q))) HX.out bI.out.1 (yP Hx.out) (hO (cD.but (K:=fun _=>True) (But.aG (bC _ _)) trivial) (by omega)) (by omega) fun j y v C hy hv=>hO (hv.but (K:=fun _=>True) (But.aG hC) trivial) (by have:=(aF j C).2; omega)
       ·by_cases e1:i=k <;> by_cases e2:j=k
        ·intro _; omega
        ·rw[if_pos e1,if_neg e2]; intro z; have:=(aF j (by omega)).1; omega
        ·rw[if_neg e1,if_pos e2]; intro z; have:=(aF i (by omega)).1; omega
        ·rw[if_neg e1,if_neg e2]; exact bY.out i j (by omega) (by omega)
     have bB:=aD aS
     have aY:Hid (k+1<=maxLen):=by show k+1<=maxLen; unfold maxLen; omega
     have b5:Hid ((k+1)*56<=140737488355328):=by show (k+1)*56<=140737488355328; omega
     have Z:Hid (∀(a:Option Addr) (n c:Nat),∀u∈([.int .i64 0,.int .i64 0,.slice a n c,.bool false,.int .i64 0]:List Value),u.oneCell'=true):=by
      intro a n c u hu;simp at hu
      rcases hu with rfl | rfl | rfl | rfl <;> rfl
     have L:=aD r;clear aS aF bO r
     go_wp2_with fail
     clear g0 g1 g2 g3 g4
     go_region_law
      (first
       | (refine step_append_lies _ (by rfl) _ _ _ (by rfl) (f+1) 44 i0 _ 5 56 Tryz.underlying38 cG cL aR cM rfl (by omega) (.slice T k V) k xs (by rfl) HA.out.1 ⟨t.heap.size,0,none⟩ 1 1 _ (by rfl) (by rfl) HA.out.2.1 (Z.out _ _ _) (by omega) aY.out b5.out HA.out.2.2.1 (t.heap.size+1) (by simp) ?_; intro N q D m s cN cO; have y5:=(HA.out.2.2.2.2.2 D _ _ s m).1.1; have z5:=(HA.out.2.2.2.2.2 D _ _ s m).1.2)
       | (go_simp; go_at_call 58; refine (IN _ _ _ _ _ x.aA _ cA.out (by omega) (by omega)).mono ?_; rintro e t ⟨a4,c4,M,rfl,bU,b6,aT⟩; have HA:=aD (bB.out t _ M bU (by simpa using b6) (L.out.trans (((cT _).trans aT).mono L.out.size))); have y4:=HA.out.2.2.2.1; have d0:=HA.out.2.2.2.2.1; clear bU b6 aT))
     all_goals
      go_wp2;go_roundw
      case rel=>exact⟨k+1,_,_,_,by omega,by go_num,(HA.out.2.2.2.2.2 D _ _ s m).2⟩
      case measure=>simp[intOf]; omega
    ·obtain rfl:k=p.aB.length:=by omega
     obtain⟨bw,bM,bR⟩:=BE g hX (oE _).symm;obtain⟨gR,hR⟩:=d.res;have t0:B.cell? ⟨f,0,none⟩=some (.bool true):=d.out.cell (i:=0) (by omega);have t1:B.cell? ⟨f,1,none⟩=some (.slice (some ⟨F,0,none⟩) n n):=d.out.cell (i:=1) (by omega);have t2:B.cell? ⟨f,2,none⟩=some (.slice S p.aE.length U):=d.out.cell (i:=2) (by omega);have t3:B.cell? ⟨f,3,none⟩=some (.slice T p.aB.length V):=d.out.cell (i:=3) (by omega);have r0:=hR.cell (i:=0) (by omega);have r1:=hR.cell (i:=1) (by omega);have r2:=hR.cell (i:=2) (by omega);have r3:=hR.cell (i:=3) (by omega);have k0:=hR.frozen 0;have k1:=hR.frozen 1;have k2:=hR.frozen 2;have k3:=hR.frozen 3
     have fr:aP (fun c=>w.heap.size+1+1<=c) B (.slice (some ⟨F,0,none⟩) n n) (.slice S p.aE.length U) (.slice T p.aB.length V) (bT p) F bp bw bb:=by
      refine⟨?_,aM,?_,d.po,fun z=>?_,fun z=>?_,fun i hi=>?_,fun i j hi C=>J i j ?_ ?_,fun i hi=>?_⟩
      ·show aV B _ (List.replicate p.aA.toNat false) F;rw[HN.out,Int.toNat_natCast];exact d.aH
      ·exact bM
      ·have:=bD.out z; have:=d.po; have:=d.pf; omega
      ·have:=bR z; have:=d.po; have:=d.pf; omega
      ·obtain⟨y,hy⟩:=bG (lJ p.aB) (aD rfl) hi;have:=(hX i y (by rw[← oE]; exact hi) hy).2.2.2.2.2;have:=d.po; have:=d.pf; omega
      ·rw[← oE]; exact hi
      ·rw[← oE]; exact C
      ·obtain⟨y,hy⟩:=bG (lJ p.aB) (aD rfl) hi;have:=(hX i y (by rw[← oE]; exact hi) hy).2.2.2.2.2;have:=d.pf; omega
     have bX:=aD fr;have bW:=aD d.below;clear fr hR bM bR hX J g aM d R;go_wp2;refine bodyPost_ret (v:=.agg #[.bool true,.slice (some ⟨F,0,none⟩) n n,.slice S p.aE.length U,.slice T p.aB.length V]) (by simp[results,Tryz.results21,go_sem,r0,r1,r2,r3]) rfl ?_;have hz:qZ p=bT p:=if_pos HR.out;rw[hz]
     have pz:w.heap.size<=w.heap.size+1:=by omega
     have hk:∀o:Nat,¬((fun c=>c≠w.heap.size+1) (⟨w.heap.size+1,o,none⟩:Addr).block):=fun o z=>z rfl;refine⟨_,_,_,rfl,(((bW.out.setCell (p:=⟨w.heap.size+1,0,none⟩) pz _).setCell (p:=⟨w.heap.size+1,1,none⟩) pz _).setCell (p:=⟨w.heap.size+1,2,none⟩) pz _).setCell (p:=⟨w.heap.size+1,3,none⟩) pz _,.inl ⟨F,bp,bw,bb,?_⟩⟩
     exact bX.out.but (Q:=fun c=>w.heap.size+1<=c) (((((But.refl (fun c=>c≠w.heap.size+1) B).setCell (hk 0) _).setCell (hk 1) _).setCell (hk 2) _).setCell (hk 3) _) (fun c hc=>by omega) fun c hc=>by omega
theorem Tryz.fP:(Tryz.prog.info? 42).map (fun i=>(i.zero,i.size,i.bytes))=some (some (.agg #[.int .i64 0,.bool false,.slice none 0 0,.slice none 0 0,.slice none 0 0]),5,88):=by kernel_rfl
set_option maxRecDepth 100000 in
set_option maxHeartbeats 8000000 in
theorem IC (p1 p2 p3 f1 C D:Value) (p:aK) (d:aF) (s of b:Int) (w:World) (I:aZ (In w) w p1 p2 p3 p) (J:cE (In w) w p2 p.aB) (G:bB (In w) w f1 C D d) (L:p.Small 1048576) (y:cJ p d) :
  Calls Tryz.prog 41 #[.agg #[.int .i64 p.aA,p1,p2,p3,.int .i64 p.aI],.agg #[.bool d.ok,f1,C,D],.agg #[.int .i64 s,.int .i64 of,.int .i64 b]] w fun e w'=>∃u1 u2 u3 bo bp bw bb,e=.returned (.agg #[.int .i64 (jW p d (s,of,b)).1,.bool (jW p d (s,of,b)).2.ok,u1,u2,u3])∧Below w.heap.size w w'∧aP (New w w') w' u1 u2 u3 (jW p d (s,of,b)).2 bo bp bw bb:=by
 have KP:=aD fun (W:World) (h:Below w.heap.size w W)=>I.keep (Q:=In W) (In.keep h).1 (In.keep h).2;have KC:=aD fun (W:World) (h:Below w.heap.size w W)=>J.keep (Q:=In W) (In.keep h).1 (In.keep h).2;have KF:=aD fun (W:World) (h:Below w.heap.size w W)=>G.keep (Q:=In W) (In.keep h).1 (In.keep h).2;obtain⟨P,c1,rfl⟩:=I.1.size;obtain⟨S,c2,rfl⟩:=I.2.1.size;obtain⟨T,c3,rfl⟩:=I.2.2.size;obtain⟨o1,m1,rfl⟩:=G.1.size;obtain⟨o2,m2,rfl⟩:=G.2.1.size;obtain⟨o3,m3,rfl⟩:=G.2.2.size;have T0:=B9 w 27 40 55 42 #[.int .i64 p.aA,.slice P p.aE.length c1,.slice S p.aB.length c2,.slice T p.aO.length c3,.int .i64 p.aI] #[.bool d.ok,.slice o1 d.aH.length m1,.slice o2 d.aC.length m2,.slice o3 d.aB.length m3] #[.int .i64 s,.int .i64 of,.int .i64 b] #[.int .i64 0,.bool false,.slice none 0 0,.slice none 0 0,.slice none 0 0];have HS:=aD L;have B:=aD y;have hm:p.aE.length<=1048576:=L.1;have hn:p.aB.length<=1048576:=L.2.1;clear I J G L y;obtain⟨R,y⟩:∃R,R=jW p d (s,of,b):=⟨_,rfl⟩;rw[← y];go_enter Tryz.func41,Tryz.ntmps41
 go_wp2_with fail
 refine (GR p.aA P S p.aE.length p.aB.length c1 c2 (.slice T p.aO.length c3) (.int .i64 p.aI) s of b _ hm hn).mono ?_;rintro e x ⟨rfl,u⟩;have f:=T0.call u;clear T0 u;have X:=f.c 0 0 rfl rfl;have Y:=f.c 0 1 rfl rfl;have Z:=f.c 0 2 rfl rfl;have b3:=f.c 0 3 rfl rfl;have b4:=f.c 0 4 rfl rfl;have f0:=f.c 1 0 rfl rfl;have f1:=f.c 1 1 rfl rfl;have C:=f.c 1 2 rfl rfl;have D:=f.c 1 3 rfl rfl;have e0:=f.c 2 0 rfl rfl;have e1:=f.c 2 1 rfl rfl;have e2:=f.c 2 2 rfl rfl;rw[Nat.add_zero] at X Y Z b3 b4
 have m:∀(n:World) (u1 u2 u3:Value) (bo bp bw:Nat) (bb:Nat->Nat),Below x.heap.size x n->aP (New x n) n u1 u2 u3 R.2 bo bp bw bb->Hid (aP (fun c=>x.heap.size<=c) n u1 u2 u3 R.2 bo bp bw bb)∧bD w [(27,#[.int .i64 p.aA,.slice P p.aE.length c1,.slice S p.aB.length c2,.slice T p.aO.length c3,.int .i64 p.aI]),(40,#[.bool d.ok,.slice o1 d.aH.length m1,.slice o2 d.aC.length m2,.slice o3 d.aB.length m3]),(55,#[.int .i64 s,.int .i64 of,.int .i64 b]),(42,#[.int .i64 0,.bool false,.slice none 0 0,.slice none 0 0,.slice none 0 0])] n:=fun n u1 u2 u3 bo bp bw bb u l=>
  ⟨l.but (K:=fun _=>True) (But.refl _ _) (fun _ _=>trivial) fun _ z=>z.1,f.call u⟩
 have a0:w.heap.size+3<x.heap.size:=f.lt (j:=3) rfl;by_cases k:fI p.aA p.aE.length p.aB.length s of b
 case neg=>
  rw[bE k];have g:R=(1,d):=y.trans (zM k);have A:=aD (CK _ _ _ d x (KF.out _ f.below) (oH B.out) (vB B.out) (BA B.out));have q:=aD m;clear m k y f X Y Z b3 b4 e0 e1 e2
  go_wp2_with fail
  refine A.out.mono ?_;rintro e n ⟨u1,u2,u3,bo,bp,bw,bb,rfl,u,l⟩
  have F:d=R.2:=by rw[g]
  have E:(1:Int)=R.1:=by rw[g]
  rw[F] at l;obtain⟨N,a⟩:=q.out n u1 u2 u3 bo bp bw bb u l;obtain⟨g1,N1,q1,rfl,-⟩:=id l.aH;obtain⟨U,q2,rfl,-⟩:=id l.aC;obtain⟨V,q3,rfl,-⟩:=id l.aB;have r0:=a.c 3 0 rfl rfl;have r1:=a.c 3 1 rfl rfl;have r2:=a.c 3 2 rfl rfl;have r3:=a.c 3 3 rfl rfl;have r4:=a.c 3 4 rfl rfl;have k0:=a.frozen (j:=3) 0 rfl;have k1:=a.frozen (j:=3) 1 rfl;have k2:=a.frozen (j:=3) 2 rfl;have k3:=a.frozen (j:=3) 3 rfl;have k4:=a.frozen (j:=3) 4 rfl;have O:=aD a.below
  have H:d.ok=R.2.ok:=by rw[g]
  rw[H];have M:=aD E;clear l u q A a f0 f1 C D F E H g;go_wp2;refine bodyPost_ret (v:=.agg #[.int .i64 1,.bool R.2.ok,.slice (some ⟨bo,0,none⟩) R.2.aH.length q1,.slice U R.2.aC.length q2,.slice V R.2.aB.length q3]) (by simp[results,Tryz.results41,go_sem,r0,r1,r2,r3,r4]) rfl ?_
  have t:w.heap.size<=w.heap.size+3:=by omega
  have r:∀o:Nat,¬((fun c=>c≠w.heap.size+3) (⟨w.heap.size+3,o,none⟩:Addr).block):=fun o z=>z rfl;refine⟨_,_,_,bo,bp,bw,bb,by rw[← M.out],((((O.out.setCell (p:=⟨w.heap.size+3,0,none⟩) t _).setCell (p:=⟨w.heap.size+3,1,none⟩) t _).setCell (p:=⟨w.heap.size+3,2,none⟩) t _).setCell (p:=⟨w.heap.size+3,3,none⟩) t _).setCell (p:=⟨w.heap.size+3,4,none⟩) t _,?_⟩;exact (N.out.but (Q:=fun c=>x.heap.size<=c) ((((((But.refl (fun c=>c≠w.heap.size+3) n).setCell (r 0) _).setCell (r 1) _).setCell (r 2) _).setCell (r 3) _).setCell (r 4) _) (fun c hc=>by omega) fun _ z=>z).bound fun c hc hl=>⟨by omega,hl⟩
 rw[bQ k];have g:R=jR p d s of b:=y.trans (xS k);have A:=aD (Gm _ _ _ _ _ _ p d s of b x (KP.out _ f.below) (KC.out _ f.below) (KF.out _ f.below) HS.out (oH B.out) B.out k);rw[← g] at A;have q:=aD m;clear m k y g f
 go_wp2_with fail
 refine A.out.mono ?_;rintro e n ⟨u1,u2,u3,rfl,u,bo,bp,bw,bb,l⟩;obtain⟨N,a⟩:=q.out n u1 u2 u3 bo bp bw bb u l;obtain⟨g1,N1,q1,rfl,-⟩:=id l.aH;obtain⟨U,q2,rfl,-⟩:=id l.aC;obtain⟨V,q3,rfl,-⟩:=id l.aB;have r0:=a.c 3 0 rfl rfl;have r1:=a.c 3 1 rfl rfl;have r2:=a.c 3 2 rfl rfl;have r3:=a.c 3 3 rfl rfl;have r4:=a.c 3 4 rfl rfl;have k0:=a.frozen (j:=3) 0 rfl;have k1:=a.frozen (j:=3) 1 rfl;have k2:=a.frozen (j:=3) 2 rfl;have k3:=a.frozen (j:=3) 3 rfl;have k4:=a.frozen (j:=3) 4 rfl;have O:=aD a.below;clear l u q A a f0 f1 C D X Y Z b3 b4 e0 e1 e2;go_wp2;refine bodyPost_ret (v:=.agg #[.int .i64 R.1,.bool R.2.ok,.slice (some ⟨bo,0,none⟩) R.2.aH.length q1,.slice U R.2.aC.length q2,.slice V R.2.aB.length q3]) (by simp[results,Tryz.results41,go_sem,r0,r1,r2,r3,r4]) rfl ?_
 have t:w.heap.size<=w.heap.size+3:=by omega
 have r:∀o:Nat,¬((fun c=>c≠w.heap.size+3) (⟨w.heap.size+3,o,none⟩:Addr).block):=fun o z=>z rfl;refine⟨_,_,_,bo,bp,bw,bb,rfl,((((O.out.setCell (p:=⟨w.heap.size+3,0,none⟩) t _).setCell (p:=⟨w.heap.size+3,1,none⟩) t _).setCell (p:=⟨w.heap.size+3,2,none⟩) t _).setCell (p:=⟨w.heap.size+3,3,none⟩) t _).setCell (p:=⟨w.heap.size+3,4,none⟩) t _,?_⟩;exact (N.out.but (Q:=fun c=>x.heap.size<=c) ((((((But.refl (fun c=>c≠w.heap.size+3) n).setCell (r 0) _).setCell (r 1) _).setCell (r 2) _).setCell (r 3) _).setCell (r 4) _) (fun c hc=>by omega) fun _ z=>z).bound fun c hc hl=>⟨by omega,hl⟩
theorem BM {p:aK}(c:Right p) (a:List (Int×Int×Int)) (k:Nat) (d:k<=a.length):cJ p (rC (bT p) (iV p (bT p) (a.take k))):=by
 induction k with
 | zero=>exact xM c
 | succ k ih=>
  obtain⟨e,b⟩:=bG a (aD rfl) (show k<a.length by omega);rw[vO p (bT p) b,zO];exact BN (ih (by omega)) e
structure gC (w:World) (pc:Array Value) (fb:Nat) (W:World) (v:Value) (xs:List Value) (lo:Nat->Nat) (l:List (Int×aF)) (f:aF) (u1 u2 u3:Value):Prop where
 below:Below w.heap.size w W
 box:W.rowIs w.heap.size 27 5 (fun i=>pc[i]!)
 cA:W.rowIs fb 40 4 (fun i=>(#[.bool f.ok,u1,u2,u3]:Array Value)[i]!)
 own:W.ownsRow w.heap.size 42 5 v l.length xs
 kG:fL W l xs lo
 frame:∃bo bp bw bb,aP (fun c=>w.heap.size<=c) W u1 u2 u3 f bo bp bw bb
 top:lo l.length<=W.heap.size
 low:∀j,w.heap.size<=lo j
 step:∀j,j<l.length->lo j<=lo (j+1)
 mR:w.heap.size<fb
theorem gC.call {w:World}{c:Array Value}{b:Nat}{W W':World}{v:Value}{xs:List Value}{lo:Nat->Nat}{l:List (Int×aF)}{f:aF}{d e g:Value}(h:gC w c b W v xs lo l f d e g) (a:Below W.heap.size W W'):gC w c b W' v xs lo l f d e g:=by
 obtain⟨i,j,m,bb,n⟩:=h.frame;exact⟨h.below.trans (a.mono h.below.size),dP h.box a,dP h.cA a,gD (K:=fun _=>True) h.own (But.aG a) fun _ _=>trivial,h.kG.map fun _ _ _ _ _ _ _ _ _ k=>k.but (K:=fun _=>True) (But.aG a) (fun _ _=>trivial) fun _ z=>z,⟨i,j,m,bb,n.but (K:=fun _=>True) (But.aG a) (fun _ _=>trivial) fun _ z=>z⟩,Nat.le_trans h.top a.size,h.low,h.step,h.mR⟩
theorem gC.next {w:World}{U:Array Value}{a:Nat}{W p I:World}{v v':Value}{xs:List Value}{lo:Nat->Nat}{l:List (Int×aF)}{f:aF}{Z u2 u3 F G H:Value}{x:Int×aF}{q r s:Nat}{bb:Nat->Nat}(h:gC w U a W v xs lo l f Z u2 u3) (M:Below W.heap.size W p) (T:aP (fun c=>W.heap.size<=c∧c<p.heap.size) p F G H x.2 q r s bb)
  (u:I.ownsRow w.heap.size 42 5 v' (l.length+1) (xs++[.int .i64 x.1,.bool x.2.ok,F,G,H])) (D:p.grownBy I v.ownBlock) :
  gC w U a ((((I.setCell ⟨a,0,none⟩ (.bool x.2.ok)).setCell ⟨a,1,none⟩ F).setCell ⟨a,2,none⟩ G).setCell ⟨a,3,none⟩ H) v' (xs++[.int .i64 x.1,.bool x.2.ok,F,G,H]) (fun j=>if j=l.length+1 then p.heap.size else lo j) (l++[x]) x.2 F G H:=by
 have n:=h.call M;have y:But (fun c=>some c≠v.ownBlock) p I:=⟨D.os,D.tape,D.output,D.size,fun c B V=>D.block c B V⟩;have J:∀ {b t N:Nat}{g:Nat->Value},p.rowIs b t N g->t≠42->some b≠v.ownBlock:=fun X Y e=>(gJ n.own e.symm).2.2 _ _ _ _ X Y rfl;have O:=y.row n.box (J n.box (by decide));have C:=y.row n.cA (J n.cA (by decide));have L:∀o:Nat,¬((fun c=>c≠a) (⟨a,o,none⟩:Addr).block):=fun o z=>z rfl;have m:=((((But.refl (fun c=>c≠a) I).setCell (L 0) (.bool x.2.ok)).setCell (L 1) F).setCell (L 2) G).setCell (L 3) H;have A:∀(P:Nat->Prop) v1 v2 v3 d q r s bb,aP P p v1 v2 v3 d q r s bb->aP P ((((I.setCell ⟨a,0,none⟩ (.bool x.2.ok)).setCell ⟨a,1,none⟩ F).setCell ⟨a,2,none⟩ G).setCell ⟨a,3,none⟩ H) v1 v2 v3 d q r s bb:=fun P v1 v2 v3 d q r s bb k=>(k.grown D n.own).boxed C ⟨by decide,by decide,by decide⟩ m fun _ z=>z
 have E:(l++[x]).length=l.length+1:=by rw[List.length_append]; rfl
 have S:Below w.heap.size w I:=n.below.trans (mH n.own D (Nat.le_refl _) n.below.size);refine⟨S.trans (m.below S.size fun c B=>by have:=h.mR; omega),m.row O (by have:=h.mR; omega),?_,?_,?_,⟨q,r,s,bb,(A _ _ _ _ _ _ _ _ _ T).but (K:=fun _=>True) (But.refl _ _) (fun _ _=>trivial) fun c B=>Nat.le_trans h.below.size B.1⟩,?_,fun j=>?_,fun j R=>?_,h.mR⟩
 ·refine ((((C.set 0 _).set 1 _).set 2 _).set 3 _).congr fun i hi=>?_;rcases i with _ | _ | _ | _ | i
  ·rfl
  ·rfl
  ·rfl
  ·rfl
  ·omega
 ·rw[E];exact gD u m fun g Q e=>(gJ u Q).2.2 _ _ _ _ C (by decide) e.symm
 ·exact (h.kG.map fun P v1 v2 v3 d q r s bb k=>A P v1 v2 v3 d q r s bb (k.but (K:=fun _=>True) (But.aG M) (fun _ _=>trivial) fun _ z=>z)).snoc h.own.1 ((A _ _ _ _ _ _ _ _ _ T).but (K:=fun _=>True) (But.refl _ _) (fun _ _=>trivial) fun c B=>⟨Nat.le_trans h.top B.1,B.2⟩)
 ·rw[E,if_pos rfl];exact Nat.le_trans y.size m.size
 ·by_cases e:j=l.length+1
  ·rw[if_pos e];exact n.below.size
  ·rw[if_neg e];exact h.low j
 ·rw[E] at R;by_cases e:j=l.length
  ·rw[if_neg (show ¬j=l.length+1 by omega),if_pos (show j+1=l.length+1 by omega),e];exact Nat.le_trans h.top M.size
  ·rw[if_neg (show ¬j=l.length+1 by omega),if_neg (show ¬j+1=l.length+1 by omega)];exact h.step j (by omega)
def eX (w w':World) (v:Value) (l:List (Int×aF)):Prop:=
 ∃xs lo,w'.ownsRow w.heap.size 42 5 v l.length xs∧fL w' l xs lo∧lo l.length<=w'.heap.size∧(∀j,w.heap.size<=lo j)∧∀j,j<l.length->lo j<=lo (j+1)
theorem zN {w w':World}(b:w.heap.size<=w'.heap.size):eX w w' (.slice none 0 0) []:=⟨[],fun _=>w.heap.size,World.ownsRow_nil _ _ _ _,(fun j _ a=>by cases a),b,fun _=>Nat.le_refl _,fun j a=>absurd a (by show ¬j<0; omega)⟩
set_option maxRecDepth 100000 in
set_option maxHeartbeats 8000000 in
theorem zU (p1 p2 p3 ve:Value) (p:aK) (r:List (Int×Int×Int)) (w:World) (hp:aZ (In w) w p1 p2 p3 p) (bL:cE (In w) w p2 p.aB) (aT:pL (In w) w ve r) (hs:p.Small 1048576) (cC:r.length<=1048576) (hg:w.cell? ⟨1,0,none⟩=some rF) :
  Calls Tryz.prog 14 #[.agg #[.int .i64 p.aA,p1,p2,p3,.int .i64 p.aI],ve] w fun e w'=>∃v,e=.returned v∧Below w.heap.size w w'∧eX w w' v (iZ p r):=by
 have KP:=aD fun (W:World) (h:Below w.heap.size w W)=>hp.keep (Q:=In W) (In.keep h).1 (In.keep h).2;have KC:=aD fun (W:World) (h:Below w.heap.size w W)=>bL.keep (Q:=In W) (In.keep h).1 (In.keep h).2;have KE:=aD fun (W:World) (h:Below w.heap.size w W)=>aT.keep (Q:=In W) (In.keep h).1 (In.keep h).2;obtain⟨a1,c1,rfl⟩:=hp.1.size;obtain⟨a2,c2,rfl⟩:=hp.2.1.size;obtain⟨a3,c3,rfl⟩:=hp.2.2.size;obtain⟨ae,ce,rfl,-⟩:=id aT;have T0:=cZ w 27 #[.int .i64 p.aA,.slice a1 p.aE.length c1,.slice a2 p.aB.length c2,.slice a3 p.aO.length c3,.int .i64 p.aI];have HS:=aD hs;have HG:=aD hg;have bJ:¬(Right p∧r.length<=1000)->iZ p r=[]:=fun h=>if_neg h;have aF:=aD bJ;clear hp bL aT hs hg bJ;go_enter Tryz.func14,Tryz.ntmps14
 go_wp2_with fail
 refine (Ai _ _ _ p _ (KP.out _ T0.below) HS.out (ck HG.out T0.below)).mono ?_;rintro e w1 ⟨rfl,hb⟩;have T1:=T0.call hb;clear T0 hb;by_cases hr:Right p
 case neg=>
  rw[bE hr];have aJ:=aD (aF.out fun z=>hr z.1);have HT:=aD T1.below;clear hr T1;go_wp2;go_ret;refine⟨_,rfl,HT.out,?_⟩;rw[aJ.out];exact zN HT.out.size
 rw[bQ hr];by_cases hl:r.length<=1000
 case neg=>
  have aJ:=aD (aF.out fun z=>hl z.2);have HT:=aD T1.below
  have bH:(1000:Int)<(r.length:Int):=by omega
  have bX:decide ((1000:Int)<(r.length:Int))=true:=decide_eq_true bH;clear hr T1 hl bH;go_wp2;go_ret;refine⟨_,rfl,HT.out,?_⟩;rw[aJ.out];exact zN HT.out.size
 have b6:=aD (show iZ p r=iV p (bT p) r from if_pos ⟨hr,hl⟩);have bX:decide ((1000:Int)<(r.length:Int))=false:=decide_eq_false (by omega);have HR:=aD hr
 obtain⟨i0,aV⟩:∃i,Tryz.prog.info? 42=some i:=by
  have:=Tryz.fP
  cases e:Tryz.prog.info? 42 with
  | none=>rw[e] at this; cases this
  | some i=>exact⟨i,rfl⟩
 have I:=Tryz.fP;rw[aV] at I;simp only[Option.map_some,Option.some.injEq,Prod.mk.injEq] at I;obtain⟨wm,bZ,R,bF⟩:=run_make_own (P:=Tryz.prog) (w:=w1) w.heap.size 31 42 i0 (.agg #[.int .i64 0,.bool false,.slice none 0 0,.slice none 0 0,.slice none 0 0]) 5 Tryz.underlying31 aV I.1 I.2.1 .i64 .i64 r.length (by rw[I.2.2]; omega) (by unfold maxLen; omega) T1.below.size;have bB:=Ad bF;have S:=T1.call bB;have m0:=S.c 0 0 rfl rfl;have m1:=S.c 0 1 rfl rfl;have m2:=S.c 0 2 rfl rfl;have m3:=S.c 0 3 rfl rfl;have m4:=S.c 0 4 rfl rfl;rw[Nat.add_zero] at m0 m1 m2 m3 m4;have b5:=aD R;have a4:=aD (Fq _ _ _ p wm (KP.out _ S.below) HS.out (ck HG.out S.below));clear hr hl R bF bB I aV T1 aF
 go_wp2_with fail
 refine a4.out.mono ?_;clear m0 m1 m2 m3 m4 a4 bZ;rintro e w3 ⟨u1,u2,u3,rfl,hb,Y⟩;have hz:qZ p=bT p:=if_pos HR.out;rw[hz] at Y ⊢;have T3:=S.call hb;obtain⟨bo,bp,bw,bb,T⟩:=Y.own (vB (xM HR.out));obtain⟨q1,s1,q2,s2,q3,s3,rfl,rfl,rfl⟩:=Y.slices;have x:=bC w3 (.cells #[.bool (bT p).ok,.slice q1 (bT p).aH.length s1,.slice q2 (bT p).aC.length s2,.slice q3 (bT p).aB.length s3] 40);have a0:=dH w3 40 #[.bool (bT p).ok,.slice q1 (bT p).aH.length s1,.slice q2 (bT p).aC.length s2,.slice q3 (bT p).aB.length s3];have T4:=T3.call x;have a9:=hb.trans (x.mono hb.size)
 have H:gC w #[.int .i64 p.aA,.slice a1 p.aE.length c1,.slice a2 p.aB.length c2,.slice a3 p.aO.length c3,.int .i64 p.aI] w3.heap.size (w3.alloc (.cells #[.bool (bT p).ok,.slice q1 (bT p).aH.length s1,.slice q2 (bT p).aC.length s2,.slice q3 (bT p).aB.length s3] 40)) (.slice (some ⟨w1.heap.size,0,none⟩) 0 r.length) [] (fun _=>(w3.alloc (.cells #[.bool (bT p).ok,.slice q1 (bT p).aH.length s1,.slice q2 (bT p).aC.length s2,.slice q3 (bT p).aB.length s3] 40)).heap.size) [] (bT p) (.slice q1 (bT p).aH.length s1) (.slice q2 (bT p).aC.length s2) (.slice q3 (bT p).aB.length s3):=
  ⟨T4.below,T4.row 0 _ _ rfl,a0,gD (K:=fun _=>True) b5.out (But.aG a9) fun _ _=>trivial,(fun j _ U=>by cases U),⟨bo,bp,bw,bb,T.but (K:=fun _=>True) (But.aG x) (fun _ _=>trivial) fun c hc=>by have:=S.below.size; omega⟩,Nat.le_refl _,fun _=>T4.below.size,(fun j U=>absurd U (by show ¬j<0; omega)),T3.lt (j:=0) rfl⟩
 have b:=aD H;clear T3 T4 S T Y hb x a0 a9 H hz b5;go_wp2;obtain⟨W4,aS⟩:∃W,W=w3.alloc (.cells #[.bool (bT p).ok,.slice q1 (bT p).aH.length s1,.slice q2 (bT p).aC.length s2,.slice q3 (bT p).aB.length s3] 40):=⟨_,rfl⟩;obtain⟨fb,aU⟩:∃fb,fb=w3.heap.size:=⟨_,rfl⟩;rw[← aS,← aU] at b;rw[← aS,← aU];clear aS aU w3;obtain⟨F,T⟩:∃F,F=bT p:=⟨_,rfl⟩;have b4:=aD T;rw[← T] at b;clear T
 go_loopw [5,25] (fun o z wr=>∃(k:Nat) (xs:List Value) (lo:Nat->Nat) (u1 u2 u3:Value),k<=r.length∧z=.int .i64 k∧gC w #[.int .i64 p.aA,.slice a1 p.aE.length c1,.slice a2 p.aB.length c2,.slice a3 p.aO.length c3,.int .i64 p.aI] fb wr o xs lo (iV p F (r.take k)) (rC F (iV p F (r.take k))) u1 u2 u3) (fun _ z _=>r.length-(intOf z).toNat)
 case atStart=>exact⟨0,_,_,_,_,_,Nat.zero_le _,rfl,b.out⟩
 case round=>
  obtain⟨k,xs,lo,u1,u2,u3,hk,rfl,H⟩:=hrel;rename World=>wr;rename Value=>vo;have B:=yW p F r k hk;obtain⟨L,hL⟩:∃L,L=iV p F (r.take k):=⟨_,rfl⟩;rw[← hL] at B H;obtain⟨f,hf⟩:∃f,f=rC F L:=⟨_,rfl⟩;rw[← hf] at H
  have Z:cJ p f:=by
   have:=BM HR.out r k hk;rw[← b4.out,← hL,← hf] at this;exact this
  have HL:=aD hL;have Hf:=aD hf;clear hL hf b;obtain⟨a5,c5,e5⟩:=zag H.own;rw[B] at e5;subst e5;by_cases bI:k<r.length
  ·obtain⟨⟨E,of,d⟩,hx⟩:=bG r (aD rfl) bI;obtain⟨c7,c9,e,h0 | ⟨be,oe,rfl,cB,bD⟩⟩:=KE.out wr H.below
   ·omega
   cases e
   obtain⟨g0,g1,g2⟩:=bD k bI _ hx;simp only at g0 g1 g2;obtain⟨bo,bp,bw,bb,T⟩:=H.frame;have V:=T.read;obtain⟨o1,m1,rfl⟩:=V.1.size;obtain⟨o2,m2,rfl⟩:=V.2.1.size;obtain⟨o3,m3,rfl⟩:=V.2.2.size;have x:=bC wr (.cells #[.int .i64 E,.int .i64 of,.int .i64 d] 55);have a0:=dH wr 55 #[.int .i64 E,.int .i64 of,.int .i64 d];have J:=H.call x;have b9:=(T.bound (Q:=In wr) fun _ _ z=>z).read.keep (Q:=In (wr.alloc (.cells #[.int .i64 E,.int .i64 of,.int .i64 d] 55))) (In.keep x).1 (In.keep x).2;have aL:=aD (IC _ _ _ _ _ _ p f E of d (wr.alloc (.cells #[.int .i64 E,.int .i64 of,.int .i64 d] 55)) (KP.out _ J.below) (KC.out _ J.below) b9 HS.out Z);have y0:(wr.alloc (.cells #[.int .i64 E,.int .i64 of,.int .i64 d] 55)).cell? ⟨w.heap.size,0,none⟩=some (.int .i64 p.aA):=J.box.cell (i:=0) (by omega);have y1:(wr.alloc (.cells #[.int .i64 E,.int .i64 of,.int .i64 d] 55)).cell? ⟨w.heap.size,1,none⟩=some (.slice a1 p.aE.length c1):=J.box.cell (i:=1) (by omega);have y2:(wr.alloc (.cells #[.int .i64 E,.int .i64 of,.int .i64 d] 55)).cell? ⟨w.heap.size,2,none⟩=some (.slice a2 p.aB.length c2):=J.box.cell (i:=2) (by omega);have y3:(wr.alloc (.cells #[.int .i64 E,.int .i64 of,.int .i64 d] 55)).cell? ⟨w.heap.size,3,none⟩=some (.slice a3 p.aO.length c3):=J.box.cell (i:=3) (by omega);have y4:(wr.alloc (.cells #[.int .i64 E,.int .i64 of,.int .i64 d] 55)).cell? ⟨w.heap.size,4,none⟩=some (.int .i64 p.aI):=J.box.cell (i:=4) (by omega)
   have x0:(wr.alloc (.cells #[.int .i64 E,.int .i64 of,.int .i64 d] 55)).cell? ⟨fb,0,none⟩=some (.bool f.ok):=J.cA.cell (i:=0) (by omega);have x1:(wr.alloc (.cells #[.int .i64 E,.int .i64 of,.int .i64 d] 55)).cell? ⟨fb,1,none⟩=some (.slice o1 f.aH.length m1):=J.cA.cell (i:=1) (by omega);have x2:(wr.alloc (.cells #[.int .i64 E,.int .i64 of,.int .i64 d] 55)).cell? ⟨fb,2,none⟩=some (.slice o2 f.aC.length m2):=J.cA.cell (i:=2) (by omega);have x3:(wr.alloc (.cells #[.int .i64 E,.int .i64 of,.int .i64 d] 55)).cell? ⟨fb,3,none⟩=some (.slice o3 f.aB.length m3):=J.cA.cell (i:=3) (by omega)
   have cD:(k:Int)<(r.length:Int):=by omega
   have HX:=aD hx;have b:=aD H;have c6:=aD Z;have b1:=aD x;obtain⟨X,hX⟩:∃X,X=jW p f (E,of,d):=⟨_,rfl⟩;rw[← hX] at aL;have bR:=aD hX;clear H J T V b9 bD hx Z x a0 hX
   go_wp2_with fail
   refine aL.out.mono ?_;clear y0 y1 y2 y3 y4 x0 x1 x2 x3 g0 g1 g2 aL;rintro e t ⟨n1,n2,n3,a,bV,bW,bU,rfl,bA,O⟩;have G:Below wr.heap.size wr t:=b1.out.trans (bA.mono b1.out.size);obtain⟨gO,NO,m,rfl,-⟩:=id O.aH;obtain⟨g,n,rfl,-⟩:=id O.aC;obtain⟨l,q,rfl,-⟩:=id O.aB;have aW:=bC t (.cells #[.int .i64 X.1,.bool X.2.ok,.slice (some ⟨a,0,none⟩) X.2.aH.length m,.slice g X.2.aC.length n,.slice l X.2.aB.length q] 42);have aX:=bC (t.alloc (.cells #[.int .i64 X.1,.bool X.2.ok,.slice (some ⟨a,0,none⟩) X.2.aH.length m,.slice g X.2.aC.length n,.slice l X.2.aB.length q] 42)) (.cells #[.int .i64 X.1,.bool X.2.ok,.slice (some ⟨a,0,none⟩) X.2.aH.length m,.slice g X.2.aC.length n,.slice l X.2.aB.length q] 42);have aQ:=aW.trans (aX.mono aW.size);have aN:=G.trans (aQ.mono G.size);have bK:=dH t 42 #[.int .i64 X.1,.bool X.2.ok,.slice (some ⟨a,0,none⟩) X.2.aH.length m,.slice g X.2.aC.length n,.slice l X.2.aB.length q];have aY:=dH (t.alloc (.cells #[.int .i64 X.1,.bool X.2.ok,.slice (some ⟨a,0,none⟩) X.2.aH.length m,.slice g X.2.aC.length n,.slice l X.2.aB.length q] 42)) 42 #[.int .i64 X.1,.bool X.2.ok,.slice (some ⟨a,0,none⟩) X.2.aH.length m,.slice g X.2.aC.length n,.slice l X.2.aB.length q]
   have bM:(t.alloc (.cells #[.int .i64 X.1,.bool X.2.ok,.slice (some ⟨a,0,none⟩) X.2.aH.length m,.slice g X.2.aC.length n,.slice l X.2.aB.length q] 42)).heap.size=t.heap.size+1:=by simp
   have c0:((t.alloc (.cells #[.int .i64 X.1,.bool X.2.ok,.slice (some ⟨a,0,none⟩) X.2.aH.length m,.slice g X.2.aC.length n,.slice l X.2.aB.length q] 42)).alloc (.cells #[.int .i64 X.1,.bool X.2.ok,.slice (some ⟨a,0,none⟩) X.2.aH.length m,.slice g X.2.aC.length n,.slice l X.2.aB.length q] 42)).heap.size=t.heap.size+1+1:=by simp
   have b3:Hid (aP (fun c=>wr.heap.size<=c∧c<((t.alloc (.cells #[.int .i64 X.1,.bool X.2.ok,.slice (some ⟨a,0,none⟩) X.2.aH.length m,.slice g X.2.aC.length n,.slice l X.2.aB.length q] 42)).alloc (.cells #[.int .i64 X.1,.bool X.2.ok,.slice (some ⟨a,0,none⟩) X.2.aH.length m,.slice g X.2.aC.length n,.slice l X.2.aB.length q] 42)).heap.size) ((t.alloc (.cells #[.int .i64 X.1,.bool X.2.ok,.slice (some ⟨a,0,none⟩) X.2.aH.length m,.slice g X.2.aC.length n,.slice l X.2.aB.length q] 42)).alloc (.cells #[.int .i64 X.1,.bool X.2.ok,.slice (some ⟨a,0,none⟩) X.2.aH.length m,.slice g X.2.aC.length n,.slice l X.2.aB.length q] 42)) (.slice (some ⟨a,0,none⟩) X.2.aH.length m) (.slice g X.2.aC.length n) (.slice l X.2.aB.length q) X.2 a bV bW bU):=by
    refine (O.but (K:=fun _=>True) (Q:=fun c=>wr.heap.size<=c) (But.aG aQ) (fun _ _=>trivial) fun c hc=>?_).bound fun c h1 h2=>⟨h1,h2⟩;have:=hc.1;rw[World.size_alloc] at this;omega
   have b8:Hid (1=0∨∃A,(some (⟨t.heap.size+1,0,none⟩:Addr))=some A∧∀j u,([.int .i64 X.1,.bool X.2.ok,.slice (some ⟨a,0,none⟩) X.2.aH.length m,.slice g X.2.aC.length n,.slice l X.2.aB.length q]:List Value)[j]?=some u->((t.alloc (.cells #[.int .i64 X.1,.bool X.2.ok,.slice (some ⟨a,0,none⟩) X.2.aH.length m,.slice g X.2.aC.length n,.slice l X.2.aB.length q] 42)).alloc (.cells #[.int .i64 X.1,.bool X.2.ok,.slice (some ⟨a,0,none⟩) X.2.aH.length m,.slice g X.2.aC.length n,.slice l X.2.aB.length q] 42)).cell? (A.add j)=some u):=by
    refine .inr ⟨_,rfl,fun j u U=>?_⟩;rw[mJ,Nat.zero_add];have bY:j<5:=(List.getElem?_eq_some_iff.1 U).1;rw[bM] at aY;rw[aY.cell (by simpa using bY)];rcases j with _ | _ | _ | _ | _ | j
    ·exact U
    ·exact U
    ·exact U
    ·exact U
    ·exact U
    ·omega
   have b7:Hid (∀u∈([.int .i64 X.1,.bool X.2.ok,.slice (some ⟨a,0,none⟩) X.2.aH.length m,.slice g X.2.aC.length n,.slice l X.2.aB.length q]:List Value),u.oneCell'=true):=by
    intro u hu;simp at hu
    rcases hu with rfl | rfl | rfl | rfl | rfl <;> rfl
   have bO:Hid (k+1<=maxLen):=by show k+1<=maxLen; unfold maxLen; omega
   have bP:Hid ((k+1)*88<=140737488355328):=by show (k+1)*88<=140737488355328; omega
   have R4:=b.out.call aN;have C:=R4.own;rw[B] at C;have aM:=aD C;have bS:Hid (w.heap.size<=((t.alloc (.cells #[.int .i64 X.1,.bool X.2.ok,.slice (some ⟨a,0,none⟩) X.2.aH.length m,.slice g X.2.aC.length n,.slice l X.2.aB.length q] 42)).alloc (.cells #[.int .i64 X.1,.bool X.2.ok,.slice (some ⟨a,0,none⟩) X.2.aH.length m,.slice g X.2.aC.length n,.slice l X.2.aB.length q] 42)).heap.size):=R4.below.size;have b0:=aD aN;have b2:Hid (((t.alloc (.cells #[.int .i64 X.1,.bool X.2.ok,.slice (some ⟨a,0,none⟩) X.2.aH.length m,.slice g X.2.aC.length n,.slice l X.2.aB.length q] 42)).alloc (.cells #[.int .i64 X.1,.bool X.2.ok,.slice (some ⟨a,0,none⟩) X.2.aH.length m,.slice g X.2.aC.length n,.slice l X.2.aB.length q] 42)).rowIs t.heap.size 42 5 (fun i=>(#[.int .i64 X.1,.bool X.2.ok,.slice (some ⟨a,0,none⟩) X.2.aH.length m,.slice g X.2.aC.length n,.slice l X.2.aB.length q]:Array Value)[i]!)):=dP bK aX;have M:=aD R4.cA;have c4:=G.size;clear O bA aW aX aQ aN bK aY R4 C bM c0 G
   go_wp2_with (at_builtin; refine iN rfl _ _ 31 rfl w.heap.size 42 (.agg #[.int .i64 0,.bool false,.slice none 0 0,.slice none 0 0,.slice none 0 0]) 5 88 Tryz.underlying31 Tryz.fP rfl (by decide) (.slice a5 k c5) k xs rfl aM.out (some ⟨t.heap.size+1,0,none⟩) 1 1 [.int .i64 X.1,.bool X.2.ok,.slice (some ⟨a,0,none⟩) X.2.aH.length m,.slice g X.2.aC.length n,.slice l X.2.aB.length q] rfl rfl b8.out b7.out bO.out bP.out bS.out ?_)
   intro u5 w5 D s;obtain⟨a8,c8,rfl⟩:=zag D;have aR:But (fun c=>some c≠(Value.slice a5 k c5).ownBlock) ((t.alloc (.cells #[.int .i64 X.1,.bool X.2.ok,.slice (some ⟨a,0,none⟩) X.2.aH.length m,.slice g X.2.aC.length n,.slice l X.2.aB.length q] 42)).alloc (.cells #[.int .i64 X.1,.bool X.2.ok,.slice (some ⟨a,0,none⟩) X.2.aH.length m,.slice g X.2.aC.length n,.slice l X.2.aB.length q] 42)) w5:=⟨s.os,s.tape,s.output,s.size,fun c hc hk=>s.block c hc hk⟩
   have N:=aR.row b2.out fun e=>by
    have h1:=b.out.own;rw[B] at h1;have:=(gJ h1 e.symm).2.1;omega
   have y:=aR.row M.out fun e=>(gJ aM.out e.symm).2.2 _ _ _ _ M.out (by decide) rfl;have bN:=aD (b.out.next b0.out b3.out (by rw[B]; exact D) s);have d1:w5.cell? ⟨t.heap.size,1,none⟩=some (.bool X.2.ok):=N.cell (i:=1) (by omega);have d2:w5.cell? ⟨t.heap.size,2,none⟩=some (.slice (some ⟨a,0,none⟩) X.2.aH.length m):=N.cell (i:=2) (by omega);have d3:w5.cell? ⟨t.heap.size,3,none⟩=some (.slice g X.2.aC.length n):=N.cell (i:=3) (by omega);have d4:w5.cell? ⟨t.heap.size,4,none⟩=some (.slice l X.2.aB.length q):=N.cell (i:=4) (by omega);have x0:=y.cell (i:=0) (by omega);have x1:=y.cell (i:=1) (by omega);have x2:=y.cell (i:=2) (by omega);have x3:=y.cell (i:=3) (by omega);have k0:=y.frozen 0;have k1:=y.frozen 1;have k2:=y.frozen 2;have k3:=y.frozen 3;clear N y aR D s b3 b8 b7 aM b2 M b0 b;go_wp2;go_roundw
   case rel=>exact⟨k+1,_,_,_,_,_,by omega,by go_num,by rw[vO p F HX.out,← HL.out,zO,← Hf.out,← bR.out]; exact bN.out⟩
   case measure=>simp[intOf]; omega
  ·obtain rfl:k=r.length:=by omega
   have b:=aD H;clear H Z;go_wp2;go_ret;refine⟨_,rfl,b.out.below,?_⟩
   have e:iZ p r=L:=by rw[b6.out,HL.out,List.take_length,b4.out]
   rw[e];have h1:=b.out.own;rw[B] at h1;exact⟨xs,lo,by rw[B]; exact h1,b.out.kG,b.out.top,b.out.low,b.out.step⟩
end Go.Proofs.YtdhinkgjiapigaaGreatDoor

import Derived.Test.YtdhinkgjiapigaaGreatDoorSpec5
namespace Go.Proofs.YtdhinkgjiapigaaGreatDoor
open Go.Deep Go.RowKit
def rM (w:World) (b o:Nat):Nat:=(intOf ((w.cell? ⟨b,o,none⟩).getD (.bool false))).toNat
theorem JJ {W:World}{a N i:Nat}{f:Nat->Value}(k:W.rowIs a 44 N f) (b c d e h:Value) :
  ∃g,(((((W.setCell ⟨a,i*5,none⟩ b).setCell ⟨a,i*5+1,none⟩ c).setCell ⟨a,i*5+2,none⟩ d).setCell ⟨a,i*5+3,none⟩ e).setCell ⟨a,i*5+4,none⟩ h).rowIs a 44 N g ∧
   (g (i*5)=b∧g (i*5+1)=c∧g (i*5+2)=d∧g (i*5+3)=e∧g (i*5+4)=h)∧∀q,q<i*5∨i*5+5<=q->g q=f q:=by
 have j:=((((k.set (i*5) b).set (i*5+1) c).set (i*5+2) d).set (i*5+3) e).set (i*5+4) h;refine⟨_,j,⟨?_,?_,?_,?_,?_⟩,fun q l=>?_⟩
 ·rw[if_neg (by omega),if_neg (by omega),if_neg (by omega),if_neg (by omega),if_pos rfl]
 ·rw[if_neg (by omega),if_neg (by omega),if_neg (by omega),if_pos rfl]
 ·rw[if_neg (by omega),if_neg (by omega),if_pos rfl]
 ·rw[if_neg (by omega),if_pos rfl]
 ·rw[if_pos rfl]
 ·rw[if_neg (by omega),if_neg (by omega),if_neg (by omega),if_neg (by omega),if_neg (by omega)]
set_option maxHeartbeats 1000000 in
theorem As (j N i:Nat) (f:Nat->Value) (a:Option Addr) (n o:Nat) (w:World) (d:w.rowIs j 44 N f) (hi:i*5+5<=N) (r:f (i*5+2)=.slice a n o) (H:n<=1048576) :
  Calls Tryz.prog 85 #[.pointer (some ⟨j,i*5,none⟩)] w fun e w'=>e=.returned (.tuple #[])∧∀b,aX w w' j N i f b (jQ n):=by
 have D:=run_make_row' (P:=Tryz.prog) 36 4 (.bool false) 1 Tryz.underlying36 Tryz.bZ rfl .i64 .i64 n (by omega) (by omega);have I:=d.cell (i:=i*5) (by omega);have J:=d.cell (i:=i*5+1) (by omega);have G:=d.cell (i:=i*5+2) (by omega);have K:=d.cell (i:=i*5+3) (by omega);have L:=d.cell (i:=i*5+4) (by omega);have M:=d.frozen (i*5);have O:=d.frozen (i*5+1);have Q:=d.frozen (i*5+2);have R:=d.frozen (i*5+3);have S:=d.frozen (i*5+4);have C:=d.lt;rw[r] at G;have s:=aD d;clear d r;go_enter Tryz.func85,Tryz.ntmps85;go_wp2;refine bodyPost_end (v:=.tuple #[]) (by simp[results,Tryz.results85,go_sem]) rfl ⟨rfl,fun b=>?_⟩;obtain⟨g,B,⟨t,u,y,z,A⟩,p⟩:=JJ (i:=i) s.out (.int .i64 0) (.int .i64 0) (.slice (some ⟨w.heap.size,0,none⟩) n n) (.bool false) (.int .i64 0);have m:¬((fun c=>c≠j∧c≠b) j):=fun h=>h.1 rfl;refine⟨(((((((But.refl _ w).setCell m _).setCell m _).setCell m _).setCell m _).setCell m _).alloc _),g,w.heap.size,B.alloc _,⟨t,u,?_,z,A⟩,fun q _ E=>p q E,.inr (Nat.le_refl _)⟩;refine⟨fun _=>.bool false,n,n,by rw[y]; simp[jQ],?_,by simp[jQ],fun k x F=>?_⟩
 ·have:=World.rowIs_made (((((w.setCell ⟨j,i*5,none⟩ (.int .i64 0)).setCell ⟨j,i*5+1,none⟩ (.int .i64 0)).setCell ⟨j,i*5+2,none⟩ (.slice (some ⟨w.heap.size,0,none⟩) n n)).setCell ⟨j,i*5+3,none⟩ (.bool false)).setCell ⟨j,i*5+4,none⟩ (.int .i64 0)) (.bool false) n 4;simpa using this
 ·have l:(List.replicate n false)[k]?=some x:=F;rw[List.getElem?_replicate] at l;split at l
  ·cases l; rfl
  ·cases l
theorem mP {W W':World}{b o:Nat}{v:Value}(h:W.cell? ⟨b,o,none⟩=some v) (a:Below W.heap.size W W'):W'.cell? ⟨b,o,none⟩=some v:=
 (a.cell (p:=⟨b,o,none⟩) (World.block_lt_of_cell? _ _ h)).trans h
theorem cB.cells {w:World}{a N i:Nat}{f:Nat->Value}{h:aM}{b:Nat}(c:w.rowIs a 44 N f) (hi:i*5+5<=N) (p:cB w f i h b) :
  ∃cap,w.cell? ⟨a,i*5,none⟩=some (.int .i64 h.state)∧w.cell? ⟨a,i*5+1,none⟩=some (.int .i64 h.gone)∧w.cell? ⟨a,i*5+2,none⟩=some (.slice (some ⟨b,0,none⟩) h.aL.length cap)∧w.cell? ⟨a,i*5+3,none⟩=some (.bool h.aR)∧w.cell? ⟨a,i*5+4,none⟩=some (.int .i64 h.aN) ∧
   f (i*5+2)=.slice (some ⟨b,0,none⟩) h.aL.length cap∧∃g M,w.rowIs b 4 M g∧h.aL.length<=M∧∀(k:Nat) x,h.aL[k]?=some x->g k=.bool x:=by
 obtain⟨e,j,⟨g,M,cap,d,o,n,q⟩,l,m⟩:=p;refine⟨cap,?_,?_,?_,?_,?_,d,g,M,o,n,q⟩
 ·rw[c.cell (by omega),e]
 ·rw[c.cell (by omega),j]
 ·rw[c.cell (by omega),d]
 ·rw[c.cell (by omega),l]
 ·rw[c.cell (by omega),m]
theorem aX.after {w t u:World}{g N i:Nat}{f f1:Nat->Value}{b d:Nat}{y:aM}(e:But (fun c=>c≠g∧c≠b) w t) (z:∀q,q<N->q<i*5∨i*5+5<=q->f1 q=f q) (p:d=b∨w.heap.size<=d)
  (k:aX t u g N i f1 d y):aX w u g N i f b y:=by
 obtain⟨a,x,v,n,m,j,h⟩:=k;refine⟨?_,x,v,n,m,fun q o s=>(j q o s).trans (z q o s),?_⟩
 ·refine⟨a.os.trans e.os,a.tape.trans e.tape,a.output.trans e.output,Nat.le_trans e.size a.size,fun c r l=>?_⟩;exact (a.block c (Nat.lt_of_lt_of_le r e.size) ⟨l.1,by rcases p with q | q; rw[q]; exact l.2; omega⟩).trans (e.block c r l)
 ·have:=e.size;rcases h with q | q
  ·rw[q]; exact p
  ·exact .inr (by omega)
theorem De {w a e W:World}{d b:Nat}(i:Below w.heap.size w a) (f:But (fun c=>c≠b) a e) (g:But (fun c=>c≠d) e W):But (fun c=>c≠d∧c≠b) w W:=
 ((But.aG i).trans (f.mono fun _ _ h=>h.2)).trans (g.mono fun _ _ h=>h.1)
theorem Df {wr:World}{a N o b m:Nat}{c:Nat->Value}(e:wr.rowIs a 44 N c) (d:o<N):rM ((wr.drewN m).setCell ⟨a,o,none⟩ (.int .i64 ((b:Int)+1))) a o=b+1:=by
 unfold rM;rw[((eV e (fC _ m)).set o _).cell d,if_pos rfl];simp[intOf]
theorem I3 {w s p W:World}{d b N M i:Nat}{f f1 g:Nat->Value}{h:aM}{l:List Bool}{k:Nat}(v:Below w.heap.size w s) (u:But (fun c=>c≠b) s p) (r:But (fun c=>c≠d) p W) (o:d≠b)
  (z:p.rowIs b 4 M g) (x:h.aL.length<=M) (t:l.length=h.aL.length) (n:∀(j:Nat) y,l[j]?=some y->g j=.bool y) (C:W.rowIs d 44 N f1) (A:f1 (i*5+1)=.int .i64 k) (a:∀q,q≠i*5+1->f1 q=f q) (e:cB w f i h b) :
  aX w W d N i f b { h with aL:=l,gone:=k }:=by
 refine⟨De v u r,f1,b,C,⟨?_,A,?_,?_,?_⟩,fun q _ B=>a q (by omega),.inl rfl⟩
 ·rw[a _ (by omega)]; exact e.1
 ·rw[a _ (by omega)];obtain⟨-,-,⟨F,E,m,D,-,-,-⟩,-,-⟩:=e;exact⟨g,M,m,by rw[D,t],r.row z o.symm,by rw[t]; exact x,n⟩
 ·rw[a _ (by omega)]; exact e.2.2.2.1
 ·rw[a _ (by omega)]; exact e.2.2.2.2
set_option maxRecDepth 100000 in
set_option maxHeartbeats 2000000 in
theorem Gh (P:Nat->Prop) (v0 v1 Z u2 u3 u4:Value) (aH:List Bool) (secs:List Int) (h:aM) (bf n N i b:Nat) (f:Nat->Value) (w:World)
  (b8:Ints P w v0 secs) (b4:Bools P w v1 aH) (hP:∀c,P c->c<w.heap.size∧c≠n∧c≠b) (K:w.cell? ⟨bf,1,none⟩=some v1) (aF:bf≠n∧bf≠b)
  (hr:w.rowIs n 44 N f) (hi:i*5+5<=N) (U:cB w f i h b)
  (d:h.aL.length=secs.length) (bM:secs.length<=30) (F:∀s∈secs,0<=s∧s<aH.length) (_hol:aH.length<=1048576) (bO:0<=h.gone) (bP:h.gone<=secs.length) :
  Calls Tryz.prog 135 #[.agg #[v0,Z,u2,u3,u4],.pointer (some ⟨bf,0,none⟩),.pointer (some ⟨n,i*5,none⟩)] w fun e w'=>e=.returned (.tuple #[])∧aX w w' n N i f b (jV aH secs h):=by
 have T0:=cZ w 51 #[v0,Z,u2,u3,u4];obtain⟨a0,c0,rfl,b6⟩:=b8;obtain⟨a1,c1,rfl,b3⟩:=b4;have HS:=aD b6;have aS:=aD b3;have aQ:=aD F;have C:=aD hP;obtain⟨a6,q0,q1,q2,q3,q4,q5,g,M,hg,hM,b0⟩:=U.cells hr hi;clear b6 b3 F hP q0 q1 q3 q4 q5;go_enter Tryz.func135,Tryz.ntmps135;go_wp2;have bN:=hg.lt;have bT:=hr.lt;have S:n≠b:=iU hr hg (by decide);have B0:But (fun c=>c≠b) (w.alloc (.cells #[.slice a0 secs.length c0,Z,u2,u3,u4] 51)) (w.alloc (.cells #[.slice a0 secs.length c0,Z,u2,u3,u4] 51)):=But.refl _ _
 have aE:(w.alloc (.cells #[.slice a0 secs.length c0,Z,u2,u3,u4] 51)).cell? ⟨w.heap.size,0,none⟩=some (.slice a0 secs.length c0):=by simp
 have b5:=hr.alloc (.cells #[.slice a0 secs.length c0,Z,u2,u3,u4] 51);have a8:=hg.alloc (.cells #[.slice a0 secs.length c0,Z,u2,u3,u4] 51);have t:=mP K (bC w (.cells #[.slice a0 secs.length c0,Z,u2,u3,u4] 51));have aK:=aD aE;have H:=aD t;have bD:=aD b0;have aB:=aD q2;have bK:=aD K;have HO:=aD U;obtain⟨W0,a5⟩:∃W0,W0=w.alloc (.cells #[.slice a0 secs.length c0,Z,u2,u3,u4] 51):=⟨_,rfl⟩
 have bA:W0.heap.size=w.heap.size+1:=by rw[a5]; simp
 have bE:=aD bA;have aU:=aD a5;have D:Hid (∀(c o:Nat) (v:Value),w.cell? ⟨c,o,none⟩=some v->(w.alloc (.cells #[.slice a0 secs.length c0,Z,u2,u3,u4] 51)).cell? ⟨c,o,none⟩=some v):=fun c o v hv=>mP hv (bC w _);rw[← a5] at B0 b5 a8 t aE aK H T0 D ⊢;clear b0 q2 K aE t U a5 bA
 go_loopw [16] (fun z wr=>∃(k:Nat) (g':Nat->Value),k<=secs.length∧z=.int .i64 k∧But (fun c=>c≠b) W0 wr∧wr.rowIs b 4 M g'∧∀(j:Nat) x,h.aL[j]?=some x->g' j=.bool (if j<k then x || eA aH (secs.getD j 0) else x)) (fun z _=>secs.length-(intOf z).toNat)
 case atStart=>exact⟨0,g,Nat.zero_le _,rfl,B0,a8,fun j x hx=>by rw[if_neg (by omega)]; exact bD.out j x hx⟩
 case round=>
  obtain⟨k,g',hk,rfl,B1,a,a9⟩:=hrel;have A:=aD a9;clear a9 B0;by_cases aJ:k<secs.length
  ·obtain h0 | ⟨bs,os,rfl,a4,O⟩:=HS.out
   ·omega
   obtain⟨s,G⟩:=bG secs (aD rfl) aJ;have F:=aQ.out s (List.mem_of_getElem? G);obtain⟨b1,b2⟩:=F;obtain h0 | ⟨bc,oc,rfl,a3,L⟩:=aS.out
   ·omega
   obtain⟨o,U⟩:∃o,aH[s.toNat]?=some o:=⟨aH[s.toNat]'(by omega),List.getElem?_eq_getElem _⟩;obtain⟨y,Y⟩:=bG h.aL (aD d) aJ;have s0:=B1.cell (D.out _ _ _ (O k aJ s G)) (C.out bs a4).2.2;have o0:=B1.cell (D.out _ _ _ (L s.toNat (by omega) o U)) (C.out bc a3).2.2;have x0:=B1.cell H.out aF.2;have p2:=B1.cell (D.out _ _ _ aB.out) S;have gk:=a.cell (i:=k) (by omega);have fk:=a.frozen k
   have bF:(k:Int)<(h.aL.length:Int):=by omega
   have Hs:=aD G;have r:=aD U;have Hy:=aD Y;clear G U Y O L
   cases o
   ·go_wp2;go_roundw
    case rel=>exact⟨k+1,g',by omega,by go_num,B1,a,fun j x hx=>by
     rw[A.out j x hx];by_cases e:j=k
     ·subst e;rw[if_neg (by omega),if_pos (by omega),List.getD_eq_getElem?_getD,Hs.out];simp[uX r.out]
     ·by_cases e2:j<k
      ·rw[if_pos e2,if_pos (by omega)]
      ·rw[if_neg e2,if_neg (by omega)]⟩
    case measure=>simp[intOf]; omega
   ·go_wp2;go_roundw
    case rel=>exact⟨k+1,_,by omega,by go_num,B1.setCell (fun z=>z rfl) _,a.set k _,fun j x hx=>by
     by_cases e:j=k
     ·subst e;rw[if_pos rfl,if_pos (by omega),List.getD_eq_getElem?_getD,Hs.out];simp[uX r.out]
     ·rw[if_neg e,A.out j x hx];by_cases e2:j<k
      ·rw[if_pos e2,if_pos (by omega)]
      ·rw[if_neg e2,if_neg (by omega)]⟩
    case measure=>simp[intOf]; omega
  ·have aV:∀(j:Nat) y,(dZ aH secs h.aL)[j]?=some y->g' j=.bool y:=fun j y Y=>by
    have hj:j<secs.length:=by
     have:=(List.getElem?_eq_some_iff.1 Y).1;rw[rK d] at this;exact this
    obtain⟨z,hz⟩:=bG h.aL (aD d) hj;obtain⟨s,G⟩:=bG secs (aD rfl) hj;rw[xN G hz] at Y
    cases Y
    rw[A.out j z hz,if_pos (by omega),List.getD_eq_getElem?_getD,G];rfl
   have a2:=aD aV;have Q:(dZ aH secs h.aL).length=secs.length:=rK d;obtain⟨E,J⟩:∃E,E=dZ aH secs h.aL:=⟨_,rfl⟩;have aO:=aD J;rw[← J] at a2 Q;have aT:=B1.row b5 S;have B:=aD B1;have aP:=aD aT;clear aV A J B1 aT;rename World=>wo;go_wp2
   go_loopw [] (fun wr=>∃(k:Nat) (X:Nat->Value),k<=secs.length∧eH aH secs E h.gone.toNat=eH aH secs E k∧But (fun c=>c≠n) wo wr∧wr.rowIs n 44 N X∧X (i*5+1)=.int .i64 k∧∀q,q≠i*5+1->X q=f q) (fun wr=>secs.length-rM wr n (i*5+1))
   case atStart=>
    exact⟨h.gone.toNat,f,by omega,rfl,But.refl _ _,aP.out,by rw[HO.out.2.1]; congr 1; omega,fun _ _=>rfl⟩
   case round=>
    obtain⟨l,X,bQ,aZ,B2,p,aG,aY⟩:=hrel;have aA:=aD aZ;have I:=aD aY;have bB:=aD aG;have p1:=p.cell (i:=i*5+1) (by omega);rw[aG] at p1;have bL:=p.frozen (i*5+1)
    have aW:rM wr n (i*5+1)=l:=by simp[rM,p1,intOf]
    have aN:=aD aW;clear aZ aY aG aW;by_cases R:l<secs.length
    ·obtain h0 | ⟨bs,os,rfl,a4,O⟩:=HS.out
     ·omega
     obtain⟨s,G⟩:=bG secs (aD rfl) R;have F:=aQ.out s (List.mem_of_getElem? G);obtain⟨b1,b2⟩:=F;obtain h0 | ⟨bc,oc,rfl,a3,L⟩:=aS.out
     ·omega
     obtain⟨o,U⟩:∃o,aH[s.toNat]?=some o:=⟨aH[s.toNat]'(by omega),List.getElem?_eq_getElem _⟩;obtain⟨y,Y⟩:=bG E (aD Q) R;have s0:=B2.cell (B.out.cell (D.out _ _ _ (O l R s G)) (C.out bs a4).2.2) (C.out bs a4).2.1;have o0:=B2.cell (B.out.cell (D.out _ _ _ (L s.toNat (by omega) o U)) (C.out bc a3).2.2) (C.out bc a3).2.1;have x0:=B2.cell (B.out.cell H.out aF.2) aF.1;have x1:=B2.cell (B.out.cell aK.out (by have:=bE.out; omega)) (by omega);have p2:=p.cell (i:=i*5+2) (by omega);have u:=aB.out;rw[hr.cell (by omega)] at u;rw[I.out _ (by omega),Option.some.inj u] at p2;have gk:=(B2.row a S.symm).cell (i:=l) (by omega);rw[a2.out l y Y] at gk
     have bF:(l:Int)<(h.aL.length:Int):=by omega
     have bR:(l:Int)<(secs.length:Int):=by omega
     have V:nY aH secs E l=false->∀ {W:World},Below wr.heap.size wr W->aX w W n N i f b (jV aH secs h):=fun bJ W hW=>by
      have aI:eH aH secs E h.gone.toNat=l:=aA.out.trans (Ac (by omega) bJ);unfold jV;rw[← aO.out,aI,if_neg (by omega)];exact I3 (by rw[aU.out]; exact bC _ _) B.out (B2.call hW) S a hM (Q.trans d.symm) a2.out (eV p hW) bB.out I.out HO.out
     have T:nY aH secs E l=true->∀m:Nat,∃(k:Nat) (X:Nat->Value),k<=secs.length∧eH aH secs E h.gone.toNat=eH aH secs E k∧But (fun c=>c≠n) wo ((wr.drewN m).setCell ⟨n,i*5+1,none⟩ (.int .i64 ((l:Int)+1)))∧((wr.drewN m).setCell ⟨n,i*5+1,none⟩ (.int .i64 ((l:Int)+1))).rowIs n 44 N X∧X (i*5+1)=.int .i64 k∧∀q,q≠i*5+1->X q=f q:=fun b9 m=>
      ⟨l+1,_,by omega,aA.out.trans (Ce (by omega) b9),(B2.call (fC _ _)).setCell (fun z=>z rfl) _,(eV p (fC _ m)).set _ _,by rw[if_pos rfl]; go_num,fun q hq=>by rw[if_neg hq]; exact I.out q hq⟩
     have aR:=aD T;clear T;have aC:=aD V;have Hs:=aD G;have r:=aD (uX U);have Hy:=aD Y;clear G U Y O L u V
     cases y
     ·go_wp2
      go_quiet (fail)
      go_wp2;refine bodyPost_ret (v:=.tuple #[]) (by simp[results,Tryz.results135,go_sem]) rfl ⟨rfl,aC.out ?_ (fC _ _)⟩;rw[vN Hs.out Hy.out]; rfl
     ·cases o
      ·by_cases bH:l+1<secs.length
       ·obtain⟨z,hz⟩:=bG E (aD Q) bH;have gz:=(B2.row a S.symm).cell (i:=l+1) (by omega);rw[a2.out _ z hz] at gz;have Hz:=aD hz
        have bI:(l:Int)<(secs.length:Int)-1:=by omega
        have bS:(l:Int)+1<(h.aL.length:Int):=by omega
        clear hz
        cases z
        ·go_wp2
         go_quiet (fail)
         go_wp2;refine bodyPost_ret (v:=.tuple #[]) (by simp[results,Tryz.results135,go_sem]) rfl ⟨rfl,aC.out ?_ (fC _ _)⟩;rw[zB Hs.out Hy.out Hz.out,r.out]; rfl
        ·go_wp2
         go_quiet (fail)
         go_wp2;go_roundw
         case rel=>exact aR.out (by rw[zB Hs.out Hy.out Hz.out,r.out]; rfl) _
         case measure=>rw[aN.out,Df p (by omega)]; omega
       ·have bI:decide ((l:Int)<(secs.length:Int)-1)=false:=by simp; omega
        go_wp2
        go_quiet (fail)
        go_wp2;go_roundw
        case rel=>exact aR.out (by rw[DK Hs.out Hy.out (by omega),r.out]; rfl) _
        case measure=>rw[aN.out,Df p (by omega)]; omega
      ·go_wp2
       go_quiet (fail)
       go_wp2;refine bodyPost_ret (v:=.tuple #[]) (by simp[results,Tryz.results135,go_sem]) rfl ⟨rfl,aC.out ?_ (fC _ _)⟩;rw[vN Hs.out Hy.out,r.out]; rfl
    ·have u:=aB.out;rw[hr.cell (by omega)] at u
     have p2:X (i*5+2)=.slice (some ⟨b,0,none⟩) h.aL.length a6:=by rw[I.out _ (by omega)]; exact Option.some.inj u
     have P2:=aD p2;clear u p2
     go_wp2_with fail
     refine (As n N i X _ h.aL.length a6 wr p hi P2.out (by omega)).mono ?_;rintro e w3 ⟨rfl,b7⟩
     have a7:aX w w3 n N i f b (jV aH secs h):=by
      have aI:eH aH secs E h.gone.toNat=E.length:=(aA.out.trans (Ct (by omega))).trans (by omega);unfold jV;rw[← aO.out,aI,if_pos rfl,Q,← d];exact aX.after (De (by rw[aU.out]; exact bC _ _) B.out B2) (fun q _ hq=>I.out q (by omega)) (.inl rfl) (b7 b)
     have HF:=aD a7;clear a7 b7;go_wp2;exact bodyPost_end (v:=.tuple #[]) (by simp[results,Tryz.results135,go_sem]) rfl ⟨rfl,HF.out⟩
def vY (aH:List Bool) (w:aT) (h:aM):aM:=if h.state≠4∧eA aH (w.aA.getD 0 0)=true then { h with state:=4,aN:=0 } else h
def tX (aH:List Bool) (aC:List (Int×Int)) (w:aT) (h:aM):aM:=
 if h.state=1∨h.state=2 then (if jT aH aC w=true then { h with state:=2,aR:=true } else { h with state:=1 }) else h
def zG (aH:List Bool) (w:aT) (h:aM):aM:=if h.state=4 then jV aH w.aA h else h
def eC (aH:List Bool) (aC:List (Int×Int)) (w:aT) (h:aM):aM:=
 if h.state=0 then h else zG aH w (tX aH aC w (vY aH w h))
def kN (aB:List aT) (d:aF):aF:={ d with aB:=List.zipWith (eC d.aH d.aC) aB d.aB }
theorem tG {aH aC w}{h:aM}(e:h.state=0):eC aH aC w h=h:=by unfold eC; rw[if_pos e]
theorem FJ {aH w}{h:aM}(a:h.state≠4) (b:eA aH (w.aA.getD 0 0)=true):vY aH w h={ h with state:=4,aN:=0 }:=if_pos ⟨a,b⟩
theorem Ak {aH w}{h:aM}(a:eA aH (w.aA.getD 0 0)=false):vY aH w h=h:=if_neg fun q=>by rw[a] at q; exact Bool.noConfusion q.2
theorem Ie {aH w}{h:aM}(a:h.state=4):vY aH w h=h:=if_neg fun q=>q.1 a
theorem AW {aH aC w}{h:aM}(a:h.state≠1) (b:h.state≠2):tX aH aC w h=h:=if_neg fun q=>q.elim a b
theorem Gp {aH aC w}{h:aM}(e:h.state=1∨h.state=2) (a:jT aH aC w=true):tX aH aC w h={ h with state:=2,aR:=true }:=by unfold tX; rw[if_pos e,if_pos a]
theorem Gn {aH aC w}{h:aM}(e:h.state=1∨h.state=2) (a:jT aH aC w=false):tX aH aC w h={ h with state:=1 }:=by unfold tX; rw[if_pos e,if_neg (by rw[a]; decide)]
theorem Dt {aH w}{h:aM}(e:h.state=4):zG aH w h=jV aH w.aA h:=if_pos e
theorem BJ {aH w}{h:aM}(e:h.state≠4):zG aH w h=h:=if_neg e
theorem xL {aH aC w}{h:aM}(e:h.state≠0) (a:h.state≠4) (b:eA aH (w.aA.getD 0 0)=true):eC aH aC w h=jV aH w.aA { h with state:=4,aN:=0 }:=by
 unfold eC;rw[if_neg e,FJ a b,AW (by simp) (by simp),Dt rfl]
theorem vH {aH aC w}{h:aM}(a:h.state=4):eC aH aC w h=jV aH w.aA h:=by
 unfold eC;rw[if_neg (by omega),Ie a,AW (by omega) (by omega),Dt a]
theorem xF {aH aC w}{h:aM}(e:h.state=1∨h.state=2) (a:eA aH (w.aA.getD 0 0)=false) (b:jT aH aC w=true):eC aH aC w h={ h with state:=2,aR:=true }:=by
 unfold eC;rw[if_neg (by omega),Ak a,Gp e b,BJ (by simp)]
theorem xE {aH aC w}{h:aM}(e:h.state=1∨h.state=2) (a:eA aH (w.aA.getD 0 0)=false) (b:jT aH aC w=false):eC aH aC w h={ h with state:=1 }:=by
 unfold eC;rw[if_neg (by omega),Ak a,Gn e b,BJ (by simp)]
theorem yN {aH aC w}{h:aM}(c:h.state≠4) (a:h.state≠1) (b:h.state≠2) (d:eA aH (w.aA.getD 0 0)=false):eC aH aC w h=h:=by
 by_cases e:h.state=0
 ·exact tG e
 ·unfold eC;rw[if_neg e,Ak d,AW a b,BJ c]
def iS (P:Nat->Prop) (W0:World) (v1 v2 v3:Value) (d:aF) (aB:List aT) (bo bp bw:Nat) (i:Nat) (W:World):Prop:=
 ∃(cur:List aM) (bb:Nat->Nat),cur.length=d.aB.length∧(∀(j:Nat) x h,j<i->aB[j]?=some x->d.aB[j]?=some h->cur[j]?=some (eC d.aH d.aC x h))∧(∀j:Nat,i<=j->cur[j]?=d.aB[j]?) ∧
  aP (fun c=>P c∨W0.heap.size<=c) W v1 v2 v3 { d with aB:=cur } bo bp bw bb∧But (fun c=>¬P c) W0 W
theorem iS.next {P:Nat->Prop}{b:World}{v1 v2 v3:Value}{d:aF}{aB:List aT}{t u k:Nat}{i:Nat}{W W':World}{cur:List aM}{bb:Nat->Nat}{x:aT}{h:aM}{f:Nat->Value}{N:Nat}
  (E:cur.length=d.aB.length) (A:∀(j:Nat) x h,j<i->aB[j]?=some x->d.aB[j]?=some h->cur[j]?=some (eC d.aH d.aC x h)) (B:∀j:Nat,i<=j->cur[j]?=d.aB[j]?)
  (m:aP (fun c=>P c∨b.heap.size<=c) W v1 v2 v3 { d with aB:=cur } t u k bb) (a:But (fun c=>¬P c) b W) (hi:i<d.aB.length) (H:aB[i]?=some x) (C:d.aB[i]?=some h)
  (F:W.rowIs k 44 N f) (G:aX W W' k N i f (bb i) (eC d.aH d.aC x h)):iS P b v1 v2 v3 d aB t u k (i+1) W':=by
 obtain⟨l,n,e⟩:=m.step (Q:=fun c=>P c∨b.heap.size<=c) (i:=i) (by show i<cur.length; omega) (x:=eC d.aH d.aC x h) (w':=W')
  (fun J I r _ _=>G.from F r) (fun _ q=>q) (fun c q _=>.inr (Nat.le_trans a.size q))
 refine⟨cur.set i (eC d.aH d.aC x h),l,by rw[List.length_set]; exact E,fun j y g D s o=>?_,fun j D=>?_,n,?_⟩
 ·by_cases v:j=i
  ·subst v;rw[H] at s; rw[C] at o
   cases s; cases o
   rw[List.getElem?_set_self (by omega)]
  ·rw[List.getElem?_set_ne (Ne.symm v)];exact A j y g (by omega) s o
 ·rw[List.getElem?_set_ne (by omega)];exact B j (by omega)
 ·refine⟨e.os.trans a.os,e.tape.trans a.tape,e.output.trans a.output,Nat.le_trans a.size e.size,fun c w p=>?_⟩;refine (e.block c (Nat.lt_of_lt_of_le w a.size) ⟨fun q=>?_,fun q=>?_⟩).trans (a.block c w p)
  ·rcases m.pw (by show cur.length≠0; omega) with z | z
   ·exact p (q ▸ z)
   ·omega
  ·rcases m.pb i (by show i<cur.length; omega) with z | z
   ·exact p (q ▸ z)
   ·omega
theorem iS.end {P:Nat->Prop}{a:World}{v1 v2 v3:Value}{d:aF}{aB:List aT}{b e f:Nat}{n:Nat}{W:World}(h:iS P a v1 v2 v3 d aB b e f n W) (p:d.aB.length=aB.length) (r:n=aB.length) :
  ∃bb,aP (fun c=>P c∨a.heap.size<=c) W v1 v2 v3 (kN aB d) b e f bb∧But (fun c=>¬P c) a W:=by
 obtain⟨cur,bb,q,m,-,g,o⟩:=h
 have:cur=List.zipWith (eC d.aH d.aC) aB d.aB:=by
  apply List.ext_getElem?;intro j;rw[List.getElem?_zipWith];by_cases i:j<aB.length
  ·obtain⟨x,k⟩:=bG aB (aD rfl) i;obtain⟨y,l⟩:=bG d.aB (aD p) i;rw[m j x y (by omega) k l,k,l]
  ·rw[List.getElem?_eq_none (by omega),List.getElem?_eq_none (by omega:aB.length<=j)]
 rw[this] at g;exact⟨bb,g,o⟩
def Fits (aB:List aT) (d:aF):Prop:=
 d.aB.length=aB.length∧aB.length<=100∧d.aH.length<=1048576∧d.aC.length<=1048576 ∧
 ∀(i:Nat) x h,aB[i]?=some x->d.aB[i]?=some h->h.aL.length=x.aA.length∧0<x.aA.length∧x.Small 30∧0<=h.gone∧h.gone<=x.aA.length ∧
  (∀y,(y∈x.aQ∨y∈x.aJ)->0<=y.1∧y.1<d.aC.length)∧∀s,(s∈x.aA∨s∈x.over)->0<=s∧s<d.aH.length
set_option maxRecDepth 100000 in
set_option maxHeartbeats 4000000 in
theorem qW (P Q:Nat->Prop) (n hd ok p1 p2 p3 v1 v2 v3:Value) (d:aF) (aB:List aT) (Y bp k bf:Nat) (bb:Nat->Nat) (w:World)
  (hp:eY Q w p2 aB) (hQ:∀c,Q c->c<w.heap.size∧¬P c) (bK:w.cell? ⟨bf,0,none⟩=some ok) (bY:w.cell? ⟨bf,1,none⟩=some v1) (bZ:w.cell? ⟨bf,2,none⟩=some v2) (c1:w.cell? ⟨bf,3,none⟩=some v3) (aS:¬P bf)
  (hf:aP P w v1 v2 v3 d Y bp k bb) (a5:Fits aB d) (bW:∀c,P c->c<w.heap.size) :
  Calls Tryz.prog 86 #[.agg #[n,p1,p2,p3,hd],.pointer (some ⟨bf,0,none⟩)] w fun e w'=>e=.returned (.tuple #[])∧∃bb',aP (fun c=>P c∨New w w' c) w' v1 v2 v3 (kN aB d) Y bp k bb'∧But (fun c=>¬P c) w w':=by
 obtain⟨bB,bV,c7,cU,a5⟩:=a5;have bS:=aD a5;obtain⟨a2,k2,rfl,-⟩:=id hp;have HP:=aD hp;have HQ:=aD hQ;obtain⟨g1,N1,q1,rfl,-⟩:=id hf.aH;obtain⟨a4,q2,rfl,-⟩:=id hf.aC;obtain⟨a3,q3,rfl,-⟩:=id hf.aB;have V:=bC w (.cells #[n,p1,.slice a2 aB.length k2,p3,hd] 27);have T0:=cZ w 27 #[n,p1,.slice a2 aB.length k2,p3,hd];have dC:=World.block_lt_of_cell? _ _ bK;have d0:=bP bK V;have d1:=bP bY V;have d2:=bP bZ V;have d3:=bP c1 V
 have b2:iS P (w.alloc (.cells #[n,p1,.slice a2 aB.length k2,p3,hd] 27)) (.slice (some ⟨Y,0,none⟩) d.aH.length q1) (.slice a4 d.aC.length q2) (.slice a3 d.aB.length q3) d aB Y bp k 0 (w.alloc (.cells #[n,p1,.slice a2 aB.length k2,p3,hd] 27)):=
  ⟨d.aB,bb,rfl,fun j _ _ hj=>by omega,fun _ _=>rfl,hf.but (K:=fun _=>True) (But.aG V) (fun _ _=>trivial) fun _ z=>.inl z,But.refl _ _⟩
 have bT:=aD b2;have HF:=aD hf;clear a5 hp hQ b2 hf;go_enter Tryz.func86,Tryz.ntmps86;go_wp2;obtain⟨W0,S⟩:∃W0,W0=w.alloc (.cells #[n,p1,.slice a2 aB.length k2,p3,hd] 27):=⟨_,rfl⟩
 have e0:W0.cell? ⟨w.heap.size,0,none⟩=some n:=by rw[S]; exact T0.c 0 0 rfl rfl
 have e1:W0.cell? ⟨w.heap.size,1,none⟩=some p1:=by rw[S]; exact T0.c 0 1 rfl rfl
 have e2:W0.cell? ⟨w.heap.size,2,none⟩=some (.slice a2 aB.length k2):=by rw[S]; exact T0.c 0 2 rfl rfl
 have e3:W0.cell? ⟨w.heap.size,3,none⟩=some p3:=by rw[S]; exact T0.c 0 3 rfl rfl
 have e4:W0.cell? ⟨w.heap.size,4,none⟩=some hd:=by rw[S]; exact T0.c 0 4 rfl rfl
 have hz:W0.heap.size=w.heap.size+1:=by rw[S]; simp
 have b7:=aD (And.intro d0 (And.intro d1 (And.intro d2 (And.intro d3 (And.intro e0 (And.intro e1 (And.intro e2 (And.intro e3 e4))))))));have a9:=aD V;have HZ:=aD hz;have a7:Hid (¬P w.heap.size):=fun z=>absurd (bW _ z) (Nat.lt_irrefl _);rw[← S] at bT a9 b7 ⊢;clear d0 d1 d2 d3 e0 e1 e2 e3 e4 V T0 bK bY bZ c1 S hz bW
 go_loopw [12] (fun z wr=>∃(i:Nat),i<=aB.length∧z=.int .i64 i∧iS P W0 (.slice (some ⟨Y,0,none⟩) d.aH.length q1) (.slice a4 d.aC.length q2) (.slice a3 d.aB.length q3) d aB Y bp k i wr) (fun z _=>aB.length-(intOf z).toNat)
 case atStart=>exact⟨0,by omega,rfl,bT.out⟩
 case round=>
  obtain⟨i,hi,rfl,b1⟩:=hrel;by_cases bM:i<aB.length
  ·obtain⟨x,hx⟩:=bG aB (aD rfl) bM;obtain⟨h,hh⟩:=bG d.aB (aD bB) bM;obtain⟨cur,t,cR,c8,bO,O,m⟩:=b1
   have dE:(i:Int)<(d.aB.length:Int):=by omega
   have dF:(i:Int)<(aB.length:Int):=by omega
   obtain⟨m0,m1,m2,m3,m4,m5,m6,m7,m8⟩:=b7.out;replace m0:=m.cell m0 aS;replace m1:=m.cell m1 aS;replace m2:=m.cell m2 aS;replace m3:=m.cell m3 aS;replace m4:=m.cell m4 a7.out;replace m5:=m.cell m5 a7.out;replace m6:=m.cell m6 a7.out;replace m7:=m.cell m7 a7.out;replace m8:=m.cell m8 a7.out;obtain⟨cL,bE,cA,cO,cP,cS,bR⟩:=bS.out i x h hx hh;have b9:cur[i]?=some h:=(bO i (Nat.le_refl _)).trans hh
   obtain⟨f,N,cJ,hr,hN,b6⟩:∃f N,a3=some ⟨k,0,none⟩∧wr.rowIs k 44 N f∧cur.length*5<=N∧∀(j:Nat) y,cur[j]?=some y->cB wr f j y (t j):=by
    obtain⟨a,cH,hv,h0 | ⟨ha,f,N,hr,hN,b6⟩⟩:=O.aB
    ·have dP:cur.length=0:=h0;omega
    ·injection hv with ea _ _;exact⟨f,N,ea.trans ha,hr,hN,b6⟩
   subst cJ;have ho:=b6 i h b9
   have c3:i*5+5<=N:=by omega
   have a1:∀c,c<W0.heap.size->¬P c->c≠k∧c≠t i:=fun c l hk=>by
    refine⟨fun q=>?_,fun q=>?_⟩
    ·rcases O.pw (by show cur.length≠0; omega) with z | z
     ·exact hk (q ▸ z)
     ·omega
    ·rcases O.pb i (by show i<cur.length; omega) with z | z
     ·exact hk (q ▸ z)
     ·omega
   have aU:Y≠k∧Y≠t i:=by
    obtain⟨g,M,c,-,hg,-⟩:=O.aH;exact⟨iU hg hr (by decide),fun q=>O.off i (by show i<cur.length; omega) q.symm⟩
   have u:=a1 bf (by have:=HZ.out; omega) aS;have J:=a1 w.heap.size (by have:=HZ.out; omega) a7.out
   have c9:Same Q w wr:=fun c l o=>by
    have h1:=HQ.out c l;exact (World.cell?_of_block (w:=W0) (m.block c (by have:=HZ.out; omega) h1.2)).trans (a9.out.cell (p:=⟨c,o,none⟩) h1.1)
   obtain⟨v0,v1,v2,v3,v4,bq,oq,cD,cI,r0,r1,r2,r3,r4⟩:∃v0 v1 v2 v3 v4 bq oq,cC Q wr v0 v1 v2 v3 v4 x∧a2=some ⟨bq,oq,none⟩∧wr.cell? ⟨bq,oq+i*5,none⟩=some v0∧wr.cell? ⟨bq,oq+i*5+1,none⟩=some v1∧wr.cell? ⟨bq,oq+i*5+2,none⟩=some v2∧wr.cell? ⟨bq,oq+i*5+3,none⟩=some v3∧wr.cell? ⟨bq,oq+i*5+4,none⟩=some v4:=by
    obtain⟨a,cH,hv,h0 | ⟨bq,oq,ha,dQ,cM⟩⟩:=HP.out.keep c9 fun _ z=>z
    ·omega
    ·cases hv
     obtain⟨v0,v1,v2,v3,v4,hw,l⟩:=cM i bM x hx;exact⟨v0,v1,v2,v3,v4,bq,oq,hw,ha,l⟩
   subst cI;obtain⟨cE,cX,cY,d4,d5⟩:=id cD;obtain⟨s,hs⟩:=bG x.aA (aD rfl) bE;obtain⟨dH,dI⟩:=bR s (.inl (List.mem_of_getElem? hs));obtain⟨o,c6⟩:∃o,d.aH[s.toNat]?=some o:=⟨d.aH[s.toNat]'(by omega),List.getElem?_eq_getElem _⟩
   have c4:eA d.aH (x.aA.getD 0 0)=o:=by rw[List.getD_eq_getElem?_getD,hs]; exact uX c6
   have aO:=O.aH;obtain⟨a0,c0,rfl,bX⟩:=id cE;obtain⟨B,F,rfl,-⟩:=id cX;obtain⟨C,G,rfl,-⟩:=id cY;obtain⟨D,H,rfl,-⟩:=id d4;obtain⟨E,I,rfl,-⟩:=id d5;obtain bX | ⟨bs,os,rfl,dR,c2⟩:=bX
   ·omega
   have s0:=c2 0 bE s hs
   have o0:wr.cell? ⟨Y,s.toNat,none⟩=some (.bool o):=by
    obtain⟨g,M,c,hv,hg,hM,cQ⟩:=aO;rw[hg.cell (by have:d.aH.length<=M:=hM; omega),cQ _ _ c6]
   obtain⟨dB,t0,t1,t2,t3,t4,-,-⟩:=ho.cells hr c3;have r:=bC wr (.cells #[.slice (some ⟨bs,os,none⟩) x.aA.length c0,.slice B x.aQ.length F,.slice C x.aJ.length G,.slice D x.over.length H,.slice E x.aW.length I] 51);have TW:=cZ wr 51 #[.slice (some ⟨bs,os,none⟩) x.aA.length c0,.slice B x.aQ.length F,.slice C x.aJ.length G,.slice D x.over.length H,.slice E x.aW.length I];have bN:=hr.alloc (.cells #[.slice (some ⟨bs,os,none⟩) x.aA.length c0,.slice B x.aQ.length F,.slice C x.aJ.length G,.slice D x.over.length H,.slice E x.aW.length I] 51);have dS:=ho.but (K:=fun _=>True) (But.aG r) trivial
   have bU:∀W',aX wr W' k N i f (t i) (eC d.aH d.aC x h)->iS P W0 (.slice (some ⟨Y,0,none⟩) d.aH.length q1) (.slice a4 d.aC.length q2) (.slice (some ⟨k,0,none⟩) d.aB.length q3) d aB Y bp k (i+1) W':=
    fun W' hs=>iS.next cR c8 bO O m (by omega) hx hh hr hs
   have y0:=bP t0 r;have y1:=bP t1 r;have y2:=bP t2 r;have y3:=bP t3 r;have y4:=bP t4 r;have dM:=bN.frozen (i*5);have dN:=bN.frozen (i*5+3);have dO:=bN.frozen (i*5+4);have n0:=bP m0 r;have n1:=bP m1 r;have n2:=bP m2 r;have n3:=bP m3 r;have n4:=bP m4 r;have n5:=bP m5 r;have n6:=bP m6 r;have n7:=bP m7 r;have n8:=bP m8 r
   have cV:(0:Int)<(x.aA.length:Int):=by omega
   rw[Nat.add_zero] at s0;have so:=bP s0 r;have oo:=bP o0 r
   have bI:∀(W:World) (f':Nat->Value) (h':aM),But (fun c=>c≠k) wr W->W.rowIs k 44 N f'->cB W f' i h' (t i)->h'.aL=h.aL->h'.gone=h.gone ->
     Calls Tryz.prog 135 #[.agg #[.slice (some ⟨bs,os,none⟩) x.aA.length c0,.slice B x.aQ.length F,.slice C x.aJ.length G,.slice D x.over.length H,.slice E x.aW.length I],.pointer (some ⟨bf,0,none⟩),.pointer (some ⟨k,i*5,none⟩)] W fun e w'=>e=.returned (.tuple #[])∧aX W w' k N i f' (t i) (jV d.aH x.aA h'):=fun W f' h' hB cW cT eb eg=>by
    have b0:∀ {R:Nat->Prop},(∀c,R c->c<wr.heap.size∧c≠k)->Same R wr W:=fun hR=>hB.same fun c l=>hR c l;refine Gh (fun c=>c<wr.heap.size∧c≠k∧c≠t i) _ (.slice (some ⟨Y,0,none⟩) d.aH.length q1) _ _ _ _ d.aH x.aA h' bf k N i (t i) f' W ?_ ?_ (fun c l=>⟨Nat.lt_of_lt_of_le l.1 hB.size,l.2⟩) (hB.cell m1 u.1) u cW c3 cT (by rw[eb]; exact cL) cA.1 (fun s hs=>bR s (.inl hs)) c7 (by rw[eg]; exact cO) (by rw[eg]; exact cP)
    ·exact (cE.keep (hU _ _) (Q:=fun c=>c<wr.heap.size∧c≠k∧c≠t i) fun c l=>⟨by have:=(HQ.out c l).1; have:=a9.out.size; have:=m.size; omega,a1 c (by have:=(HQ.out c l).1; have:=HZ.out; omega) (HQ.out c l).2⟩).keep (b0 fun c l=>⟨l.1,l.2.1⟩) fun _ z=>z
    ·exact (aV.read (P:=fun c=>c<wr.heap.size∧c≠k∧c≠t i) aO ⟨aO.lt,aU⟩).keep (b0 fun c l=>⟨l.1,l.2.1⟩) fun _ z=>z
   have b8:=aD bI;clear bI;have a6:=aD bU;have HX:=aD hx;have b4:=aD c4;clear c8 bO hx hh c2 c4 bU b9 b6;by_cases z0:h.state=0
   ·have d6:(h.state == 0)=true:=by simp[z0]
    have Z0:=aD z0;clear z0;go_wp2;go_roundw
    case rel=>exact⟨i+1,by omega,by go_num,a6.out _ (by rw[tG Z0.out]; exact aX.none hr ho r)⟩
    case measure=>simp[intOf]; omega
   have d6:(h.state == 0)=false:=by simp[z0]
   have Z0:=aD z0;clear z0;have dD:k≠wr.heap.size:=Nat.ne_of_lt hr.lt;have dJ:=u.1.symm;have dL:=J.1.symm;have dK:=aU.1.symm;by_cases z4:h.state=4
   ·have d9:(h.state != 4)=false:=by simp[z4]
    have cF:(h.state == 4)=true:=by simp[z4]
    have d7:(h.state == 1)=false:=by simp[z4]
    have d8:(h.state == 2)=false:=by simp[z4]
    have Z4:=aD z4;clear z4;go_wp2
    go_quiet (fail)
    have BQ:=r.trans ((fC (wr.alloc (.cells #[.slice (some ⟨bs,os,none⟩) x.aA.length c0,.slice B x.aQ.length F,.slice C x.aJ.length G,.slice D x.over.length H,.slice E x.aW.length I] 51)) nq).mono r.size)
    go_wp2_with fail
    refine (b8.out _ f h (But.aG BQ) (eV hr BQ) (ho.but (K:=fun _=>True) (But.aG BQ) trivial) rfl rfl).mono ?_;rintro e w3 ⟨rfl,aZ⟩;have hn:=a6.out w3 (by rw[vH Z4.out]; exact aX.after (But.aG BQ) (fun _ _ _=>rfl) (.inl rfl) aZ);have HN:=aD hn;clear hn aZ;go_wp2;go_roundw
    case rel=>exact⟨i+1,by omega,by go_num,HN.out⟩
    case measure=>simp[intOf]; omega
   have d9:(h.state != 4)=true:=by simp[z4]
   have Z4:=aD z4
   cases o
   case true=>
    clear z4;go_wp2
    go_quiet (fail)
    have BQ:=r.trans ((fC (wr.alloc (.cells #[.slice (some ⟨bs,os,none⟩) x.aA.length c0,.slice B x.aQ.length F,.slice C x.aJ.length G,.slice D x.over.length H,.slice E x.aW.length I] 51)) nq).mono r.size);have Z:=eV hr BQ;have aY:=ho.but (K:=fun _=>True) (But.aG BQ) trivial;have T:=aY.state Z 4;have L:=Z.set (i*5) (.int .i64 4);have bD:=T.aN L 0;have bF:=L.set (i*5+4) (.int .i64 0);have aK:But (fun c=>c≠k) wr ((((wr.alloc (.cells #[.slice (some ⟨bs,os,none⟩) x.aA.length c0,.slice B x.aQ.length F,.slice C x.aJ.length G,.slice D x.over.length H,.slice E x.aW.length I] 51)).drewN nq).setCell ⟨k,i*5,none⟩ (.int .i64 4)).setCell ⟨k,i*5+4,none⟩ (.int .i64 0)):=((But.aG BQ).setCell (fun z=>z rfl) _).setCell (fun z=>z rfl) _;have aE:=aD bD;have a8:=aD bF;have b:=aD aK;clear aY Z T L bD bF aK
    go_wp2_with fail
    refine (b8.out _ _ { h with state:=4,aN:=0 } b.out a8.out aE.out rfl rfl).mono ?_;rintro e w3 ⟨rfl,aZ⟩
    have hn:=a6.out w3 (by
     rw[xL Z0.out Z4.out b4.out]
     exact aX.after (b.out.mono fun _ _ z=>z.1) (fun q _ hq=>by rw[if_neg (by omega),if_neg (by omega)]) (.inl rfl) aZ)
    have HN:=aD hn;clear hn aZ;go_wp2;go_roundw
    case rel=>exact⟨i+1,by omega,by go_num,HN.out⟩
    case measure=>simp[intOf]; omega
   case false=>
    have cF:(h.state == 4)=false:=by simp[z4]
    clear z4;by_cases b3:h.state=1∨h.state=2
    ·have zz:((h.state == 1)=true)∨((h.state == 1)=false∧(h.state == 2)=true):=by
      rcases b3 with e | e
      ·exact .inl (by simp[e])
      ·exact .inr ⟨by simp[e],by simp[e]⟩
     have aI:=aD b3;clear b3;rcases zz with dA | ⟨dA,dT⟩
     all_goals
      go_wp2
      go_quiet (fail)
      have BQ:=r.trans ((fC (wr.alloc (.cells #[.slice (some ⟨bs,os,none⟩) x.aA.length c0,.slice B x.aQ.length F,.slice C x.aJ.length G,.slice D x.over.length H,.slice E x.aW.length I] 51)) nq).mono r.size);have Z:=eV hr BQ;have aY:=ho.but (K:=fun _=>True) (But.aG BQ) trivial;have T:=aY.state Z 1;have L:=Z.set (i*5) (.int .i64 1);have aK:But (fun c=>c≠k) wr (((wr.alloc (.cells #[.slice (some ⟨bs,os,none⟩) x.aA.length c0,.slice B x.aQ.length F,.slice C x.aJ.length G,.slice D x.over.length H,.slice E x.aW.length I] 51)).drewN nq).setCell ⟨k,i*5,none⟩ (.int .i64 1)):=(But.aG BQ).setCell (fun z=>z rfl) _;have aE:=aD T;have a8:=aD L;have b:=aD aK;clear aY Z T L aK;go_wp2;generalize hX:World.setCell (World.drewN _ nq) _ _=X at aE a8 b ⊢;have dG:=Ext.any X;have E0:=Ext.cell (b.out.cell m0 u.1);have E1:=Ext.cell (b.out.cell m1 u.1);have E2:=Ext.cell (b.out.cell m2 u.1);have E3:=Ext.cell (b.out.cell m3 u.1);have E4:=Ext.cell (b.out.cell m4 J.1);have E5:=Ext.cell (b.out.cell m5 J.1);have E6:=Ext.cell (b.out.cell m6 J.1);have E7:=Ext.cell (b.out.cell m7 J.1);have E8:=Ext.cell (b.out.cell m8 J.1)
      have hq:∀U:Ext X,Calls Tryz.prog 134 #[.agg #[n,p1,.slice (some ⟨bq,oq,none⟩) aB.length k2,p3,hd],.agg #[ok,.slice (some ⟨Y,0,none⟩) d.aH.length q1,.slice a4 d.aC.length q2,.slice (some ⟨k,0,none⟩) aB.length q3],.int .i64 i] U.w fun e w'=>e=.returned (.bool (jT d.aH d.aC x))∧Below U.w.heap.size U.w w':=fun U=>by
       have bQ:Same (fun c=>c<wr.heap.size∧c≠k) wr U.w:=(b.out.same fun c l=>l).trans (fW U.below fun c l=>Nat.lt_of_lt_of_le l.1 b.out.size);have bL:∀c,c<wr.heap.size∧c≠k->In U.w c:=fun c l=>Nat.lt_of_lt_of_le l.1 (Nat.le_trans b.out.size U.below.size);refine GG n hd ok p1 _ p3 _ _ _ aB d i x U.w ?_ ?_ ?_ HX.out bV cA cS bR ⟨cU,c7⟩
       ·exact ((HP.out.keep c9 fun _ z=>z).keep (hU _ _) (Q:=fun c=>c<wr.heap.size∧c≠k) fun c l=>⟨by have:=(HQ.out c l).1; have:=a9.out.size; have:=m.size; omega,(a1 c (by have:=(HQ.out c l).1; have:=HZ.out; omega) (HQ.out c l).2).1⟩).keep bQ bL
       ·exact (aV.read (P:=fun c=>c<wr.heap.size∧c≠k) aO ⟨aO.lt,aU.1⟩).keep bQ bL
       ·refine (bH.read (P:=fun c=>c<wr.heap.size∧c≠k) O.aC fun z=>?_).keep bQ bL;obtain⟨_,_,_,h0 | ⟨_,g,M,hg,_⟩⟩:=O.aC
        ·exact absurd h0 z
        ·exact⟨hg.lt,iU hg hr (by decide)⟩
      have b5:=aD hq;clear hq
      cases hpv:jT d.aH d.aC x
      ·rw[hpv] at b5;have bJ:=aD hpv;clear hpv;refine gQ (by kernel_rfl) (by kernel_rfl) ?_
       repeat (go_big_quiet_step ((go_at_call 134; exact eO (b5.out _))))
       refine wpQuiet_nil ?_;rintro _ ⟨U,rfl⟩;have A:=eV a8.out U.below;have u0:=A.cell (i:=i*5) (by omega);rw[if_pos rfl] at u0;clear A;go_wp2;go_roundw
       case rel=>exact⟨i+1,by omega,by go_num,a6.out _ (by
        rw[xE aI.out b4.out bJ.out]
        exact aX.after (b.out.mono fun _ _ z=>z.1) (fun q _ hq=>by rw[if_neg (by omega)]) (.inl rfl) (aX.none a8.out aE.out U.below))⟩
       case measure=>simp[intOf]; omega
      ·rw[hpv] at b5;have bJ:=aD hpv;clear hpv;refine gQ (by kernel_rfl) (by kernel_rfl) ?_
       repeat (go_big_quiet_step ((go_at_call 134; exact eO (b5.out _))))
       refine wpQuiet_nil ?_;rintro _ ⟨U,rfl⟩;have A:=eV a8.out U.below;have c5:=aE.out.but (K:=fun _=>True) (But.aG U.below) trivial;have u0:=A.cell (i:=i*5) (by omega);have u3:=A.cell (i:=i*5+3) (by omega);have w0:=A.frozen (i*5);have w3:=A.frozen (i*5+3)
       have hn:aX wr ((U.w.setCell ⟨k,i*5,none⟩ (.int .i64 2)).setCell ⟨k,i*5+3,none⟩ (.bool true)) k N i f (t i) { h with state:=2,aR:=true }:=by
        refine aX.after (f1:=fun j=>if j=i*5 then .int .i64 1 else f j) (b.out.mono fun _ _ z=>z.1) (fun q _ hq=>by rw[if_neg (by omega)]) (.inl rfl) ?_;refine aX.after (But.aG U.below) (fun _ _ _=>rfl) (.inl rfl) ?_;have h5:=aX.store (q:=i*5+3) (A.set (i*5) (.int .i64 2)) (by omega) ((c5.state A 2).aR (A.set (i*5) (.int .i64 2)) true);exact aX.after ((But.refl _ _).setCell (fun z=>z.1 rfl) _) (fun q _ hq=>by rw[if_neg (by omega)]) (.inl rfl) h5
       have HN:=aD hn;clear A c5 hn;go_wp2;go_roundw
       case rel=>exact⟨i+1,by omega,by go_num,a6.out _ (by
        rw[xF aI.out b4.out bJ.out]
        exact HN.out)⟩
       case measure=>simp[intOf]; omega
    ·have d7:(h.state == 1)=false:=by simp; omega
     have d8:(h.state == 2)=false:=by simp; omega
     have aI:=aD b3;clear b3;go_wp2
     go_quiet (fail)
     have BQ:=r.trans ((fC (wr.alloc (.cells #[.slice (some ⟨bs,os,none⟩) x.aA.length c0,.slice B x.aQ.length F,.slice C x.aJ.length G,.slice D x.over.length H,.slice E x.aW.length I] 51)) nq).mono r.size);go_wp2;go_roundw
     case rel=>exact⟨i+1,by omega,by go_num,a6.out _ (by
      rw[yN Z4.out (fun z=>aI.out (.inl z)) (fun z=>aI.out (.inr z)) b4.out]
      exact aX.none hr ho BQ)⟩
     case measure=>simp[intOf]; omega
  ·have bA:∃bb',aP (fun c=>P c∨New w wr c) wr (.slice (some ⟨Y,0,none⟩) d.aH.length q1) (.slice a4 d.aC.length q2) (.slice a3 d.aB.length q3) (kN aB d) Y bp k bb'∧But (fun c=>¬P c) w wr:=by
    obtain⟨bb',cN,cK⟩:=b1.end bB (by omega);exact⟨bb',cN.bound fun c l hl=>l.imp id fun z=>⟨by have:=HZ.out; omega,hl⟩,(But.aG a9.out).trans cK⟩
   have cG:=aD bA;clear bA b1;go_wp2;exact bodyPost_end (v:=.tuple #[]) (by simp[results,Tryz.results86,go_sem]) rfl ⟨rfl,cG.out⟩
end Go.Proofs.YtdhinkgjiapigaaGreatDoor

import Derived.Test.YtdhinkgjiapigaaGreatDoorSettle2
import Derived.Test.YtdhinkgjiapigaaGreatDoorCopyA
namespace Go.Proofs.YtdhinkgjiapigaaGreatDoor
open Classical Go.Deep Go.RowKit
set_option maxRecDepth 100000 in
set_option maxHeartbeats 4000000 in
theorem Gi (ok v f1 f2 f3 g1 g2 g3:Value) (a b:List aM) (w:World) (hf:dF (In w) w f3 a) (hg:dF (In w) w g3 b)
  (hl:a.length=b.length) (aH:a.length<=1048576) (hb:∀(i:Nat) x y,a[i]?=some x->b[i]?=some y->x.aL.length=y.aL.length∧x.aL.length<=1048576) :
  Calls Tryz.prog 118 #[.agg #[ok,f1,f2,f3],.agg #[v,g1,g2,g3]] w fun e w'=>e=.returned (.bool (B (a=b)))∧Below w.heap.size w w':=by
 obtain⟨af,cf,rfl,g⟩:=hf;obtain⟨ag,cg,rfl,h⟩:=hg;have HF:=aD g;have HG:=aD h;have HB:=aD hb;have T0:=eB w 40 40 #[ok,f1,f2,.slice af a.length cf] #[v,g1,g2,.slice ag b.length cg];have P:=aD hl;clear g h hb hl;go_enter Tryz.func118,Tryz.ntmps118;go_wp2
 go_loopw [12] (fun z wr=>∃(k:Nat),k<=a.length∧z=.int .i64 k∧(∀j:Nat,j<k->a[j]?=b[j]?)∧bD w [(40,#[ok,f1,f2,.slice af a.length cf]),(40,#[v,g1,g2,.slice ag b.length cg])] wr) (fun z _=>a.length-(intOf z).toNat)
 case atStart=>exact⟨0,by omega,rfl,fun j G=>by omega,T0⟩
 case round=>
  obtain⟨k,hk,rfl,C,E⟩:=hrel;have HA:=aD C;clear C T0;by_cases H:k<a.length
  ·obtain h0 | ⟨bf,of,rfl,a2,g⟩:=HF.out
   ·omega
   obtain h0 | ⟨bg,og,rfl,a3,h⟩:=HG.out
   ·have:=P.out; omega
   obtain⟨x,hx⟩:=bG a (aD rfl) H;obtain⟨y,hy⟩:=bG b (aD P.out.symm) H;obtain⟨v2,u,p0,p1,p2,p3,p4⟩:=g k H x hx;obtain⟨u2,U,q0,q1,q2,q3,q4⟩:=h k (by have:=P.out; omega) y hy;obtain⟨A,m,rfl,o⟩:=u;obtain⟨a7,c7,rfl,r⟩:=U;rw[← E.below.cell (p:=⟨bf,_,none⟩) a2] at p0 p1 p2 p3 p4;rw[← E.below.cell (p:=⟨bg,_,none⟩) a3] at q0 q1 q2 q3 q4;obtain⟨V,aI⟩:=HB.out k x y hx hy;obtain⟨xs,I⟩:∃c,x.aR=c:=⟨_,rfl⟩;obtain⟨ys,J⟩:∃c,y.aR=c:=⟨_,rfl⟩;rw[I] at p3;rw[J] at q3;have Q:=aD I;have R:=aD J;clear I J;have X0:=eB wr 44 44 #[.int .i64 x.state,.int .i64 x.gone,.slice A x.aL.length m,.bool xs,.int .i64 x.aN] #[.int .i64 y.state,.int .i64 y.gone,.slice a7 y.aL.length c7,.bool ys,.int .i64 y.aN];have F:=E.call X0.below;have r0:wr.cell? ⟨w.heap.size,3,none⟩=some (.slice (some ⟨bf,of,none⟩) a.length cf):=E.c 0 3 rfl rfl;have r1:wr.cell? ⟨w.heap.size+1,3,none⟩=some (.slice (some ⟨bg,og,none⟩) b.length cg):=E.c 1 3 rfl rfl
   have aJ:(k:Int)<(a.length:Int):=by omega
   have aK:(k:Int)<(b.length:Int):=by have:=P.out; omega
   have d:=aD V;clear V;have H6:=aD o;have H7:=aD r;have Hx:=aD hx;have Hy:=aD hy;have aC:=bP r1 (bC wr (.cells #[.int .i64 x.state,.int .i64 x.gone,.slice A x.aL.length m,.bool xs,.int .i64 x.aN] 44));have a5:=bP q0 (bC wr (.cells #[.int .i64 x.state,.int .i64 x.gone,.slice A x.aL.length m,.bool xs,.int .i64 x.aN] 44));have a8:=bP q1 (bC wr (.cells #[.int .i64 x.state,.int .i64 x.gone,.slice A x.aL.length m,.bool xs,.int .i64 x.aN] 44));have a9:=bP q2 (bC wr (.cells #[.int .i64 x.state,.int .i64 x.gone,.slice A x.aL.length m,.bool xs,.int .i64 x.aN] 44));have aA:=bP q3 (bC wr (.cells #[.int .i64 x.state,.int .i64 x.gone,.slice A x.aL.length m,.bool xs,.int .i64 x.aN] 44));have aB:=bP q4 (bC wr (.cells #[.int .i64 x.state,.int .i64 x.gone,.slice A x.aL.length m,.bool xs,.int .i64 x.aN] 44));clear o r hx hy g h E
   have no:¬x=y->∀ {W:World},Below w.heap.size w W->(Ending.returned (.bool false)=.returned (.bool (B (a=b)))∧Below w.heap.size w W):=fun a4 W hW=>⟨bI (bE fun e=>a4 (by
    have T:=Hx.out;rw[e,Hy.out] at T
    exact (Option.some.inj T).symm)).symm,hW⟩
   have D:=aD @no;clear no;by_cases L:x.state=y.state
   case neg=>
    have aE:(x.state != y.state)=true:=by simp[L]
    have Z0:=aD L;clear L;go_wp2;go_ret;exact D.out (fun e=>Z0.out (by rw[e])) F.below
   have aE:(x.state != y.state)=false:=by simp[L]
   have Z0:=aD L;clear L;by_cases M:x.gone=y.gone
   case neg=>
    have aF:(x.gone != y.gone)=true:=by simp[M]
    have Z1:=aD M;clear M;go_wp2;go_ret;exact D.out (fun e=>Z1.out (by rw[e])) F.below
   have aF:(x.gone != y.gone)=false:=by simp[M]
   have Z1:=aD M;clear M;by_cases z2:xs=ys
   case neg=>
    have S:=aD z2;clear z2;have hn:¬x=y:=fun e=>S.out (by rw[← Q.out,← R.out,e]);have f:=aD hn;clear hn
    cases xs <;> cases ys
    ·exact absurd rfl S.out
    ·go_wp2;go_ret;exact D.out f.out F.below
    ·go_wp2;go_ret;exact D.out f.out F.below
    ·exact absurd rfl S.out
   subst z2;have S:Hid (x.aR=y.aR):=Q.out.trans R.out.symm;by_cases N:x.aN=y.aN
   case neg=>
    have aG:(x.aN != y.aN)=true:=by simp[N]
    have Z3:=aD N;clear N;go_wp2;go_ret;exact D.out (fun e=>Z3.out (by rw[e])) F.below
   have aG:(x.aN != y.aN)=false:=by simp[N]
   have Z3:=aD N;clear N;have X1:=X0;go_wp2;rename World=>wo;clear p0 p1 p2 p3 p4 q0 q1 q2 q3 q4 a5 a8 a9 aA aB r0 r1 aC
   go_loopw [54] (fun z wr=>∃(q:Nat),q<=x.aL.length∧z=.int .i64 q∧(∀j:Nat,j<q->x.aL[j]?=y.aL[j]?)∧bD wo [(44,#[.int .i64 x.state,.int .i64 x.gone,.slice A x.aL.length m,.bool xs,.int .i64 x.aN]),(44,#[.int .i64 y.state,.int .i64 y.gone,.slice a7 y.aL.length c7,.bool xs,.int .i64 y.aN])] wr∧bD w [(40,#[ok,f1,f2,.slice (some ⟨bf,of,none⟩) a.length cf]),(40,#[v,g1,g2,.slice (some ⟨bg,og,none⟩) b.length cg])] wr) (fun z _=>x.aL.length-(intOf z).toNat)
   case atStart=>exact⟨0,by omega,rfl,fun j G=>by omega,X1,F⟩
   case round=>
    obtain⟨q,hq,rfl,Z,X2,K⟩:=hrel;have HE:=aD Z;clear Z X0 X1 F;by_cases l:q<x.aL.length
    ·obtain h0 | ⟨b6,o6,rfl,o,X⟩:=H6.out
     ·omega
     obtain h0 | ⟨b7,o7,rfl,r,Y⟩:=H7.out
     ·have:=d.out; omega
     obtain⟨s,hs⟩:=bG x.aL (aD rfl) l;obtain⟨t,ht⟩:=bG y.aL (aD d.out.symm) l;have gs:=X q l s hs;have gt:=Y q (by have:=d.out; omega) t ht;rw[← K.below.cell (p:=⟨b6,_,none⟩) o] at gs;rw[← K.below.cell (p:=⟨b7,_,none⟩) r] at gt;have m2:wr.cell? ⟨wo.heap.size,2,none⟩=some (.slice (some ⟨b6,o6,none⟩) x.aL.length m):=X2.c 0 2 rfl rfl;have n2:wr.cell? ⟨wo.heap.size+1,2,none⟩=some (.slice (some ⟨b7,o7,none⟩) y.aL.length c7):=X2.c 1 2 rfl rfl
     have aO:(q:Int)<(x.aL.length:Int):=by omega
     have aP:(q:Int)<(y.aL.length:Int):=by have:=d.out; omega
     have Hs:=aD hs;have Ht:=aD ht;clear hs ht X Y;by_cases n:s=t
     ·subst n;go_wp2
      go_quiet (fail)
      go_wp2;go_roundw
      case rel=>exact⟨q+1,by omega,by go_num,fun j G=>by
       by_cases e:j=q
       ·subst e; rw[Hs.out,Ht.out]
       ·exact HE.out j (by omega),X2.call (fC _ _),K.call (fC _ _)⟩
      case measure=>simp[intOf]; omega
     ·have hn:¬x=y:=fun e=>n (by
       have T:=Hs.out;rw[e,Ht.out] at T
       exact (Option.some.inj T).symm)
      have f:=aD hn;have O:=aD n;clear hn n
      cases s <;> cases t
      ·exact absurd rfl O.out
      ·go_wp2
       go_quiet (fail)
       go_wp2;go_ret;exact D.out f.out (K.call (fC _ _)).below
      ·go_wp2
       go_quiet (fail)
       go_wp2;go_ret;exact D.out f.out (K.call (fC _ _)).below
      ·exact absurd rfl O.out
    ·have a0:a[k]?=b[k]?:=by
      have u:x.aL=y.aL:=by
       apply List.ext_getElem?;intro j;by_cases G:j<q
       ·exact HE.out j G
       ·rw[List.getElem?_eq_none (by omega),List.getElem?_eq_none (by have:=d.out; omega)]
      rw[Hx.out,Hy.out];have e0:=Z0.out;have e1:=Z1.out;have e2:=S.out;have e3:=Z3.out
      cases x; cases y
      simp only at e0 e1 e2 e3 u;rw[e0,e1,e2,e3,u]
     have a1:=aD a0;clear a0;go_wp2;go_roundw
     case rel=>exact⟨k+1,by omega,by go_num,fun j G=>by
      by_cases e:j=k
      ·subst e; exact a1.out
      ·exact HA.out j (by omega),K⟩
     case measure=>simp[intOf]; omega
  ·go_wp2;go_ret;refine⟨bI (bQ ?_).symm,E.below⟩;apply List.ext_getElem?;intro j;by_cases G:j<k
   ·exact HA.out j G
   ·rw[List.getElem?_eq_none (by omega),List.getElem?_eq_none (by have:=P.out; omega)]
theorem Right.way {p:aK}(h:Right p) {i:Nat}{x:aT}(b:p.aB[i]?=some x):dG p.aA p.aE x:=
 Decidable.byContradiction fun a=>h.parts.2.2.1 i ((xP b).2 a)
theorem bJ.mem {n:Int}{l:List Int}(h:bJ n l) {s:Int}(b:s∈l):0<=s∧s<n:=by
 obtain⟨j,a⟩:=List.getElem?_of_mem b;have:=(h.1 j (List.getElem?_eq_some_iff.1 a).1 s a).1;exact⟨this.1,by have:=this.2; omega⟩
theorem dJ.mem {m:Nat}{l:List (Int×Int)}(h:dJ m l) {y:Int×Int}(b:y∈l):0<=y.1∧y.1<m:=by
 obtain⟨j,a⟩:=List.getElem?_of_mem b;have:=(h.1 j (List.getElem?_eq_some_iff.1 a).1 y a).1.1;exact⟨this.1,by have:=this.2; omega⟩
theorem dG.small {n:Int}{a:List Int}{x:aT}(h:dG n a x):x.Small 30:=⟨h.2.1.2,h.2.2.2.2.1.2,h.2.2.2.2.2.1.2,h.2.2.1.2,h.2.2.2.1.2⟩
theorem Right.row {p:aK}(h:Right p) {i k:Nat}(hi:i<p.aB.length) (g:k<p.aB.length):∃r b,p.aO[i]?=some r∧r.length=p.aB.length∧r[k]?=some b∧p.bar i k=some b:=by
 obtain⟨-,-,-,e,f,-⟩:=h.parts;obtain⟨r,a⟩:=bG p.aO (aD e) hi;have d:r.length=p.aB.length:=Decidable.byContradiction fun j=>f i ((vQ a).2 j);obtain⟨b,c⟩:=bG r (aD d) g;exact⟨r,b,a,d,c,vW a c⟩
def uE (p:aK) (d:aF) (i:Nat):Prop:=∀x h,p.aB[i]?=some x->d.aB[i]?=some h ->
 fD p.aI x.aA.length h∧∀k g,i≠k->d.aB[k]?=some g->p.bar i k=some true->h.state≠0->g.state=0
def pI (x:Int×Int):Prop:=bN x.1 1 2∧bN x.2 0 2
def cJ (p:aK) (d:aF):Prop:=
 Right p∧d.ok=true∧(d.aH.length:Int)=p.aA∧d.aC.length=p.aE.length∧d.aB.length=p.aB.length∧(∀(k:Nat) x,d.aC[k]?=some x->pI x)∧(∀i,i<d.aB.length->uE p d i)∧d.aB=(kN p.aB d).aB
theorem FM {aH:List Bool}{aC:List (Int×Int)}{x:aT}{h:aM}(c:h.aL.length=x.aA.length):(eC aH aC x h).aL.length=x.aA.length:=by
 have e:∀g:aM,g.aL.length=x.aA.length->(jV aH x.aA g).aL.length=x.aA.length:=fun g a=>by
  unfold jV;split
  ·show (List.replicate _ false).length=_;rw[List.length_replicate,rK a]
  ·exact rK a
 have b:∀g:aM,g.aL.length=x.aA.length->(tX aH aC x g).aL.length=x.aA.length:=fun g a=>by
  unfold tX;split
  ·split <;> exact a
  ·exact a
 have d:(vY aH x h).aL.length=x.aA.length:=by
  unfold vY
  split <;> exact c
 unfold eC zG;split
 ·exact c
 ·split
  ·exact e _ (b _ d)
  ·exact b _ d
theorem tV {p:aK}{d:aF}(j:Right p) (o:(d.aH.length:Int)=p.aA) (q:d.aC.length=p.aE.length) (r:d.aB.length=p.aB.length) (h:∀i,i<d.aB.length->uE p d i):Fits p.aB d:=by
 obtain⟨⟨l,t,m,-⟩,-⟩:=j.parts;refine⟨r,m,by have:=l.2; omega,by omega,fun i x g k f=>?_⟩;have a:=j.way k;obtain⟨⟨-,n,b,-⟩,-⟩:=h i (List.getElem?_eq_some_iff.1 f).1 x g k f;refine⟨n,List.length_pos_iff.2 a.1,a.small,b.1,by have:=b.2; omega,fun y e=>?_,fun s c=>?_⟩
 ·rw[q];rcases e with e | e
  ·exact a.2.2.2.2.1.mem e
  ·exact a.2.2.2.2.2.1.mem e
 ·rw[o];rcases c with c | c
  ·exact a.2.1.mem c
  ·exact a.2.2.1.mem c
set_option maxRecDepth 100000 in
set_option maxHeartbeats 4000000 in
theorem FR (v1 v2 v3 f1 f2 f3:Value) (p:aK) (d:aF) (w:World) (hp:aZ (In w) w v1 v2 v3 p) (hf:bB (In w) w f1 f2 f3 d) (hs:p.Small 1048576) (hd:d.Small 1048576) :
  Calls Tryz.prog 69 #[.agg #[.int .i64 p.aA,v1,v2,v3,.int .i64 p.aI],.agg #[.bool d.ok,f1,f2,f3]] w fun e w'=>e=.returned (.bool (B (cJ p d)))∧Below w.heap.size w w':=by
 obtain⟨b3,b1⟩:∃c,d.ok=c:=⟨_,rfl⟩;rw[b1];have b5:=aD b1;clear b1;have HP:=aD hp;have HF:=aD hf;have HS:=aD hs;have HD:=aD hd;obtain⟨⟨a1,c1,rfl,-⟩,⟨a2,c2,rfl,-⟩,⟨a3,c3,rfl,-⟩⟩:=id hp;obtain⟨⟨a4,c4,rfl,-⟩,⟨a5,c5,rfl,-⟩,⟨R,T,rfl,-⟩⟩:=id hf;have T0:=eB w 27 40 #[.int .i64 p.aA,.slice a1 p.aE.length c1,.slice a2 p.aB.length c2,.slice a3 p.aO.length c3,.int .i64 p.aI] #[.bool b3,.slice a4 d.aH.length c4,.slice a5 d.aC.length c5,.slice R d.aB.length T];have bK:=hp.keep (In.keep T0.below).1 (In.keep T0.below).2;obtain⟨cM,cN,-,cO,-⟩:=hs;obtain⟨cI,cK,c9,-⟩:=hd;clear hp hf;go_enter Tryz.func69,Tryz.ntmps69
 go_wp2_with fail
 refine (B6 _ _ _ p _ bK HS.out).mono ?_;rintro e w1 ⟨rfl,b8⟩;have C:=T0.call b8;clear T0 b8 bK;have r0:w1.cell? ⟨w.heap.size,0,none⟩=some (.int .i64 p.aA):=C.c 0 0 rfl rfl;have r1:w1.cell? ⟨w.heap.size,1,none⟩=some (.slice a1 p.aE.length c1):=C.c 0 1 rfl rfl;have r2:w1.cell? ⟨w.heap.size,2,none⟩=some (.slice a2 p.aB.length c2):=C.c 0 2 rfl rfl;have t0:w1.cell? ⟨w.heap.size+1,0,none⟩=some (.bool b3):=C.c 1 0 rfl rfl;have t1:w1.cell? ⟨w.heap.size+1,1,none⟩=some (.slice a4 d.aH.length c4):=C.c 1 1 rfl rfl;have t2:w1.cell? ⟨w.heap.size+1,2,none⟩=some (.slice a5 d.aC.length c5):=C.c 1 2 rfl rfl;have t3:w1.cell? ⟨w.heap.size+1,3,none⟩=some (.slice R d.aB.length T):=C.c 1 3 rfl rfl;have S:Hid (¬cJ p d->∀W:World,Below w.heap.size w W->(Ending.returned (.bool false)=.returned (.bool (B (cJ p d)))∧Below w.heap.size w W)):=fun hn W hW=>⟨bI (bE hn).symm,hW⟩;by_cases q0:Right p
 case neg=>
  rw[bE q0];have Q0:=aD q0;clear q0;go_wp2;go_ret;exact S.out (fun h=>Q0.out h.1) _ C.below
 rw[bQ q0];have Q0:=aD q0;clear q0
 cases b3
 case false=>
  go_wp2;go_ret;exact S.out (fun h=>by have:=h.2.1; rw[b5.out] at this; cases this) _ C.below
 by_cases q1:(d.aH.length:Int)=p.aA
 case neg=>
  have cD:((d.aH.length:Int) != p.aA)=true:=by simp[q1]
  have Q1:=aD q1;clear q1;go_wp2;go_ret;exact S.out (fun h=>Q1.out h.2.2.1) _ C.below
 have cD:((d.aH.length:Int) != p.aA)=false:=by simp[q1]
 have Q1:=aD q1;clear q1;by_cases q2:d.aC.length=p.aE.length
 case neg=>
  have cE:((d.aC.length:Int) != (p.aE.length:Int))=true:=by simp; omega
  have Q2:=aD q2;clear q2;go_wp2;go_ret;exact S.out (fun h=>Q2.out h.2.2.2.1) _ C.below
 have cE:((d.aC.length:Int) != (p.aE.length:Int))=false:=by simp; omega
 have Q2:=aD q2;clear q2;by_cases q3:d.aB.length=p.aB.length
 case neg=>
  have cF:((d.aB.length:Int) != (p.aB.length:Int))=true:=by simp; omega
  have v:=aD q3;clear q3;go_wp2;go_ret;exact S.out (fun h=>v.out h.2.2.2.2.1) _ C.below
 have cF:((d.aB.length:Int) != (p.aB.length:Int))=false:=by simp; omega
 have v:=aD q3;clear q3;go_wp2;clear r0 r1 r2 t0 t1 t2 t3
 go_loopw [47] (fun z wr=>∃(k:Nat),k<=d.aC.length∧z=.int .i64 k∧(∀(j:Nat) x,j<k->d.aC[j]?=some x->pI x)∧bD w [(27,#[.int .i64 p.aA,.slice a1 p.aE.length c1,.slice a2 p.aB.length c2,.slice a3 p.aO.length c3,.int .i64 p.aI]),(40,#[.bool true,.slice a4 d.aH.length c4,.slice a5 d.aC.length c5,.slice R d.aB.length T])] wr) (fun z _=>d.aC.length-(intOf z).toNat)
 case atStart=>exact⟨0,by omega,rfl,fun j _ Y=>by omega,C⟩
 case round=>
  obtain⟨k,hk,rfl,o,T2⟩:=hrel;have HA:=aD o;clear o C;by_cases bJ:k<d.aC.length
  ·obtain h0 | ⟨bp,op,rfl,V,bF⟩:d.aC.length=0∨∃b off,a5=some ⟨b,off,none⟩∧In w b∧∀(i:Nat),i<d.aC.length->∀x,d.aC[i]?=some x->w.cell? ⟨b,off+i*2,none⟩=some (.int .i64 x.1)∧w.cell? ⟨b,off+i*2+1,none⟩=some (.int .i64 x.2):=by
    obtain⟨a,c,hv,J⟩:=HF.out.2.1
    cases hv
    exact J
   ·omega
   obtain⟨x,q⟩:=bG d.aC (aD rfl) bJ;obtain⟨g0,g1⟩:=bF k bJ x q;rw[← T2.below.cell (p:=⟨bp,_,none⟩) V] at g0 g1;have Hx:=aD q;have m:=T2.call (bC wr (.cells #[.int .i64 x.1,.int .i64 x.2] 46))
   have m0:(wr.alloc (.cells #[.int .i64 x.1,.int .i64 x.2] 46)).cell? ⟨wr.heap.size,0,none⟩=some (.int .i64 x.1):=by simp
   have m1:(wr.alloc (.cells #[.int .i64 x.1,.int .i64 x.2] 46)).cell? ⟨wr.heap.size,1,none⟩=some (.int .i64 x.2):=by simp
   clear bF q
   go_wp2_with fail
   refine (mG x.1 1 2 _).mono ?_;rintro e w' ⟨rfl,rfl⟩;by_cases F:bN x.1 1 2
   case neg=>
    rw[bE F];have I1:=aD F;clear F;go_wp2;go_ret;exact S.out (fun h=>I1.out (h.2.2.2.2.2.1 k x Hx.out).1) _ m.below
   rw[bQ F];have I1:=aD F;clear F
   go_wp2_with fail
   refine (mG x.2 0 2 _).mono ?_;rintro e w' ⟨rfl,rfl⟩;by_cases i2:bN x.2 0 2
   case neg=>
    rw[bE i2];have I2:=aD i2;clear i2;go_wp2;go_ret;exact S.out (fun h=>I2.out (h.2.2.2.2.2.1 k x Hx.out).2) _ m.below
   rw[bQ i2];have I2:=aD i2;clear i2;go_wp2;go_roundw
   case rel=>exact⟨k+1,by omega,by go_num,fun j y Y G=>by
    by_cases e:j=k
    ·subst e; rw[Hx.out] at G; cases G; exact⟨I1.out,I2.out⟩
    ·exact HA.out j y (by omega) G,m⟩
   case measure=>simp[intOf]; omega
  ·have aT:∀(j:Nat) x,d.aC[j]?=some x->pI x:=fun j x q=>HA.out j x (by have:=(List.getElem?_eq_some_iff.1 q).1; omega) q;have bR:=aD aT;have t3:wr.cell? ⟨w.heap.size+1,3,none⟩=some (.slice R d.aB.length T):=T2.c 1 3 rfl rfl;clear aT HA;go_wp2;clear t3;rename World=>wo
   go_loopw [65] (fun z wr=>∃(i:Nat),i<=d.aB.length∧z=.int .i64 i∧(∀j,j<i->uE p d j)∧bD w [(27,#[.int .i64 p.aA,.slice a1 p.aE.length c1,.slice a2 p.aB.length c2,.slice a3 p.aO.length c3,.int .i64 p.aI]),(40,#[.bool true,.slice a4 d.aH.length c4,.slice a5 d.aC.length c5,.slice R d.aB.length T])] wr) (fun z _=>d.aB.length-(intOf z).toNat)
   case atStart=>exact⟨0,by omega,rfl,fun j Y=>by omega,T2⟩
   case round=>
    obtain⟨i,hi,rfl,o,m⟩:=hrel;have HA:=aD o;clear o T2;have r0:wr.cell? ⟨w.heap.size,0,none⟩=some (.int .i64 p.aA):=m.c 0 0 rfl rfl;have r1:wr.cell? ⟨w.heap.size,1,none⟩=some (.slice a1 p.aE.length c1):=m.c 0 1 rfl rfl;have r2:wr.cell? ⟨w.heap.size,2,none⟩=some (.slice a2 p.aB.length c2):=m.c 0 2 rfl rfl;have r3:wr.cell? ⟨w.heap.size,3,none⟩=some (.slice a3 p.aO.length c3):=m.c 0 3 rfl rfl;have r4:wr.cell? ⟨w.heap.size,4,none⟩=some (.int .i64 p.aI):=m.c 0 4 rfl rfl;have t0:wr.cell? ⟨w.heap.size+1,0,none⟩=some (.bool true):=m.c 1 0 rfl rfl;have t1:wr.cell? ⟨w.heap.size+1,1,none⟩=some (.slice a4 d.aH.length c4):=m.c 1 1 rfl rfl;have t2:wr.cell? ⟨w.heap.size+1,2,none⟩=some (.slice a5 d.aC.length c5):=m.c 1 2 rfl rfl;have t3:wr.cell? ⟨w.heap.size+1,3,none⟩=some (.slice R d.aB.length T):=m.c 1 3 rfl rfl;have kp:=HP.out.keep (In.keep m.below).1 (In.keep m.below).2;have kf:=HF.out.keep (In.keep m.below).1 (In.keep m.below).2;by_cases E:i<d.aB.length
    ·obtain⟨h,hh⟩:=bG d.aB (aD rfl) E;obtain⟨x,q⟩:=bG p.aB (aD v.out.symm) E;have b0:=Q0.out.parts.1.2.2.1;have cA:=(Q0.out.way q).small;have b9:=HD.out.2.2.2 h (List.mem_of_getElem? hh)
     go_wp2_with fail
     refine (Gg _ _ p.aI _ _ _ _ _ _ p.aB d.aB i x h _ kp.2.1 kf.2.2 q hh b0 cA v.out b9).mono ?_;rintro e r ⟨rfl,I⟩;have H:=m.call I;have Hx:=aD q;have Hh:=aD hh;clear kp kf r0 r1 r2 r3 r4 t0 t1 t2 t3 I m hh q;by_cases F:fD p.aI x.aA.length h
     case neg=>
      rw[bE F];have I1:=aD F;clear F;go_wp2;go_ret;exact S.out (fun hf=>I1.out (hf.2.2.2.2.2.2.1 i E x h Hx.out Hh.out).1) _ H.below
     rw[bQ F];have I1:=aD F;clear F;have t3:r.cell? ⟨w.heap.size+1,3,none⟩=some (.slice R d.aB.length T):=H.c 1 3 rfl rfl;have r3:r.cell? ⟨w.heap.size,3,none⟩=some (.slice a3 p.aO.length c3):=H.c 0 3 rfl rfl
     obtain⟨bh,oh,bY,cH,aX⟩:∃b off,R=some ⟨b,off,none⟩∧In w b∧∀(j:Nat) g,d.aB[j]?=some g->r.cell? ⟨b,off+j*5,none⟩=some (.int .i64 g.state):=by
      obtain⟨a,c,hv,h0 | ⟨b,off,ha,hb,J⟩⟩:=HF.out.2.2
      ·omega
      ·cases hv
       refine⟨b,off,ha,hb,fun j g X=>?_⟩;obtain⟨v2,-,g0,-⟩:=J j (List.getElem?_eq_some_iff.1 X).1 g X;exact mP g0 H.below
     subst bY
     obtain⟨br,or,ar,cr,row,bX,g1,O,a9,a0⟩:∃b off ar cr row,a3=some ⟨b,off,none⟩∧r.cell? ⟨b,off+i,none⟩=some (.slice ar row.length cr)∧p.aO[i]?=some row∧row.length=p.aB.length∧∃b2 o2,ar=some ⟨b2,o2,none⟩∧∀(k:Nat) y,row[k]?=some y->r.cell? ⟨b2,o2+k,none⟩=some (.bool y):=by
      obtain⟨row,y0,hr,a9,-⟩:=Q0.out.row (i:=i) (k:=i) (by have:=v.out; omega) (by have:=v.out; omega);obtain⟨a,c,hv,h0 | ⟨b,off,ha,hb,J⟩⟩:=HP.out.2.2
      ·have:=(List.getElem?_eq_some_iff.1 hr).1; omega
      ·cases hv
       obtain⟨v0,⟨ar,cr,rfl,h0 | ⟨b2,o2,rfl,I,c8⟩⟩,g1⟩:=J i (List.getElem?_eq_some_iff.1 hr).1 row hr
       ·have:=v.out; omega
       ·exact⟨b,off,_,cr,row,ha,mP g1 H.below,hr,a9,b2,o2,rfl,fun k y G=>mP (c8 k (List.getElem?_eq_some_iff.1 G).1 y G) H.below⟩
     obtain⟨b2,o2,rfl,a0⟩:=a0;subst bX;have bS:=aD a0;have bP:=aD aX;have b7:=aD O;have b6:=aD a9;have gi:=aX i h Hh.out
     have i0:(i:Int)<(d.aB.length:Int):=by omega
     have F:(i:Int)<(p.aO.length:Int):=by have:=(List.getElem?_eq_some_iff.1 O).1; omega
     clear a0 aX O a9;go_wp2
     go_loop [76] (fun z=>∃(k:Nat),k<=d.aB.length∧z=.int .i64 k∧∀(j:Nat) g,j<k->i≠j->d.aB[j]?=some g->p.bar i j=some true->h.state≠0->g.state=0) (fun z=>d.aB.length-(intOf z).toNat)
     case atStart=>exact⟨0,by omega,rfl,fun j _ Y=>by omega⟩
     case round=>
      obtain⟨l,cL,rfl,aN⟩:=hrel;have b4:=aD aN;clear aN;by_cases aS:l<d.aB.length
      ·obtain⟨g,X⟩:=bG d.aB (aD rfl) aS;obtain⟨y,G⟩:=bG row (aD (b6.out.trans v.out.symm)) aS;have gy:=bS.out l y G;have gk:=bP.out l g X;have bA:=vW b7.out G
       have k0:(l:Int)<(d.aB.length:Int):=by omega
       have k1:(l:Int)<(row.length:Int):=by have:=b6.out; have:=v.out; omega
       have Hg:=aD X;have HB:=aD bA
       have A:Hid ((i≠l->p.bar i l=some true->h.state≠0->g.state=0)->∀(j:Nat) g',j<l+1->i≠j->d.aB[j]?=some g'->p.bar i j=some true->h.state≠0->g'.state=0):=fun hs j g' Y Z aY=>by
        by_cases e:j=l
        ·subst e; rw[Hg.out] at aY; cases aY; exact hs Z
        ·exact b4.out j g' (by omega) Z aY
       clear X G bA;by_cases e1:i=l
       ·have bU:((i:Int) != (l:Int))=false:=by simp; omega
        have E1:=aD e1;clear e1;go_wp2
        go_round
        case rel=>exact⟨l+1,by omega,by go_num,A.out fun hn=>absurd E1.out hn⟩
        case measure=>simp[intOf]; omega
       have bU:((i:Int) != (l:Int))=true:=by simp; omega
       have E1:=aD e1;clear e1
       cases y
       ·go_wp2
        go_round
        case rel=>exact⟨l+1,by omega,by go_num,A.out fun _ hb=>by rw[HB.out] at hb; cases hb⟩
        case measure=>simp[intOf]; omega
       by_cases e2:h.state=0
       ·have bV:(h.state != 0)=false:=by simp[e2]
        have E2:=aD e2;clear e2;go_wp2
        go_round
        case rel=>exact⟨l+1,by omega,by go_num,A.out fun _ _ hn=>absurd E2.out hn⟩
        case measure=>simp[intOf]; omega
       have bV:(h.state != 0)=true:=by simp[e2]
       have E2:=aD e2;clear e2;by_cases e3:g.state=0
       ·have bW:(g.state != 0)=false:=by simp[e3]
        have E3:=aD e3;clear e3;go_wp2
        go_round
        case rel=>exact⟨l+1,by omega,by go_num,A.out fun _ _ _=>E3.out⟩
        case measure=>simp[intOf]; omega
       ·have bW:(g.state != 0)=true:=by simp[e3]
        have E3:=aD e3;clear e3;go_wp2;go_ret;exact S.out (fun hf=>E3.out ((hf.2.2.2.2.2.2.1 i E x h Hx.out Hh.out).2 l g E1.out Hg.out HB.out E2.out)) _ H.below
      ·have hw:uE p d i:=fun x' h' u bH=>by
        rw[Hx.out] at u; rw[Hh.out] at bH
        cases u; cases bH
        exact⟨I1.out,fun k g Z X hb cB=>b4.out k g (by have:=(List.getElem?_eq_some_iff.1 X).1; omega) Z X hb cB⟩
       have HW:=aD hw;clear hw;go_wp2;go_roundw
       case rel=>exact⟨i+1,by omega,by go_num,fun j Y=>by
        by_cases e:j=i
        ·subst e; exact HW.out
        ·exact HA.out j (by omega),H⟩
       case measure=>simp[intOf]; omega
    ·have t:∀i,i<d.aB.length->uE p d i:=fun j Y=>HA.out j (by omega);have HW:=aD t;have M:=tV Q0.out Q1.out Q2.out v.out t;have aM:=aD M
     have bL:0<d.aH.length:=by have:=Q1.out; have:=Q0.out.parts.1.1.1; omega
     have V:∀x∈d.aB,0<x.aL.length:=fun y G=>by
      obtain⟨j,Y⟩:=List.getElem?_of_mem G;obtain⟨x,q⟩:=bG p.aB (aD v.out.symm) (List.getElem?_eq_some_iff.1 Y).1;obtain⟨e1,e2,-⟩:=M.2.2.2.2 j x y q Y;omega
     have bO:=aD V;clear t M V
     go_wp2_with fail
     refine (BL true _ _ _ d _ kf HD.out bL bO.out).mono ?_;rintro e r ⟨u1,u2,u3,bo,bp,bw,bb,rfl,I,N⟩;obtain⟨g1,N1,k1,rfl,-⟩:=id N.aH;obtain⟨a7,l,rfl,-⟩:=id N.aC;obtain⟨a8,k3,rfl,-⟩:=id N.aB;have H:=m.call I;have BG:=bC r (.cells #[.bool true,.slice (some ⟨bo,0,none⟩) d.aH.length k1,.slice a7 d.aC.length l,.slice a8 d.aB.length k3] 40);have s:=H.call BG;have TG:=cZ r 40 #[.bool true,.slice (some ⟨bo,0,none⟩) d.aH.length k1,.slice a7 d.aC.length l,.slice a8 d.aB.length k3];have cP:w.heap.size+1<wr.heap.size:=m.lt (j:=1) rfl;clear kp kf r0 r1 r2 r3 r4 t0 t1 t2 t3;obtain⟨n,U⟩:∃n,n=r.alloc (.cells #[.bool true,.slice (some ⟨bo,0,none⟩) d.aH.length k1,.slice a7 d.aC.length l,.slice a8 d.aB.length k3] 40):=⟨_,rfl⟩
     have cQ:n.heap.size=r.heap.size+1:=by rw[U]; simp
     rw[← U] at BG s TG;have c0:n.cell? ⟨r.heap.size,0,none⟩=some (.bool true):=TG.c 0 0 rfl rfl;have aU:n.cell? ⟨r.heap.size,1,none⟩=some (.slice (some ⟨bo,0,none⟩) d.aH.length k1):=TG.c 0 1 rfl rfl;have aV:n.cell? ⟨r.heap.size,2,none⟩=some (.slice a7 d.aC.length l):=TG.c 0 2 rfl rfl;have aW:n.cell? ⟨r.heap.size,3,none⟩=some (.slice a8 d.aB.length k3):=TG.c 0 3 rfl rfl;have r0:n.cell? ⟨w.heap.size,0,none⟩=some (.int .i64 p.aA):=s.c 0 0 rfl rfl;have r1:n.cell? ⟨w.heap.size,1,none⟩=some (.slice a1 p.aE.length c1):=s.c 0 1 rfl rfl;have r2:n.cell? ⟨w.heap.size,2,none⟩=some (.slice a2 p.aB.length c2):=s.c 0 2 rfl rfl;have r3:n.cell? ⟨w.heap.size,3,none⟩=some (.slice a3 p.aO.length c3):=s.c 0 3 rfl rfl;have r4:n.cell? ⟨w.heap.size,4,none⟩=some (.int .i64 p.aI):=s.c 0 4 rfl rfl
     have L:=qW (New wr r) (In w) (.int .i64 p.aA) (.int .i64 p.aI) (.bool true) (.slice a1 p.aE.length c1) (.slice a2 p.aB.length c2) (.slice a3 p.aO.length c3) _ _ _ d p.aB bo bp bw r.heap.size bb n
      (HP.out.2.1.keep (In.keep s.below).1 fun _ z=>z) (fun c J=>⟨Nat.lt_of_lt_of_le J s.below.size,fun z=>by have:=z.1; have:c<w.heap.size:=J; omega⟩) c0 aU aV aW (fun z=>Nat.lt_irrefl _ z.2)
      (N.but (K:=fun _=>True) (But.aG BG) (fun _ _=>trivial) fun _ z=>z) aM.out (fun c J=>Nat.lt_of_lt_of_le J.2 BG.size)
     have HC:=aD L;rw[U] at r0 r1 r2 r3 r4 HC;clear L
     go_wp2_with fail
     refine HC.out.mono ?_;rw[← U] at r0 r1 r2 r3 r4 ⊢;rintro e w4 ⟨rfl,cG,aP,f⟩;have D:Below w.heap.size w w4:=s.below.trans (f.below s.below.size fun c J z=>by have:=z.1; omega);have e0:=f.cell (s.c 1 0 rfl rfl:n.cell? ⟨w.heap.size+1,0,none⟩=some (.bool true)) (fun z=>by have:=z.1; omega);have e1:=f.cell (s.c 1 1 rfl rfl:n.cell? ⟨w.heap.size+1,1,none⟩=some (.slice a4 d.aH.length c4)) (fun z=>by have:=z.1; omega);have e2:=f.cell (s.c 1 2 rfl rfl:n.cell? ⟨w.heap.size+1,2,none⟩=some (.slice a5 d.aC.length c5)) (fun z=>by have:=z.1; omega);have e3:=f.cell (s.c 1 3 rfl rfl:n.cell? ⟨w.heap.size+1,3,none⟩=some (.slice R d.aB.length T)) (fun z=>by have:=z.1; omega);have y0:=f.cell c0 (fun z=>Nat.lt_irrefl _ z.2);have y1:=f.cell aU (fun z=>Nat.lt_irrefl _ z.2);have y2:=f.cell aV (fun z=>Nat.lt_irrefl _ z.2);have y3:=f.cell aW (fun z=>Nat.lt_irrefl _ z.2)
     have aR:(kN p.aB d).aB.length=d.aB.length:=by
      show (List.zipWith _ _ _).length=_;rw[List.length_zipWith,v.out,Nat.min_self]
     have P:=Gi (.bool true) (.bool true) (.slice a4 d.aH.length c4) (.slice a5 d.aC.length c5) (.slice R d.aB.length T) (.slice (some ⟨bo,0,none⟩) d.aH.length k1) (.slice a7 d.aC.length l) (.slice a8 d.aB.length k3) d.aB (kN p.aB d).aB w4
      (HF.out.2.2.keep (In.keep D).1 (In.keep D).2) ((aP.bound (Q:=In w4) fun c _ hl=>hl).read.2.2) aR.symm c9 (fun j x' y' u cC=>by
       obtain⟨x,q⟩:=bG p.aB (aD v.out.symm) (List.getElem?_eq_some_iff.1 u).1;have bM:(List.zipWith (eC d.aH d.aC) p.aB d.aB)[j]?=some y':=cC;rw[List.getElem?_zipWith,q,u] at bM
       cases bM
       obtain⟨q1,-⟩:=aM.out.2.2.2.2 j x x' q u
       exact⟨by rw[FM q1]; exact q1,HD.out.2.2.2 x' (List.mem_of_getElem? u)⟩)
     have bT:=aD P;have aJ:=aD D;clear P D N aP f m H s TG BG c0 aU aV aW r0 r1 r2 r3 r4 aR HC
     go_wp2_with fail
     refine bT.out.mono ?_;rintro e w5 ⟨rfl,bZ⟩;have c7:=aJ.out.trans (bZ.mono aJ.out.size);have aQ:B (d.aB=(kN p.aB d).aB)=B (cJ p d):=lH ⟨fun h=>⟨Q0.out,b5.out,Q1.out,Q2.out,v.out,bR.out,HW.out,h⟩,fun h=>h.2.2.2.2.2.2.2⟩;have HI:=aD aQ;clear aQ;go_wp2;go_ret;exact⟨bI HI.out,c7⟩
end Go.Proofs.YtdhinkgjiapigaaGreatDoor

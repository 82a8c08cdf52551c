import Derived.Test.YtdhinkgjiapigaaGreatDoorDoK3
namespace Go.Proofs.YtdhinkgjiapigaaGreatDoor
open Classical
theorem GA {aH:List Bool}{secs:List Int}{aL:List Bool}(h:aL.length=secs.length):dZ aH secs (dZ aH secs aL)=dZ aH secs aL:=by
 apply List.ext_getElem?;intro k;by_cases a:k<secs.length
 ·obtain⟨s,c⟩:=bG secs (aD rfl) a;obtain⟨b,d⟩:=bG aL (aD h) a;have e:=xN (aH:=aH) c d;rw[e,xN c e]
  cases b <;> cases eA aH s <;> rfl
 ·rw[List.getElem?_eq_none (by rw[rK (rK h)]; omega),List.getElem?_eq_none (by rw[rK h]; omega)]
theorem Is (ok:Nat->Bool) (m k:Nat):pK ok m k=k+m∨ok (pK ok m k)=false:=by
 induction m generalizing k with
 | zero=>exact .inl rfl
 | succ m ih=>
  unfold pK;split
  ·rcases ih (k+1) with z | z
   ·exact .inl (by rw[z]; omega)
   ·exact .inr z
  ·rename_i h
   exact .inr (by simpa using h)
theorem GQ (ok:Nat->Bool) (m k j:Nat) (b:k<=j) (a:j<pK ok m k):ok j=true:=by
 induction m generalizing k with
 | zero=>
  have:pK ok 0 k=k:=rfl;omega
 | succ m ih=>
  unfold pK at a;split at a
  ·rename_i h
   by_cases e:j=k
   ·rw[e]; exact h
   ·exact ih (k+1) (by omega) a
  ·omega
theorem CZ {aH:List Bool}{secs:List Int}{aL:List Bool}{k:Nat}(a:k<=aL.length):k<=eH aH secs aL k∧eH aH secs aL k<=aL.length:=by
 unfold eH;have:=Dr (nY aH secs aL) (aL.length-k) k;omega
theorem GV {aH:List Bool}{secs:List Int}{aL:List Bool}{k:Nat}(a:k<=aL.length) (b:eH aH secs aL k≠aL.length):eH aH secs aL (eH aH secs aL k)=eH aH secs aL k:=by
 have c:=CZ (aH:=aH) (secs:=secs) a;refine Ac (by omega) ?_;unfold eH at b ⊢;rcases Is (nY aH secs aL) (aL.length-k) k with z | z
 ·exact absurd z (by omega)
 ·exact z
theorem zQ {aI:Int}{n:Nat}(d:0<n):fD aI n (jQ n):=by
 refine⟨⟨by show (0:Int)<=0; decide,by show (0:Int)<=4; decide⟩,List.length_replicate,⟨Int.le_refl _,by show (0:Int)<=_; omega⟩,fun _=>⟨fun k b a=>?_,rfl⟩,fun k c=>?_,fun e=>?_,fun _=>⟨rfl,fun _=>rfl,fun e=>?_⟩⟩
 ·have:=List.mem_of_getElem? a;exact (List.mem_replicate.1 this).2
 ·exact absurd (show (k:Int)<0 from c) (by omega)
 ·exact absurd (show (0:Int)=3 from e) (by decide)
 ·exact absurd (show (0:Int)=2 from e) (by decide)
theorem EI {aI:Int}{aH:List Bool}{secs:List Int}{h:aM}(u:0<secs.length) (c:h.state=4) (t:fD aI secs.length h):fD aI secs.length (jV aH secs h)∧((jV aH secs h).state=0∨(jV aH secs h).state=4∧jV aH secs (jV aH secs h)=jV aH secs h):=by
 obtain⟨w,m,n,A,x,B,y⟩:=t;have a:=rK (aH:=aH) m
 have l:h.gone.toNat<=(dZ aH secs h.aL).length:=by have:=n.1; have:=n.2; omega
 have r:=CZ (aH:=aH) (secs:=secs) l;unfold jV;by_cases e:eH aH secs (dZ aH secs h.aL) h.gone.toNat=(dZ aH secs h.aL).length
 ·rw[if_pos e,a];exact⟨zQ u,.inl rfl⟩
 ·rw[if_neg e];refine⟨⟨w,a,⟨by show (0:Int)<=((eH aH secs (dZ aH secs h.aL) h.gone.toNat:Nat):Int); omega,by show ((eH aH secs (dZ aH secs h.aL) h.gone.toNat:Nat):Int)<=_; omega⟩,fun z=>absurd c z,fun k d=>?_,fun z=>absurd (c.symm.trans z) (by decide),fun z=>?_⟩,.inr ⟨c,?_⟩⟩
  ·have f:k<eH aH secs (dZ aH secs h.aL) h.gone.toNat:=by
    have:(k:Int)<((eH aH secs (dZ aH secs h.aL) h.gone.toNat:Nat):Int):=d;omega
   show (dZ aH secs h.aL)[k]?=some true;by_cases q:k<h.gone.toNat
   ·obtain⟨s,v⟩:=bG secs (aD rfl) (show k<secs.length by omega);rw[xN v (x k (by omega))];rfl
   ·have g:=GQ _ _ _ k (by omega) f;unfold nY at g;simp only[Bool.and_eq_true] at g;obtain⟨b,j⟩:=bG (dZ aH secs h.aL) (aD a) (show k<secs.length by omega);have i:=g.1.1;rw[List.getD_eq_getElem?_getD,j] at i;rw[j];exact congrArg some i
  ·have:=y (by rw[c]; decide);exact⟨this.1,fun o=>absurd (c.symm.trans o) (by decide),fun p=>absurd (c.symm.trans p) (by decide)⟩
  ·show (if eH aH secs (dZ aH secs (dZ aH secs h.aL)) ((eH aH secs (dZ aH secs h.aL) h.gone.toNat:Nat):Int).toNat=(dZ aH secs (dZ aH secs h.aL)).length then jQ (dZ aH secs (dZ aH secs h.aL)).length else { h with aL:=dZ aH secs (dZ aH secs h.aL),gone:=((eH aH secs (dZ aH secs (dZ aH secs h.aL)) ((eH aH secs (dZ aH secs h.aL) h.gone.toNat:Nat):Int).toNat:Nat):Int) })=_;rw[GA m,Int.toNat_natCast,GV l e,if_neg e]
theorem JD {aI:Int}{n:Nat}{h:aM}(a:fD aI n h):fD aI n { h with state:=4,aN:=0 }:=by
 obtain⟨e,b,c,f,d,g,i⟩:=a;exact⟨⟨by show (0:Int)<=4; decide,by show (4:Int)<=4; decide⟩,b,c,fun z=>absurd rfl z,d,fun z=>absurd (show (4:Int)=3 from z) (by decide),fun _=>⟨rfl,fun z=>absurd (show (4:Int)=0 from z) (by decide),fun z=>absurd (show (4:Int)=2 from z) (by decide)⟩⟩
theorem Hk {aI:Int}{aH:List Bool}{aC:List (Int×Int)}{x:aT}{h:aM}(p:0<x.aA.length) (g:fD aI x.aA.length h):fD aI x.aA.length (eC aH aC x h)∧eC aH aC x (eC aH aC x h)=eC aH aC x h∧(h.state=0->eC aH aC x h=h):=by
 by_cases f:h.state=0
 ·rw[tG f];exact⟨g,tG f,fun _=>rfl⟩
 refine (fun z:_∧_=>⟨z.1,z.2,fun e=>absurd e f⟩) ?_;by_cases b:h.state=4
 ·rw[vH b];obtain⟨d,c | ⟨c,n⟩⟩:=EI (aH:=aH) p b g
  ·exact⟨d,tG c⟩
  ·exact⟨d,by rw[vH c,n]⟩
 cases ho:eA aH (x.aA.getD 0 0) with
 | true=>
  rw[xL f b ho];obtain⟨d,c | ⟨c,n⟩⟩:=EI (aH:=aH) (h:={ h with state:=4,aN:=0 }) p rfl (JD g)
  ·exact⟨d,tG c⟩
  ·exact⟨d,by rw[vH c,n]⟩
 | false=>
  obtain⟨q,i,j,k,l,r,m⟩:=g;by_cases a:h.state=1∨h.state=2
  ·have o:h.state≠3:=by omega
   cases hp:jT aH aC x with
   | true=>
    rw[xF a ho hp];refine⟨⟨⟨by show (0:Int)<=2; decide,by show (2:Int)<=4; decide⟩,i,j,fun _=>k b,l,fun z=>absurd (show (2:Int)=3 from z) (by decide),fun _=>⟨(m o).1,fun z=>absurd (show (2:Int)=0 from z) (by decide),fun _=>rfl⟩⟩,?_⟩;rw[xF (.inr rfl) ho hp]
   | false=>
    rw[xE a ho hp];refine⟨⟨⟨by show (0:Int)<=1; decide,by show (1:Int)<=4; decide⟩,i,j,fun _=>k b,l,fun z=>absurd (show (1:Int)=3 from z) (by decide),fun _=>⟨(m o).1,fun z=>absurd (show (1:Int)=0 from z) (by decide),fun z=>absurd (show (1:Int)=2 from z) (by decide)⟩⟩,?_⟩;rw[xE (.inl rfl) ho hp]
  ·rw[yN b (fun z=>a (.inl z)) (fun z=>a (.inr z)) ho];exact⟨⟨q,i,j,k,l,r,m⟩,yN b (fun z=>a (.inl z)) (fun z=>a (.inr z)) ho⟩
theorem CJ {aB:List aT}{d:aF}{i:Nat}{g:aM}(h:(kN aB d).aB[i]?=some g):∃x y,aB[i]?=some x∧d.aB[i]?=some y∧g=eC d.aH d.aC x y:=by
 change (List.zipWith (eC d.aH d.aC) aB d.aB)[i]?=some g at h;rw[List.getElem?_zipWith] at h
 cases hx:aB[i]? with
 | none=>rw[hx] at h; cases h
 | some x=>
  cases hy:d.aB[i]? with
  | none=>rw[hx,hy] at h; cases h
  | some y=>
   rw[hx,hy] at h;exact⟨x,y,rfl,rfl,(Option.some.inj h).symm⟩
def Bh (p:aK) (d:aF):Prop:=
 d.ok=true∧(d.aH.length:Int)=p.aA∧d.aC.length=p.aE.length∧d.aB.length=p.aB.length∧(∀(k:Nat) x,d.aC[k]?=some x->pI x)∧∀i,i<d.aB.length->uE p d i
theorem GI {p:aK}{d:aF}(q:Right p) (h:Bh p d):cJ p (kN p.aB d):=by
 obtain⟨t,u,v,F,w,o⟩:=h
 have B:(kN p.aB d).aB.length=p.aB.length:=by
  show (List.zipWith _ p.aB d.aB).length=_;rw[List.length_zipWith];omega
 have a:∀(i:Nat) x y,p.aB[i]?=some x->d.aB[i]?=some y->fD p.aI x.aA.length (eC d.aH d.aC x y)∧eC d.aH d.aC x (eC d.aH d.aC x y)=eC d.aH d.aC x y∧(y.state=0->eC d.aH d.aC x y=y):=fun i x y b c=>
  Hk (List.length_pos_iff.2 (q.way b).1) (o i (List.getElem?_eq_some_iff.1 c).1 x y b c).1
 refine⟨q,t,u,v,B,w,fun i hi=>?_,?_⟩
 ·intro x g b A;obtain⟨G,y,m,f,rfl⟩:=CJ A;rw[b] at m
  cases m
  refine⟨(a i x y b f).1,fun k E l j e C=>?_⟩;obtain⟨D,s,f1,n,rfl⟩:=CJ j;have c:y.state≠0:=fun z=>C (by rw[(a i x y b f).2.2 z]; exact z);have r:=(o i (List.getElem?_eq_some_iff.1 f).1 x y b f).2 k s l n e c;rw[(a k D s f1 n).2.2 r];exact r
 ·show List.zipWith (eC d.aH d.aC) p.aB d.aB=List.zipWith (eC d.aH d.aC) p.aB (List.zipWith (eC d.aH d.aC) p.aB d.aB);apply List.ext_getElem?;intro i;rw[List.getElem?_zipWith,List.getElem?_zipWith,List.getElem?_zipWith]
  cases b:p.aB[i]? with
  | none=>rfl
  | some x=>
   cases c:d.aB[i]? with
   | none=>rfl
   | some y=>exact congrArg some (a i x y b c).2.1.symm
theorem Right.sym {p:aK}(b:Right p) {i k:Nat}(hi:i<p.aB.length) (a:k<p.aB.length):p.bar i k=p.bar k i:=
 Decidable.byContradiction fun z=>b.parts.2.2.2.2.2 i ⟨hi,k,a,.inl z⟩
theorem Dm {p:aK}{d e:aF}(n:cJ p d) {k:Nat}{x:aT}{y:aM}(w:p.aB[k]?=some x) (B:fD p.aI x.aA.length y) (u:y.state≠0->∀(j:Nat) g,k≠j->d.aB[j]?=some g->p.bar k j=some true->g.state=0) (o:e.aB=d.aB.set k y):∀i,i<e.aB.length->uE p e i:=by
 have v:=n.2.2.2.2.1;have r:k<p.aB.length:=(List.getElem?_eq_some_iff.1 w).1;intro i hi z h m f;have q:i<p.aB.length:=(List.getElem?_eq_some_iff.1 m).1;rw[o] at f;by_cases t:i=k
 ·subst t;rw[w] at m
  cases m
  rw[List.getElem?_set_self (by omega)] at f
  cases f
  refine⟨B,fun j g b c a l=>?_⟩;rw[o,List.getElem?_set_ne b] at c;exact u l j g b c a
 ·rw[List.getElem?_set_ne (Ne.symm t)] at f;obtain⟨C,D⟩:=n.2.2.2.2.2.2.1 i (by omega) z h m f;refine⟨C,fun j g b c a l=>?_⟩;rw[o] at c;by_cases A:j=k
  ·subst A;rw[List.getElem?_set_self (by omega)] at c
   cases c
   refine Decidable.byContradiction fun s=>l ?_;exact u s i h (Ne.symm t) f ((n.1.sym r q).trans a)
  ·rw[List.getElem?_set_ne (Ne.symm A)] at c;exact D j g b c a l
theorem BV {aC:List (Int×Int)}{k:Nat}{g:Int×Int->Int×Int}(h:∀(k:Nat) x,aC[k]?=some x->pI x) (b:∀x,pI x->pI (g x)):∀(j:Nat) x,(kB aC k g)[j]?=some x->pI x:=fun j x a=>by
 cases hk:aC[k]? with
 | none=>
  unfold kB at a
  rw[hk] at a
  exact h j x a
 | some pt=>
  rw[uZ g hk] at a
  by_cases e:j=k
  ·subst e
   rw[List.getElem?_set_self (List.getElem?_eq_some_iff.1 hk).1] at a
   cases a
   exact b pt (h _ pt hk)
  ·rw[List.getElem?_set_ne (Ne.symm e)] at a
   exact h j x a
theorem Gb {aC l:List (Int×Int)}(h:∀(k:Nat) x,aC[k]?=some x->pI x) (a:∀y∈l,bN y.2 1 2):∀(j:Nat) x,(fZ aC l)[j]?=some x->pI x:=by
 induction l generalizing aC with
 | nil=>exact h
 | cons y l ih=>exact ih (BV h fun x b=>⟨a y List.mem_cons_self,b.2⟩) fun z c=>a z (List.mem_cons_of_mem _ c)
theorem Ib {p:aK}{d:aF}{i:Nat}{x:aT}{h:aM}(e:kQ p d i x h=0):qY p d i=[]:=by
 have a:=Al e;unfold kQ pT at e;rw[if_neg (by simp[a])] at e;by_cases z:0<(qY p d i).length
 ·rw[if_pos z] at e
  cases e
 ·exact List.eq_nil_of_length_eq_zero (by omega)
theorem Ih (p:aK) (d:aF) (i:Nat) (x:aT) (h:aM):kQ p d i x h≠1:=by
 unfold kQ pT;split
 ·decide
 split
 ·decide
 split
 ·decide
 split
 ·decide
 split <;> decide
theorem EK (p:aK) (d:aF) (b of a:Int):(cO p d b of a).1≠1:=by
 unfold cO;split
 ·split
  ·unfold oN;split
   ·exact (by decide:(0:Int)≠1)
   ·exact Ih _ _ _ _ _
  ·exact (by decide:(0:Int)≠1)
 split
 ·split
  ·unfold jP;split
   ·exact (by decide:(0:Int)≠1)
   ·exact (by decide:(2:Int)≠1)
  ·exact (by decide:(0:Int)≠1)
 split
 ·exact (by decide:(0:Int)≠1)
 split
 ·exact (by decide:(0:Int)≠1)
 split
 ·exact (by decide:(0:Int)≠1)
 split
 ·unfold mW;split
  ·exact (by decide:(2:Int)≠1)
  split
  ·exact (by decide:(3:Int)≠1)
  ·exact (by decide:(0:Int)≠1)
 ·exact (by decide:(0:Int)≠1)
theorem DW {m:Nat}{l:List (Int×Int)}(h:dJ m l) {y:Int×Int}(b:y∈l):bN y.2 1 2:=by
 obtain⟨j,a⟩:=List.getElem?_of_mem b;exact (h.1 j (List.getElem?_eq_some_iff.1 a).1 y a).1.2
theorem Dy {aI:Int}{n:Nat}{h:aM}(d:0<n) (b:fD aI n h):fD aI n (dW h)∧(h.state=0->(dW h).state=0):=by
 unfold dW;obtain⟨f,c,g,i,j,k,m⟩:=id b;split
 ·rename_i e
  have a:=k e;split
  ·rw[c];exact⟨zQ d,fun _=>rfl⟩
  ·rename_i l
   exact⟨⟨f,c,g,i,j,fun _=>⟨a.1,by show (1:Int)<=h.aN-1; have:=a.2.1; omega,by show h.aN-1<=aI; have:=a.2.2; omega⟩,fun z=>absurd e z⟩,fun z=>z⟩
 ·exact⟨b,fun z=>z⟩
theorem Ir {p:aK}{d:aF}{Y of r:Int}(H:cJ p d) (U:fI p.aA p.aE.length p.aB.length Y of r):Bh p (cO p d Y of r).2:=by
 obtain⟨D,l,f,n,u,m,b,-⟩:=id H;have a:Bh p d:=⟨l,f,n,u,m,b⟩;have w:=D.parts.1.2.2.2;unfold cO;split
 ·split
  ·rename_i x h o t
   have A:=(b _ (List.getElem?_eq_some_iff.1 t).1 x h o t).1;unfold oN;split
   ·rename_i e
    have S:=Al e;obtain⟨k1,G,N,O,P,k6,X⟩:=A;have E:=D.way o;refine⟨l,f,(vI _ _).trans n,List.length_set.trans u,Gb m fun y hy=>?_,Dm H o (y:={ h with state:=1 }) ?_ (fun _ j g C s c=>?_) rfl⟩
    ·rcases List.mem_append.1 hy with z | z
     ·exact DW E.2.2.2.2.1 z
     ·exact DW E.2.2.2.2.2.1 z
    ·have Q:=X (by rw[S]; decide);exact⟨⟨by show (0:Int)<=1; decide,by show (1:Int)<=4; decide⟩,G,N,fun _=>O (by rw[S]; decide),P,fun z=>absurd (show (1:Int)=3 from z) (by decide),fun _=>⟨Q.1,fun z=>absurd (show (1:Int)=0 from z) (by decide),fun z=>absurd (show (1:Int)=2 from z) (by decide)⟩⟩
    ·refine Decidable.byContradiction fun B=>?_;have J:j<d.aB.length:=(List.getElem?_eq_some_iff.1 s).1;obtain⟨xj,M⟩:=bG p.aB (aD rfl) (show j<p.aB.length by omega)
     have V:j∈qY p d of.toNat:=by
      unfold qY;rw[List.mem_filter];refine⟨?_,?_⟩
      ·unfold gI;rw[List.mem_filter,List.mem_range];exact⟨J,by rw[xI s]; simpa using B⟩
      ·unfold tK;rw[o,M,c];simp;omega
     rw[Ib e] at V
     cases V
   ·exact a
  ·exact a
 split
 ·split
  ·rename_i x h o t
   obtain⟨A,L⟩:=b _ (List.getElem?_eq_some_iff.1 t).1 x h o t;unfold jP;split
   ·rename_i Z
    have B:h.state≠0:=by omega
    refine⟨l,f,n,List.length_set.trans u,m,Dm H o (y:=iO p.aI d.aH x h) ?_ (fun _ j g C s c=>L j g C s c B) rfl⟩;obtain⟨k1,G,N,O,P,k6,X⟩:=A;unfold iO;split
    ·rename_i R
     rw[Bool.and_eq_true] at R;exact⟨⟨by show (0:Int)<=3; decide,by show (3:Int)<=4; decide⟩,G,N,fun _=>O (by omega),P,fun _=>⟨R.1,w.1,Int.le_refl _⟩,fun z=>absurd rfl z⟩
    ·rw[G];exact zQ (List.length_pos_iff.2 (D.way o).1)
   ·exact a
  ·exact a
 split
 ·exact⟨l,by show ((d.aH.set of.toNat true).length:Int)=_; rw[List.length_set]; exact f,n,u,m,b⟩
 split
 ·exact⟨l,by show ((d.aH.set of.toNat false).length:Int)=_; rw[List.length_set]; exact f,n,u,m,b⟩
 split
 ·rename_i e5
  have K:bN r 0 2:=by
   rcases U with ⟨h,-⟩ | ⟨h,-⟩ | ⟨-,-,h⟩ | ⟨h,-⟩ | ⟨h,-⟩
   ·omega
   ·omega
   ·exact h
   ·omega
   ·omega
  exact⟨l,f,(xH _ _ _).trans n,u,BV m fun x o=>⟨o.1,K⟩,b⟩
 split
 ·rename_i e6
  have K:bN r 1 2:=by
   rcases U with ⟨h,-⟩ | ⟨h,-⟩ | ⟨h,-⟩ | ⟨-,-,h⟩ | ⟨h,-⟩
   ·omega
   ·omega
   ·omega
   ·exact h
   ·omega
  unfold mW;split
  ·exact a
  split
  ·exact a
  ·exact⟨l,f,(xH _ _ _).trans n,u,BV m fun x o=>⟨K,o.2⟩,b⟩
 ·refine⟨l,f,n,(by show (d.aB.map dW).length=_; rw[List.length_map]; exact u),m,fun i _ x g o s=>?_⟩;change (d.aB.map dW)[i]?=some g at s;rw[List.getElem?_map] at s;obtain⟨h,t,rfl⟩:=Option.map_eq_some_iff.1 s;obtain⟨q1,q2⟩:=b i (List.getElem?_eq_some_iff.1 t).1 x h o t;have W:=Dy (List.length_pos_iff.2 (D.way o).1) q1;refine⟨W.1,fun k g2 I v c hs=>?_⟩;change (d.aB.map dW)[k]?=some g2 at v;rw[List.getElem?_map] at v;obtain⟨T,q,rfl⟩:=Option.map_eq_some_iff.1 v;have hz:=q2 k T I q c fun z=>hs (W.2 z);obtain⟨x2,F⟩:=bG p.aB (aD rfl) (show k<p.aB.length by have:=(List.getElem?_eq_some_iff.1 q).1; omega);exact (Dy (List.length_pos_iff.2 (D.way F).1) (b k (List.getElem?_eq_some_iff.1 q).1 x2 T F q).1).2 hz
theorem D9 {p:aK}{d:aF}{c of a:Int}(b:cJ p d) (e:fI p.aA p.aE.length p.aB.length c of a):cJ p (jR p d c of a).2:=GI b.1 (Ir b e)
section
open Go.Deep Go.RowKit
def pL (P:Nat->Prop) (w:World) (v:Value) (l:List (Int×Int×Int)):Prop:=
 Sl P v l.length fun b off i=>∀x,l[i]?=some x->w.cell? ⟨b,off+i*3,none⟩=some (.int .i64 x.1)∧w.cell? ⟨b,off+i*3+1,none⟩=some (.int .i64 x.2.1)∧w.cell? ⟨b,off+i*3+2,none⟩=some (.int .i64 x.2.2)
theorem pL.keep {P Q:Nat->Prop}{w w':World}{v:Value}{l:List (Int×Int×Int)}(h:pL P w v l) (c:Same P w w') (d:∀b,P b->Q b):pL Q w' v l:=
 Sl.imp h d fun b off i a _ e x f=>by rw[c b a,c b a,c b a]; exact e x f
def rE (p:aK) (e:Int×Int×Int):Prop:=fI p.aA p.aE.length p.aB.length e.1 e.2.1 e.2.2
def Bf (p:aK) (e:Int×Int×Int):Decidable (rE p e):=by unfold rE fI bN; infer_instance
def AB (p:aK) (e:Int×Int×Int):Bool:=@decide (rE p e) (Bf p e)
theorem Iq {p:aK}{e:Int×Int×Int}(h:rE p e):AB p e=true:=@decide_eq_true _ (Bf p e) h
theorem HU {p:aK}{e:Int×Int×Int}(h:¬rE p e):AB p e=false:=@decide_eq_false _ (Bf p e) h
def jW (p:aK) (f:aF) (e:Int×Int×Int):Int×aF:=if AB p e=true then jR p f e.1 e.2.1 e.2.2 else (1,f)
theorem xS {p:aK}{f:aF}{e:Int×Int×Int}(h:rE p e):jW p f e=jR p f e.1 e.2.1 e.2.2:=if_pos (Iq h)
theorem zM {p:aK}{f:aF}{e:Int×Int×Int}(h:¬rE p e):jW p f e=(1,f):=if_neg (by rw[HU h]; decide)
theorem BN {p:aK}{f:aF}(a:cJ p f) (e:Int×Int×Int):cJ p (jW p f e).2:=by
 by_cases h:rE p e
 ·rw[xS h];exact D9 a h
 ·rw[zM h];exact a
def rC (f:aF) (l:List (Int×aF)):aF:=match l.getLast? with
 | some x=>x.2
 | none=>f
theorem zO (f:aF) (l:List (Int×aF)) (x:Int×aF):rC f (l++[x])=x.2:=by unfold rC; rw[List.getLast?_concat]
def iV (p:aK) (f:aF) (es:List (Int×Int×Int)):List (Int×aF):=es.foldl (fun l e=>l++[jW p (rC f l) e]) []
theorem IE (p:aK) (f:aF) (a:List (Int×Int×Int)) (e:Int×Int×Int):iV p f (a++[e])=iV p f a++[jW p (rC f (iV p f a)) e]:=by unfold iV; rw[List.foldl_append]; rfl
theorem vO (p:aK) (f:aF) {a:List (Int×Int×Int)}{k:Nat}{e:Int×Int×Int}(h:a[k]?=some e):iV p f (a.take (k+1))=iV p f (a.take k)++[jW p (rC f (iV p f (a.take k))) e]:=by
 rw[List.take_add_one,h];exact IE p f (a.take k) e
theorem yW (p:aK) (f:aF) (a:List (Int×Int×Int)) (k:Nat) (c:k<=a.length):(iV p f (a.take k)).length=k:=by
 induction k with
 | zero=>rfl
 | succ k ih=>
  obtain⟨e,b⟩:=bG a (aD rfl) (show k<a.length by omega);rw[vO p f b,List.length_append,ih (by omega)];rfl
def iZ (p:aK) (es:List (Int×Int×Int)) [Decidable (Right p∧es.length<=1000)]:List (Int×aF):=if Right p∧es.length<=1000 then iV p (bT p) es else []
theorem xM {p:aK}(b:Right p):cJ p (bT p):=by
 have c:=b.parts.1.1;refine⟨b,rfl,?_,List.length_replicate,oE _,fun k x a=>?_,fun i _ x h a d=>?_,?_⟩
 ·show ((List.replicate p.aA.toNat false).length:Int)=_;rw[List.length_replicate];have:=c.1;omega
 ·have:=(List.mem_replicate.1 (List.mem_of_getElem? (show (List.replicate p.aE.length ((1,1):Int×Int))[k]?=some x from a))).2;subst this;exact⟨⟨by decide,by decide⟩,⟨by decide,by decide⟩⟩
 ·have e:=(yP a).symm.trans (show (lJ p.aB)[i]?=some h from d)
  cases e
  refine⟨zQ (List.length_pos_iff.2 (b.way a).1),fun k g _ _ _ c=>absurd rfl c⟩
 ·show lJ p.aB=List.zipWith _ p.aB (lJ p.aB);apply List.ext_getElem?;intro i;rw[List.getElem?_zipWith]
  cases a:p.aB[i]? with
  | none=>
   rw[List.getElem?_eq_none (by rw[oE]; exact List.getElem?_eq_none_iff.1 a)]
  | some x=>
   rw[yP a];exact congrArg some (tG rfl).symm
def fL (W:World) (l:List (Int×aF)) (xs:List Value) (lo:Nat->Nat):Prop:=
 ∀(j:Nat) x,l[j]?=some x->∃u1 u2 u3 bo bp bw bb,xs[j*5]?=some (.int .i64 x.1)∧xs[j*5+1]?=some (.bool x.2.ok)∧xs[j*5+2]?=some u1∧xs[j*5+3]?=some u2∧xs[j*5+4]?=some u3∧aP (fun c=>lo j<=c∧c<lo (j+1)) W u1 u2 u3 x.2 bo bp bw bb
theorem aP.away {P:Nat->Prop}{W:World}{v1 v2 v3:Value}{d:aF}{j k l g:Nat}{bb:Nat->Nat}(h:aP P W v1 v2 v3 d j k l bb) (e:∀t N f b,W.rowIs b t N f->t=4∨t=46∨t=44->b≠g):aP (fun c=>P c∧c≠g) W v1 v2 v3 d j k l bb:=by
 refine⟨h.aH,h.aC,h.aB,⟨h.po,?_⟩,fun z=>⟨h.pp z,?_⟩,fun z=>⟨h.pw z,?_⟩,fun i hi=>⟨h.pb i hi,?_⟩,h.inj,h.off⟩
 ·obtain⟨_,_,a⟩:=h.aH.row;exact e _ _ _ _ a (.inl rfl)
 ·obtain⟨_,_,a⟩:=h.aC.row z;exact e _ _ _ _ a (.inr (.inl rfl))
 ·obtain⟨_,_,a⟩:=h.aB.row z;exact e _ _ _ _ a (.inr (.inr rfl))
 ·obtain⟨_,_,a⟩:=h.aB.aL hi;exact e _ _ _ _ a (.inl rfl)
theorem aP.grown {P:Nat->Prop}{W W':World}{v1 v2 v3:Value}{d:aF}{k l m:Nat}{bb:Nat->Nat}{base size n:Nat}{u:Value}{xs:List Value}(h:aP P W v1 v2 v3 d k l m bb) (a:W.grownBy W' u.ownBlock) (i:W.ownsRow base 42 size u n xs):aP P W' v1 v2 v3 d k l m bb:=by
 have o:But (fun c=>some c≠u.ownBlock) W W':=⟨a.os,a.tape,a.output,a.size,fun c j p=>a.block c j p⟩
 cases e:u.ownBlock with
 | none=>exact h.but o (fun c _=>by rw[e]; exact fun z=>by cases z) fun _ z=>z
 | some g=>
  refine (h.away (g:=g) fun t N f b q r=>(gJ i e).2.2 t N f b q ?_).but o (fun c j=>by rw[e]; exact fun z=>j.2 (Option.some.inj z)) fun _ z=>z.1
  rcases r with rfl | rfl | rfl <;> decide
theorem aP.boxed {P K:Nat->Prop}{W W':World}{v1 v2 v3:Value}{d:aF}{j k l g t N:Nat}{f:Nat->Value}{bb:Nat->Nat}(h:aP P W v1 v2 v3 d j k l bb) (p:W.rowIs g t N f) (e:t≠4∧t≠46∧t≠44) (m:But K W W') (o:∀c,c≠g->K c):aP P W' v1 v2 v3 d j k l bb:=by
 refine (h.away (g:=g) fun s q r b a i=>?_).but m (fun c n=>o c n.2) fun _ z=>z.1;refine iU a p ?_;rcases i with rfl | rfl | rfl
 ·exact e.1.symm
 ·exact e.2.1.symm
 ·exact e.2.2.symm
theorem fL.map {W W':World}{l:List (Int×aF)}{xs:List Value}{lo:Nat->Nat}(h:fL W l xs lo) (i:∀(P:Nat->Prop) v1 v2 v3 d bo bp bw bb,aP P W v1 v2 v3 d bo bp bw bb->aP P W' v1 v2 v3 d bo bp bw bb):fL W' l xs lo:=fun j x k=>by
 obtain⟨m,n,o,bo,bp,bw,bb,a,b,c,e,f,g⟩:=h j x k
 exact⟨m,n,o,bo,bp,bw,bb,a,b,c,e,f,i _ _ _ _ _ _ _ _ _ g⟩
theorem fL.snoc {W:World}{l:List (Int×aF)}{xs:List Value}{lo:Nat->Nat}{x:Int×aF}{d f g:Value}{i k m hi:Nat}{bb:Nat->Nat}(h:fL W l xs lo) (a:xs.length=l.length*5) (z:aP (fun c=>lo l.length<=c∧c<hi) W d f g x.2 i k m bb) :
  fL W (l++[x]) (xs++[.int .i64 x.1,.bool x.2.ok,d,f,g]) (fun j=>if j=l.length+1 then hi else lo j):=by
 intro j y b;by_cases e:j=l.length
 ·subst e;rw[List.getElem?_append_right (Nat.le_refl _),Nat.sub_self] at b
  cases b
  refine⟨d,f,g,i,k,m,bb,?_,?_,?_,?_,?_,?_⟩
  ·rw[List.getElem?_append_right (by omega),a,Nat.sub_self]; rfl
  ·rw[List.getElem?_append_right (by omega),a,show l.length*5+1-l.length*5=1 by omega]; rfl
  ·rw[List.getElem?_append_right (by omega),a,show l.length*5+2-l.length*5=2 by omega]; rfl
  ·rw[List.getElem?_append_right (by omega),a,show l.length*5+3-l.length*5=3 by omega]; rfl
  ·rw[List.getElem?_append_right (by omega),a,show l.length*5+4-l.length*5=4 by omega]; rfl
  ·simp only[if_true];rw[if_neg (by omega)];exact z
 ·have A:j<l.length:=by
   have:=(List.getElem?_eq_some_iff.1 b).1;rw[List.length_append] at this;simp at this;omega
  rw[List.getElem?_append_left A] at b;obtain⟨v1,v2,v3,n,o,p,q,r,s,t,u,v,w⟩:=h j y b;refine⟨v1,v2,v3,n,o,p,q,?_,?_,?_,?_,?_,?_⟩
  ·rw[List.getElem?_append_left (by omega)]; exact r
  ·rw[List.getElem?_append_left (by omega)]; exact s
  ·rw[List.getElem?_append_left (by omega)]; exact t
  ·rw[List.getElem?_append_left (by omega)]; exact u
  ·rw[List.getElem?_append_left (by omega)]; exact v
  ·simp only[if_neg (show ¬j=l.length+1 by omega),if_neg (show ¬j+1=l.length+1 by omega)];exact w
theorem cQ.own {a:Nat}{w:World}{v1 v2 v3:Value}{d:aF}(h:cQ a w v1 v2 v3 d) (b:0<d.aH.length):∃bo bp bw bb,aP (fun c=>a<=c) w v1 v2 v3 d bo bp bw bb:=by
 rcases h with h | ⟨-,-,-,e,-,-⟩
 ·exact h
 ·rw[e] at b;exact absurd b (by decide)
theorem vB {p:aK}{d:aF}(a:cJ p d):0<d.aH.length:=by
 have:=a.2.2.1;have:=a.1.parts.1.1.1;omega
theorem oH {p:aK}{d:aF}(b:cJ p d):d.Small 1048576:=by
 have a:=tV b.1 b.2.2.1 b.2.2.2.1 b.2.2.2.2.1 b.2.2.2.2.2.2.1;refine⟨a.2.2.1,a.2.2.2.1,by have:=a.1; have:=a.2.1; omega,fun h c=>?_⟩;obtain⟨i,hi⟩:=List.getElem?_of_mem c;obtain⟨x,e⟩:=bG p.aB (aD rfl) (show i<p.aB.length by have:=(List.getElem?_eq_some_iff.1 hi).1; have:=a.1; omega);have:=a.2.2.2.2 i x h e hi;have f:=this.1;have g:=this.2.2.1.1;omega
end
end Go.Proofs.YtdhinkgjiapigaaGreatDoor

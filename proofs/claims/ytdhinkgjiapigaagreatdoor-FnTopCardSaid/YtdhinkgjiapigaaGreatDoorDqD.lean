import Derived.Test.YtdhinkgjiapigaaGreatDoorDrawE
namespace Go.Proofs.YtdhinkgjiapigaaGreatDoor
open Classical Go.Deep Go.RowKit
structure Src where
 n:Nat
 f:Nat->Int
def mZ (P:Nat->Prop) (w:World) (v:Value) (z:Src):Prop:=Sl P v z.n fun b off i=>(0<=z.f i∧z.f i<=255)∧w.cell? ⟨b,off+i,none⟩=some (.int .u8 (z.f i))
theorem mZ.keep {P Q:Nat->Prop}{w w':World}{v:Value}{z:Src}(h:mZ P w v z) (e:Same P w w') (c:∀b,P b->Q b):mZ Q w' v z:=
 Sl.imp h c fun b off i d _ a=>⟨a.1,by rw[e b d]; exact a.2⟩
theorem yJ.named {P:Nat->Prop}{w:World}{v:Value}{n:Nat}(h:yJ P w v n):∃z:Src,z.n=n∧mZ P w v z:=by
 obtain⟨a,c,e,h⟩:=h;rcases h with h | ⟨b,off,f,g,h⟩
 ·exact⟨⟨n,fun _=>0⟩,rfl,a,c,e,.inl h⟩
 ·refine⟨⟨n,fun i=>if hi:i<n then Classical.choose (h i hi) else 0⟩,rfl,a,c,e,.inr ⟨b,off,f,g,fun i hi=>?_⟩⟩;have d:i<n:=hi;have k:=Classical.choose_spec (h i d);show (0<=(if hi:i<n then Classical.choose (h i hi) else 0)∧(if hi:i<n then Classical.choose (h i hi) else 0)<=255)∧w.cell? ⟨b,off+i,none⟩=some (.int .u8 (if hi:i<n then Classical.choose (h i hi) else 0));rw[dif_pos d];exact⟨⟨k.1,k.2.1⟩,k.2.2⟩
def cX (z:Src):Nat->Int
 | 0=>0
 | i+1=>if i<z.n then IntKind.u64.wrap (IntKind.u64.wrap (IntKind.u64.wrap (cX z i*6364136223846793005)+z.f i)+1442695040888963407) else IntKind.u64.wrap (IntKind.u64.wrap (cX z i*6364136223846793005)+1442695040888963407)
def eR (z:Src) (i:Nat):Nat:=if i<z.n then (z.f i).toNat else (wrap64 (bits .and .u64 (cX z (i+1) / 1099511627776) 255)).toNat
def aU (z:Src) (n i:Nat):Nat×Nat:=if n<=1 then (0,i) else if 200<n then ((eR z i*256+eR z (i+1)) % n,i+2) else (eR z i % n,i+1)
theorem tB (z:Src):∀i,0<=cX z i∧cX z i<18446744073709551616
 | 0=>⟨Int.le_refl _,by show (0:Int)<18446744073709551616; decide⟩
 | i+1=>by
  unfold cX
  split
  ·exact Bd _
  ·exact Bd _
structure iW where
 k:Nat
 i:Nat
 z:Src
structure eW (W:World) (cb:Nat) (K:iW):Prop where
 ex:∃(a:Option Addr) (c:Nat),W.rowIs cb 74 3 (fun j=>(#[.slice a K.z.n c,.int .i64 (K.i:Int),.int .u64 (cX K.z K.i)]:Array Value)[j]!)∧mZ (fun b=>b<cb) W (.slice a K.z.n c) K.z
 n:K.z.n<=1048576
 le:K.i<=K.k
theorem eW.mono {z:Src}{W:World}{cb K L i:Nat}(h:eW W cb ⟨K,i,z⟩) (a:K<=L):eW W cb ⟨L,i,z⟩:=⟨h.ex,h.n,Nat.le_trans h.le a⟩
theorem eW.lt {W:World}{cb:Nat}{K:iW}(h:eW W cb K):cb<W.heap.size:=by
 obtain⟨_,_,h,-⟩:=h.ex;exact h.lt
theorem eW.but {W W':World}{cb:Nat}{K:iW}{Q:Nat->Prop}(h:eW W cb K) (d:But Q W W') (f:∀b,b<=cb->Q b):eW W' cb K:=by
 have j:=h.lt;obtain⟨a,c,g,i⟩:=h.ex;exact⟨⟨a,c,d.row g (f _ (Nat.le_refl _)),i.keep (d.same fun b (e:b<cb)=>⟨by omega,f b (by omega)⟩) fun b e=>e⟩,h.n,h.le⟩
theorem eW.step {z:Src}{w:World}{cb K:Nat}{a:Option Addr}{c i:Nat}{s x:Int}(g:w.rowIs cb 74 3 (fun j=>(#[.slice a z.n c,.int .i64 (i:Int),.int .u64 s]:Array Value)[j]!)) (h:mZ (fun b=>b<cb) w (.slice a z.n c) z) (k:z.n<=1048576) (hi:i<=K) (m:Nat) (o:x=cX z (i+1)) :
  (eW (((w.drewN m).setCell ⟨cb,1,none⟩ (.int .i64 ((i:Int)+1))).setCell ⟨cb,2,none⟩ (.int .u64 x)) cb ⟨K+1,i+1,z⟩∧But (fun b=>b≠cb) w (((w.drewN m).setCell ⟨cb,1,none⟩ (.int .i64 ((i:Int)+1))).setCell ⟨cb,2,none⟩ (.int .u64 x))) ∧
  (eW (((w.drewN m).setCell ⟨cb,2,none⟩ (.int .u64 x)).setCell ⟨cb,1,none⟩ (.int .i64 ((i:Int)+1))) cb ⟨K+1,i+1,z⟩∧But (fun b=>b≠cb) w (((w.drewN m).setCell ⟨cb,2,none⟩ (.int .u64 x)).setCell ⟨cb,1,none⟩ (.int .i64 ((i:Int)+1)))):=by
 have e:But (fun b=>b≠cb) w (w.drewN m):=But.aG (pG _ m);have f:=dP g (pG w m);subst o;constructor
 ·have d:=(e.setCell (p:=⟨cb,1,none⟩) (fun z=>z rfl) (.int .i64 ((i:Int)+1))).setCell (p:=⟨cb,2,none⟩) (fun z=>z rfl) (.int .u64 (cX z (i+1)));refine⟨⟨⟨a,c,((f.set 1 (.int .i64 ((i:Int)+1))).set 2 (.int .u64 (cX z (i+1)))).congr fun j l=>?_,h.keep (d.same fun b (z:b<cb)=>⟨Nat.lt_trans z g.lt,Nat.ne_of_lt z⟩) fun b z=>z⟩,k,Nat.succ_le_succ hi⟩,d⟩;rcases j with _ | _ | _ | j
  ·rfl
  ·rfl
  ·rfl
  ·omega
 ·have d:=(e.setCell (p:=⟨cb,2,none⟩) (fun z=>z rfl) (.int .u64 (cX z (i+1)))).setCell (p:=⟨cb,1,none⟩) (fun z=>z rfl) (.int .i64 ((i:Int)+1));refine⟨⟨⟨a,c,((f.set 2 (.int .u64 (cX z (i+1)))).set 1 (.int .i64 ((i:Int)+1))).congr fun j l=>?_,h.keep (d.same fun b (z:b<cb)=>⟨Nat.lt_trans z g.lt,Nat.ne_of_lt z⟩) fun b z=>z⟩,k,Nat.succ_le_succ hi⟩,d⟩;rcases j with _ | _ | _ | j
  ·rfl
  ·rfl
  ·rfl
  ·omega
set_option maxHeartbeats 4000000 in
theorem iJ (z:Src) (cb K i:Nat) (w:World) (h:eW w cb ⟨K,i,z⟩) (N:K<=1000000000) :
  Calls Tryz.prog 120 #[.pointer (some ⟨cb,0,none⟩)] w fun e w'=>e=.returned (.int .i64 (eR z i:Int))∧eR z i<=255∧eW w' cb ⟨K+1,i+1,z⟩∧But (fun b=>b≠cb) w w':=by
 obtain⟨a,c,j,r⟩:=h.ex;have B:z.n<=1048576:=h.n;have hi:i<=K:=h.le;have O:=aD (tB z i);have H:w.cell? ⟨cb,0,none⟩=some (.slice a z.n c):=j.cell (i:=0) (by omega);have I:w.cell? ⟨cb,1,none⟩=some (.int .i64 (i:Int)):=j.cell (i:=1) (by omega);have J:w.cell? ⟨cb,2,none⟩=some (.int .u64 (cX z i)):=j.cell (i:=2) (by omega);have f1:=j.frozen 1;have L:=j.frozen 2;have u:=aD j;have p:=aD r;clear j r h;by_cases d:i<z.n
 ·have A:(i:Int)<(z.n:Int):=by omega
  obtain⟨F,G,e,h⟩:=p.out
  cases e
  obtain v | ⟨b,off,rfl,r,h⟩:=h
  ·have D:z.n=0:=v;omega
  obtain⟨⟨v,M⟩,P⟩:=h i d;have m:eR z i=(z.f i).toNat:=if_pos d;have o:=aD (show cX z (i+1)=IntKind.u64.wrap (IntKind.u64.wrap (IntKind.u64.wrap (cX z i*6364136223846793005)+z.f i)+1442695040888963407) from if_pos d);generalize k:cX z i=s at *;generalize l:z.f i=x at *;generalize g:z.n=n at *;have q:=aD (And.intro k (And.intro l g));clear k l g;go_enter Tryz.func120,Tryz.ntmps120;go_wp2
  go_quiet (fail)
  go_wp2
  go_quiet (fail)
  go_wp2;go_ret;obtain⟨k,l,g⟩:=q.out;subst g;refine⟨congrArg (fun z=>Ending.returned (.int .i64 z)) ?_,by omega,(eW.step u.out p.out B hi _ o.out.symm).1⟩;omega
 ·have m:eR z i=(wrap64 (bits .and .u64 (cX z (i+1) / 1099511627776) 255)).toNat:=if_neg d;have o:=aD (show cX z (i+1)=IntKind.u64.wrap (IntKind.u64.wrap (cX z i*6364136223846793005)+1442695040888963407) from if_neg d);generalize k:cX z i=s at *;generalize g:z.n=n at *;have q:=aD (And.intro k g);clear k g;go_enter Tryz.func120,Tryz.ntmps120;go_wp2
  go_quiet (fail)
  go_wp2;go_ret;obtain⟨k,g⟩:=q.out;subst g;obtain⟨y,C,E⟩:=JC (IntKind.u64.wrap (s*6364136223846793005)+1442695040888963407);rw[o.out,C] at m
  have t:eR z i=y:=by omega
  exact⟨congrArg (fun z=>Ending.returned (.int .i64 z)) (C.trans (by rw[t])),by omega,(eW.step u.out p.out B hi _ o.out.symm).2⟩
set_option maxHeartbeats 4000000 in
theorem bA (z:Src) (cb K i:Nat) (n:Nat) (w:World) (s:eW w cb ⟨K,i,z⟩) (E:K<=900000000) (F:n<=100000) :
  Calls Tryz.prog 72 #[.pointer (some ⟨cb,0,none⟩),.int .i64 (n:Int)] w fun e w'=>∃x:Nat,e=.returned (.int .i64 (x:Int))∧x<max n 1∧∃j,eW w' cb ⟨K+2,j,z⟩∧But (fun b=>b≠cb) w w'∧aU z n i=(x,j):=by
 by_cases l:n<=1
 ·have u:decide ((n:Int)<=1)=true:=decide_eq_true (by omega);have a:aU z n i=(0,i):=if_pos l;go_enter Tryz.func72,Tryz.ntmps72;go_wp2;go_ret;rw[a];exact⟨0,rfl,by omega,i,s.mono (by omega),But.refl _ _,rfl⟩
 have u:decide ((n:Int)<=1)=false:=decide_eq_false (by omega)
 have A:(n:Int)≠0:=by omega
 have t:((n:Int) == 0)=false:=by simp; omega
 go_enter Tryz.func72,Tryz.ntmps72
 go_wp2_with fail
 refine (iJ z cb K i w s (by omega)).mono ?_;rintro e D ⟨rfl,G,g,f⟩;generalize h:eR z i=x at *;by_cases q:200<n
 ·have v:decide ((200:Int)<(n:Int))=true:=decide_eq_true (by omega);have a:aU z n i=((eR z i*256+eR z (i+1)) % n,i+2):=(if_neg l).trans (if_pos q);rw[h] at a
  go_wp2_with fail
  refine (iJ z cb (K+1) (i+1) D g (by omega)).mono ?_;rintro e I ⟨rfl,H,o,m⟩;generalize C:eR z (i+1)=y at *;obtain⟨r,c⟩:∃r:Nat,r=(x*256+y) % n:=⟨_,rfl⟩
  have p:r<n:=by rw[c]; exact Nat.mod_lt _ (by omega)
  have d:((x:Int)*256+(y:Int)) % (n:Int)=(r:Int):=by rw[c,Int.natCast_emod,Int.natCast_add,Int.natCast_mul]; rfl
  have B:Int.tmod ((x:Int)*256+(y:Int)) (n:Int)=(r:Int):=by rw[Int.tmod_eq_emod_of_nonneg (by omega)]; exact d
  rw[← c] at a;have k:=aD a;clear c a;go_wp2;go_ret;rw[k.out];exact⟨r,rfl,by omega,_,o,f.trans m,rfl⟩
 ·have v:decide ((200:Int)<(n:Int))=false:=decide_eq_false (by omega);have a:aU z n i=(eR z i % n,i+1):=(if_neg l).trans (if_neg q);rw[h] at a;obtain⟨r,c⟩:∃r:Nat,r=x % n:=⟨_,rfl⟩
  have p:r<n:=by rw[c]; exact Nat.mod_lt _ (by omega)
  have d:(x:Int) % (n:Int)=(r:Int):=by rw[c,Int.natCast_emod]
  have B:Int.tmod (x:Int) (n:Int)=(r:Int):=by rw[Int.tmod_eq_emod_of_nonneg (by omega)]; exact d
  rw[← c] at a;have k:=aD a;clear c a;go_wp2;go_ret;rw[k.out];exact⟨r,rfl,by omega,_,g.mono (by omega),f,rfl⟩
def dS (z:Src) (n:Nat) (nt:List Int):Nat->List Int->Nat->List Int×Nat
 | 0,l,i=>(l,i)
 | k+1,l,i=>dS z n nt k (if ((aU z n i).1:Int)∈l∨((aU z n i).1:Int)∈nt then l else l++[((aU z n i).1:Int)]) (aU z n i).2
def cP (z:Src) (n most:Nat) (nt:List Int) (i:Nat):List Int×Nat:=dS z n nt (aU z (most+1) i).1 [] (aU z (most+1) i).2
theorem kL {z:Src}{n k i x j:Nat}{a l:List Int}(c:0<k) (b:aU z n i=(x,j)) (h:(x:Int)∈l∨(x:Int)∈a):dS z n a (k-1) l j=dS z n a k l i:=by
 obtain⟨k,rfl⟩:∃m,k=m+1:=⟨k-1,by omega⟩;have e:dS z n a (k+1) l i=dS z n a k (if ((aU z n i).1:Int)∈l∨((aU z n i).1:Int)∈a then l else l++[((aU z n i).1:Int)]) (aU z n i).2:=rfl;rw[e,b,if_pos h];rfl
theorem nR {z:Src}{n k i x j:Nat}{a l:List Int}(f:0<k) (d:aU z n i=(x,j)) (h:¬(x:Int)∈l) (b:¬(x:Int)∈a):dS z n a (k-1) (l++[(x:Int)]) j=dS z n a k l i:=by
 obtain⟨k,rfl⟩:∃m,k=m+1:=⟨k-1,by omega⟩;have e:dS z n a (k+1) l i=dS z n a k (if ((aU z n i).1:Int)∈l∨((aU z n i).1:Int)∈a then l else l++[((aU z n i).1:Int)]) (aU z n i).2:=rfl;rw[e,d,if_neg fun c=>c.elim h b];rfl
set_option maxRecDepth 100000 in
set_option maxHeartbeats 8000000 in
theorem fO (B:Src) (cb K i n a:Nat) (vn:Value) (q:List Int) (w:World) (hc:eW w cb ⟨K,i,B⟩) (hK:K<=800000000) (hn:1<=n) (bP:n<=100) (hm:a<=100) (a3:Ints (fun b=>b<w.heap.size∧b≠cb) w vn q) (bO:q.length<=1000) :
  Calls Tryz.prog 78 #[.pointer (some ⟨cb,0,none⟩),.int .i64 (n:Int),.int .i64 (a:Int),vn] w fun e w'=>∃v l,e=.returned v∧w'.ownsRow w.heap.size 3 1 v l.length (dD l)∧(∀j,j<l.length->pS (n:Int) l j)∧l.length<=a∧¬Meet l q∧∃j,eW w' cb ⟨K+2*a+4,j,B⟩∧But (fun b=>b≠cb) w w'∧cP B n a q i=(l,j):=by
 have hcb:=hc.lt;have bK:=aD a3;obtain⟨an,cn,rfl⟩:=a3.size;generalize b1:q.length=nl at *;have bJ:=aD b1;clear a3 b1;go_enter Tryz.func78,Tryz.ntmps78
 go_wp2_with fail
 refine (bA B cb K i (a+1) w hc (by omega) (by omega)).mono ?_;rintro e w1 ⟨k0,rfl,bM,j0,aO,aL,aX⟩
 have HD:Hid (dS B n q k0 [] j0=cP B n a q i):=by show _=_; unfold cP; rw[aX]
 clear aX;have a9:=aD aO;have a5:=aD aL
 have aW:k0<=a:=by omega
 clear aO aL hc bM;go_wp2
 go_loopw [9,10] (fun o z wr=>∃(k:Nat) (l:List Int) (j:Nat),l.length+k<=a∧z=.int .i64 (k:Int)∧wr.ownsRow w.heap.size 3 1 o l.length (dD l)∧(∀j,j<l.length->pS (n:Int) l j)∧¬Meet l q∧eW wr cb ⟨K+2+2*(a-k),j,B⟩∧But (fun b=>b≠cb) w wr∧dS B n q k l j=cP B n a q i) (fun _ z _=>(intOf z).toNat)
 case atStart=>exact⟨k0,[],_,by simpa using aW,rfl,World.ownsRow_nil _ _ _ _,fun j hj=>absurd hj (by show ¬j<0; omega),(fun ⟨x,hx,_⟩=>by cases hx),a9.out.mono (by omega),a5.out,HD.out⟩
 case round=>
  obtain⟨k,l,ii,bN,rfl,f,b2,b0,a2,a1,aT⟩:=hrel;have H:=aD aT;clear aT HD;rename World=>wr;rename Value=>vo;obtain⟨al,ca,e⟩:=zag f;subst e;obtain⟨C,T⟩:∃C,C=l.length:=⟨_,rfl⟩;rw[← T] at bN f;rw[← T];have d:=aD T;have M:=aD b2;have I:=aD b0;clear T b2 b0 a9 a5;by_cases hz:0<k
  ·have bS:decide ((0:Int)<(k:Int))=true:=decide_eq_true (by omega);have aB:=aD (bA B cb (K+2+2*(a-k)) ii n wr a2 (by omega) (by omega));have V:=aD f;have a8:=aD a1;clear a2 f a1
   go_wp2_with fail
   refine aB.out.mono ?_;rintro e w2 ⟨x,rfl,hx,jx,aP,Y,b9⟩;have X:=aD b9;clear b9
   have bR:x<n:=by omega
   have P:=bC w2 (.cells #[.int .i64 (x:Int)] 3)
   have s:=gD V.out Y fun g hg=>by have:=(gJ V.out hg).1; omega
   have aM:=(a8.out.trans Y).call P;have m:=gD (K:=fun _=>True) s (But.aG P) fun _ _=>trivial;have aQ:=aP.but (Q:=fun _=>True) (But.aG P) fun _ _=>trivial;have aU:=(oF m).2
   have aY:l.length<=1048576:=by have:=d.out; omega
   have aC:=aD (tH _ _ [(x:Int)] l (w2.alloc (.cells #[.int .i64 (x:Int)] 3)) (BP w2 (x:Int)) (aU.keep (hU _ _) (Q:=In _) fun b hb=>hb.2) (by show 1<=1048576; omega) aY);have F:=aD aQ;have D:=aD aM;have J:=aD m;clear aP Y P s aM m aQ aU aY hx aB V a8
   go_wp2_with fail
   refine aC.out.mono ?_;rintro e w3 ⟨rfl,b3⟩;have b4:=b3.symm;subst b4;clear b3 aC;obtain⟨wA,b7⟩:∃W,W=w2.alloc (.cells #[.int .i64 (x:Int)] 3):=⟨_,rfl⟩;rw[← b7] at F D J ⊢;clear b7;by_cases m1:Meet [(x:Int)] l
   ·rw[bQ m1];have HF:=aD (show K+2+2*(a-k)+2<=K+2+2*(a-(k-1)) by omega);have r:=aD ((kL hz X.out (.inl (rR.1 m1))).trans H.out);clear m1;go_wp2;go_roundw
    case rel=>exact⟨k-1,l,_,by have:=d.out; omega,by go_num,by rw[← d.out]; exact J.out,M.out,I.out,F.out.mono HF.out,D.out,r.out⟩
    case measure=>simp[intOf]; omega
   ·rw[bE m1];have M1:=aD m1;have R:=bC wA (.cells #[.int .i64 (x:Int)] 3);have O:=D.out.call R;have A:=gD (K:=fun _=>True) J.out (But.aG R) fun _ _=>trivial;have aR:=F.out.but (Q:=fun _=>True) (But.aG R) fun _ _=>trivial;have aV:=bK.out.keep (O.same fun b hb=>hb) (Q:=In (wA.alloc (.cells #[.int .i64 (x:Int)] 3))) fun b hb=>Nat.lt_of_lt_of_le hb.1 O.size
    have aZ:q.length<=1048576:=by have:=bJ.out; omega
    have aE:=aD (tH _ _ [(x:Int)] q (wA.alloc (.cells #[.int .i64 (x:Int)] 3)) (BP wA (x:Int)) aV (by show 1<=1048576; omega) aZ);have G:=aD aR;have E:=aD O;have L:=aD A;clear m1 R O A aR aV aZ F D J
    go_wp2_with fail
    refine aE.out.mono ?_;rintro e w4 ⟨rfl,b5⟩;have b6:=b5.symm;subst b6;clear b5 aE;obtain⟨wB,b8⟩:∃W,W=wA.alloc (.cells #[.int .i64 (x:Int)] 3):=⟨_,rfl⟩;rw[← b8] at G E L ⊢;clear b8;by_cases m2:Meet [(x:Int)] q
    ·rw[bQ m2];have HF:=aD (show K+2+2*(a-k)+2<=K+2+2*(a-(k-1)) by omega);have r:=aD ((kL hz X.out (.inr (rR.1 m2))).trans H.out);clear m2;go_wp2;go_roundw
     case rel=>exact⟨k-1,l,_,by have:=d.out; omega,by go_num,by rw[← d.out]; exact L.out,M.out,I.out,G.out.mono HF.out,E.out,r.out⟩
     case measure=>simp[intOf]; omega
    ·rw[bE m2];have M2:=aD m2;have S:=bC wB (.cells #[.int .i64 (x:Int)] 3);have Z:=E.out.call S;have N:=aD (gD (K:=fun _=>True) L.out (But.aG S) fun _ _=>trivial);have aS:=G.out.but (Q:=fun _=>True) (But.aG S) fun _ _=>trivial;have aA:=aD aS;have a7:=aD Z;have aK:=aD (Bb (W:=wB) (t:=3) (x:=.int .i64 (x:Int)))
     have aJ:Hid (∀u∈([.int .i64 (x:Int)]:List Value),u.oneCell'=true):=by
      show ∀u∈([.int .i64 (x:Int)]:List Value),u.oneCell'=true;intro u hu;rw[List.mem_singleton.1 hu];rfl
     have bH:Hid (C+1<=maxLen):=by show C+1<=maxLen; unfold maxLen; omega
     have bI:Hid ((C+1)*8<=140737488355328):=by show (C+1)*8<=140737488355328; omega
     have aI:Hid (w.heap.size<=(wB.alloc (.cells #[.int .i64 (x:Int)] 3)).heap.size):=Z.size;obtain⟨xs,a4⟩:∃xs,xs=dD l:=⟨_,rfl⟩;have bL:=aD a4;rw[← a4] at N;clear m2 S Z aS a4 G E L
     go_wp2_with (at_builtin; refine iN rfl _ _ 23 rfl w.heap.size 3 (.int .i64 0) 1 8 Tryz.underlying23 Tryz.dA rfl (by decide) (.slice al C ca) C xs rfl N.out (some ⟨wB.heap.size,0,none⟩) 1 1 [.int .i64 (x:Int)] rfl rfl aK.out aJ.out bH.out bI.out aI.out ?_)
     intro u5 w5 p U;obtain⟨a6,c6,rfl⟩:=zag p;have a0:=mH N.out U (Nat.le_refl _) aI.out
     have aN:=aA.out.but (But.of_below (K:=fun c=>c<w.heap.size) a0 fun _ _ z=>z) fun b hb=>by omega
     have bF:=aD aN;have bD:=aD (a7.out.low a0)
     have bB:Hid (w5.ownsRow w.heap.size 3 1 (.slice a6 (C+1) c6) (l++[(x:Int)]).length (dD (l++[(x:Int)]))):=by
      show w5.ownsRow _ _ _ _ _ _;rw[xD,← bL.out,show (l++[(x:Int)]).length=C+1 by rw[d.out]; simp];exact p
     have aH:=aD (DL M.out (x:=(x:Int)) ⟨by omega,by omega⟩ fun z=>M1.out (rR.2 z))
     have aF:Hid (¬Meet (l++[(x:Int)]) q):=fun ⟨y,h1,h2⟩=>by
      rcases List.mem_append.1 h1 with z | z
      ·exact I.out ⟨y,z,h2⟩
      ·exact M2.out ⟨y,z,h2⟩
     have bG:Hid ((l++[(x:Int)]).length+(k-1)<=a):=by show (l++[(x:Int)]).length+(k-1)<=a; have:=d.out; simp; omega
     have HF:=aD (show K+2+2*(a-k)+2<=K+2+2*(a-(k-1)) by omega);have r:=aD ((nR hz X.out (fun h=>M1.out (rR.2 h)) (fun h=>M2.out (rR.2 h))).trans H.out);clear p U a0 aN N aK aJ a7 aA;go_wp2;go_roundw
     case rel=>exact⟨k-1,l++[(x:Int)],_,bG.out,by go_num,bB.out,aH.out,aF.out,bF.out.mono HF.out,bD.out,r.out⟩
     case measure=>simp[intOf]; omega
  ·go_wp2;go_ret
   obtain rfl:k=0:=by omega
   have hg:(l,ii)=cP B n a q i:=H.out;exact⟨_,l,rfl,by rw[← d.out]; exact f,M.out,by have:=d.out; omega,I.out,ii,a2.mono (by omega),a1,hg.symm⟩
def lB (z:Src) (n:Nat):Nat->List Int->Nat->List Int×Nat
 | 0,l,i=>(l,i)
 | k+1,l,i=>lB z n k (l++[((aU z n i).1:Int)]) (aU z n i).2
theorem pD {z:Src}{n k i x j:Nat}{l:List Int}(b:0<k) (a:aU z n i=(x,j)):lB z n (k-1) (l++[(x:Int)]) j=lB z n k l i:=by
 obtain⟨k,rfl⟩:∃m,k=m+1:=⟨k-1,by omega⟩;have e:lB z n (k+1) l i=lB z n k (l++[((aU z n i).1:Int)]) (aU z n i).2:=rfl;rw[e,a];rfl
def dU (z:Src) (n i:Nat):List Int×Nat:=if (cP z n 4 [] i).1.length=0 then ([((aU z n (cP z n 4 [] i).2).1:Int)],(aU z n (cP z n 4 [] i).2).2) else cP z n 4 [] i
theorem qL {z:Src}{n i j x a:Nat}{l:List Int}(h:cP z n 4 [] i=(l,j)) (b:l.length=0) (c:aU z n j=(x,a)):dU z n i=([(x:Int)],a):=by
 unfold dU;rw[h,if_pos b,c]
theorem pA {z:Src}{n i j:Nat}{l:List Int}(h:cP z n 4 [] i=(l,j)) (a:¬l.length=0):dU z n i=(l,j):=by
 unfold dU;rw[h,if_neg a]
def bU (z:Src) (l0:List Int):List Int->Nat->List (Int×Int)->List (Int×Int)->Nat->(List (Int×Int)×List (Int×Int))×Nat
 | [],_,li,fl,i=>((li,fl),i)
 | s :: r,m,li,fl,i=>if s∈l0 then bU z l0 r (m+1) (li++[((m:Int),1+((aU z 2 i).1:Int))]) fl (aU z 2 i).2 else if (aU z 3 i).1=0 then bU z l0 r (m+1) li (fl++[((m:Int),1+((aU z 2 (aU z 3 i).2).1:Int))]) (aU z 2 (aU z 3 i).2).2 else bU z l0 r (m+1) li fl (aU z 3 i).2
theorem drop_cons {l:List Int}{m:Nat}{s:Int}(a:l[m]?=some s):l.drop m=s :: l.drop (m+1):=by
 obtain⟨h,e⟩:=List.getElem?_eq_some_iff.1 a;rw[List.drop_eq_getElem_cons h,e]
theorem qH {z:Src}{a l:List Int}{m i x j:Nat}{s:Int}{c b:List (Int×Int)}(f:l[m]?=some s) (h:s∈a) (d:aU z 2 i=(x,j)):bU z a (l.drop (m+1)) (m+1) (c++[((m:Int),1+(x:Int))]) b j=bU z a (l.drop m) m c b i:=by
 have e:bU z a (s :: l.drop (m+1)) m c b i=if s∈a then bU z a (l.drop (m+1)) (m+1) (c++[((m:Int),1+((aU z 2 i).1:Int))]) b (aU z 2 i).2 else if (aU z 3 i).1=0 then bU z a (l.drop (m+1)) (m+1) c (b++[((m:Int),1+((aU z 2 (aU z 3 i).2).1:Int))]) (aU z 2 (aU z 3 i).2).2 else bU z a (l.drop (m+1)) (m+1) c b (aU z 3 i).2:=rfl
 rw[drop_cons f,e,if_pos h,d]
theorem qG {z:Src}{a l:List Int}{m i x j f:Nat}{s:Int}{c b:List (Int×Int)}(k:l[m]?=some s) (h:¬s∈a) (g:aU z 3 i=(0,j)) (d:aU z 2 j=(x,f)):bU z a (l.drop (m+1)) (m+1) c (b++[((m:Int),1+(x:Int))]) f=bU z a (l.drop m) m c b i:=by
 have e:bU z a (s :: l.drop (m+1)) m c b i=if s∈a then bU z a (l.drop (m+1)) (m+1) (c++[((m:Int),1+((aU z 2 i).1:Int))]) b (aU z 2 i).2 else if (aU z 3 i).1=0 then bU z a (l.drop (m+1)) (m+1) c (b++[((m:Int),1+((aU z 2 (aU z 3 i).2).1:Int))]) (aU z 2 (aU z 3 i).2).2 else bU z a (l.drop (m+1)) (m+1) c b (aU z 3 i).2:=rfl
 rw[drop_cons k,e,if_neg h,g,if_pos rfl,d]
theorem qI {z:Src}{a l:List Int}{m i y j:Nat}{s:Int}{c b:List (Int×Int)}(f:l[m]?=some s) (h:¬s∈a) (d:aU z 3 i=(y,j)) (g:¬y=0):bU z a (l.drop (m+1)) (m+1) c b j=bU z a (l.drop m) m c b i:=by
 have e:bU z a (s :: l.drop (m+1)) m c b i=if s∈a then bU z a (l.drop (m+1)) (m+1) (c++[((m:Int),1+((aU z 2 i).1:Int))]) b (aU z 2 i).2 else if (aU z 3 i).1=0 then bU z a (l.drop (m+1)) (m+1) c (b++[((m:Int),1+((aU z 2 (aU z 3 i).2).1:Int))]) (aU z 2 (aU z 3 i).2).2 else bU z a (l.drop (m+1)) (m+1) c b (aU z 3 i).2:=rfl
 rw[drop_cons f,e,if_neg h,d,if_neg g]
def nU (z:Src) (n:Nat) (sw:List Int) (i:Nat):aT×Nat:=
 (⟨(dU z n i).1,(bU z (dU z n i).1 sw 0 [] [] (cP z n 2 (dU z n i).1 (cP z n 2 (dU z n i).1 (dU z n i).2).2).2).1.1,(bU z (dU z n i).1 sw 0 [] [] (cP z n 2 (dU z n i).1 (cP z n 2 (dU z n i).1 (dU z n i).2).2).2).1.2,(cP z n 2 (dU z n i).1 (dU z n i).2).1,(cP z n 2 (dU z n i).1 (cP z n 2 (dU z n i).1 (dU z n i).2).2).1⟩,(bU z (dU z n i).1 sw 0 [] [] (cP z n 2 (dU z n i).1 (cP z n 2 (dU z n i).1 (dU z n i).2).2).2).2)
theorem tF {z:Src}{n i j l g h m:Nat}{d a c b:List Int}{k f:List (Int×Int)}(o:dU z n i=(a,j)) (p:cP z n 2 a j=(c,l)) (q:cP z n 2 a l=(b,g)) (r:bU z a (d.drop m) m k f h=bU z a d 0 [] [] g) (s:m=d.length):nU z n d i=(⟨a,k,f,c,b⟩,h):=by
 have e:bU z a d 0 [] [] g=((k,f),h):=by rw[← r,s,List.drop_length]; rfl
 unfold nU;rw[o];simp only;rw[p];simp only;rw[q];simp only;rw[e]
def fB (z:Src) (n:Nat) (sw:List Int):Nat->List aT->Nat->List aT×Nat
 | 0,l,i=>(l,i)
 | k+1,l,i=>fB z n sw k (l++[(nU z n sw i).1]) (nU z n sw i).2
theorem mF {z:Src}{n k i j:Nat}{a:List Int}{l:List aT}{d:aT}(c:0<k) (b:nU z n a i=(d,j)):fB z n a (k-1) (l++[d]) j=fB z n a k l i:=by
 obtain⟨k,rfl⟩:∃m,k=m+1:=⟨k-1,by omega⟩;have e:fB z n a (k+1) l i=fB z n a k (l++[(nU z n a i).1]) (nU z n a i).2:=rfl;rw[e,b];rfl
def pY (a b:List Int):Bool:=a.any fun x=>b.contains x
theorem kF {a b:List Int}:pY a b=true↔Meet a b:=by
 unfold pY Meet;simp
def oC (ds:List aT) (i:Nat):List Int:=((ds[i]?).map aT.aA).getD []
def eQ (z:Src) (ds:List aT) (rows:List (List Bool)) (i k j:Nat):Bool×Nat:=
 if k<i then (((rows[k]?).bind fun x=>x[i]?).getD false,j) else if i=k then (true,j) else if pY (oC ds i) (oC ds k)=true then (true,j) else (((aU z 4 j).1:Int) == 0,(aU z 4 j).2)
def eS (z:Src) (ds:List aT) (rows:List (List Bool)) (i:Nat):Nat->Nat->(Nat->Bool)->Nat->(Nat->Bool)×Nat
 | 0,_,f,j=>(f,j)
 | m+1,k,f,j=>eS z ds rows i m (k+1) (fun q=>if q=k then (eQ z ds rows i k j).1 else f q) (eQ z ds rows i k j).2
theorem fA {z:Src}{ds:List aT}{rows:List (List Bool)}{i nw k j a:Nat}{f:Nat->Bool}{v:Bool}(c:k<nw) (h:eQ z ds rows i k j=(v,a)):eS z ds rows i (nw-(k+1)) (k+1) (fun q=>if q=k then v else f q) a=eS z ds rows i (nw-k) k f j:=by
 obtain⟨m,b⟩:∃m,nw-k=m+1:=⟨nw-k-1,by omega⟩;have e:eS z ds rows i (m+1) k f j=eS z ds rows i m (k+1) (fun q=>if q=k then (eQ z ds rows i k j).1 else f q) (eQ z ds rows i k j).2:=rfl;rw[b,e,h,show nw-(k+1)=m by omega]
theorem oT {z:Src}{ds:List aT}{rows:List (List Bool)}{i k j:Nat}{v:Bool}(a:k<i) (h:((rows[k]?).bind fun x=>x[i]?)=some v):eQ z ds rows i k j=(v,j):=by
 unfold eQ;rw[if_pos a,h];rfl
theorem nE {z:Src}{ds:List aT}{rows:List (List Bool)}{i k j:Nat}(a:i=k):eQ z ds rows i k j=(true,j):=by
 unfold eQ;rw[if_neg (by omega),if_pos a]
theorem nC {z:Src}{ds:List aT}{rows:List (List Bool)}{i k j:Nat}{x y:aT}(a:¬k<i) (b:¬i=k) (d:ds[i]?=some x) (e:ds[k]?=some y) (c:Meet x.aA y.aA):eQ z ds rows i k j=(true,j):=by
 unfold eQ oC;rw[if_neg a,if_neg b,d,e];exact if_pos (kF.2 c)
theorem nD {z:Src}{ds:List aT}{rows:List (List Bool)}{i k j r a:Nat}{x y:aT}(b:¬k<i) (c:¬i=k) (f:ds[i]?=some x) (g:ds[k]?=some y) (d:¬Meet x.aA y.aA) (e:aU z 4 j=(r,a)):eQ z ds rows i k j=((r:Int) == 0,a):=by
 unfold eQ oC;rw[if_neg b,if_neg c,f,g,e];exact if_neg fun h=>d (kF.1 h)
def eL (z:Src) (ds:List aT) (nw:Nat):Nat->List (List Bool)->Nat->List (List Bool)×Nat
 | 0,rows,j=>(rows,j)
 | m+1,rows,j=>eL z ds nw m (rows++[(List.range nw).map (eS z ds rows rows.length nw 0 (fun _=>false) j).1]) (eS z ds rows rows.length nw 0 (fun _=>false) j).2
theorem lO {z:Src}{ds:List aT}{nw i j a:Nat}{rows:List (List Bool)}{f:Nat->Bool}(hi:i<nw) (c:rows.length=i) (h:eS z ds rows i nw 0 (fun _=>false) j=(f,a)):eL z ds nw (nw-(i+1)) (rows++[(List.range nw).map f]) a=eL z ds nw (nw-i) rows j:=by
 obtain⟨m,b⟩:∃m,nw-i=m+1:=⟨nw-i-1,by omega⟩;have e:eL z ds nw (m+1) rows j=eL z ds nw m (rows++[(List.range nw).map (eS z ds rows rows.length nw 0 (fun _=>false) j).1]) (eS z ds rows rows.length nw 0 (fun _=>false) j).2:=rfl;rw[b,e,c,h,show nw-(i+1)=m by omega]
structure lM (z:Src) (i:Nat) (p:aK) (j:Nat):Prop where
 ex:∃x j1 y j2 k0 j3 j4 k5 j5 j6,aU z 6 i=(x,j1)∧aU z 6 j1=(y,j2)∧aU z 4 j2=(k0,j3)∧lB z (2+x) k0 [] j3=(p.aE,j4)∧aU z 5 j4=(k5,j5)∧fB z (2+x) p.aE (k5+1) [] j5=(p.aB,j6)∧eL z p.aB p.aB.length p.aB.length [] j6=(p.aO,j)∧p.aA=((2+x:Nat):Int)∧p.aI=((1+y:Nat):Int)
theorem lM.inj {z:Src}{i j k:Nat}{p q:aK}(h:lM z i p j) (g:lM z i q k):p=q∧j=k:=by
 obtain⟨x,X,y,Y,k0,Z,j4,k5,j5,j6,A,B,C,D,E,f,l,m,n⟩:=h.ex;obtain⟨x',F,y',G,L,H,I,M,J,K,o,r,s,t,u,v,w,d,e⟩:=g.ex;obtain⟨rfl,rfl⟩:=Prod.mk.inj (A.symm.trans o);obtain⟨rfl,rfl⟩:=Prod.mk.inj (B.symm.trans r);obtain⟨rfl,rfl⟩:=Prod.mk.inj (C.symm.trans s);obtain⟨a,rfl⟩:=Prod.mk.inj (D.symm.trans t);obtain⟨rfl,rfl⟩:=Prod.mk.inj (E.symm.trans u);rw[a] at f;obtain⟨b,rfl⟩:=Prod.mk.inj (f.symm.trans v);rw[b] at l;obtain⟨c,rfl⟩:=Prod.mk.inj (l.symm.trans w);refine⟨?_,rfl⟩;rcases p with ⟨N,O,P,Q,R⟩;rcases q with ⟨S,T,U,V,W⟩;simp only at a b c m d n e;rw[a,b,c,m,d,n,e]
structure gA (w:World) (cb pb:Nat) (K:iW) (ns aI:Int) (W:World) (s y b:Value):Prop where
 but:But (fun c=>c≠cb) w W
 cur:eW W cb K
 res:∃g,W.rowIs w.heap.size 27 5 g
 hcb:cb<w.heap.size
 lt:w.heap.size<pb
 plan:W.rowIs pb 27 5 (fun i=>(#[.int .i64 ns,s,y,b,.int .i64 aI]:Array Value)[i]!)
theorem gA.far {w:World}{cb pb:Nat}{K:iW}{ns aI:Int}{W W':World}{s y b:Value}{Q:Nat->Prop}(h:gA w cb pb K ns aI W s y b) (a:But Q W W') (d:∀c,c<=pb->Q c):gA w cb pb K ns aI W' s y b:=by
 obtain⟨g,f⟩:=h.res;have i:=h.lt;have e:=h.hcb;exact⟨h.but.low (a.below h.but.size fun c e=>d c (by omega)),h.cur.but a fun c e=>d c (by omega),⟨g,a.row f (d _ (by omega))⟩,h.hcb,h.lt,a.row h.plan (d _ (Nat.le_refl _))⟩
theorem gA.pick {w:World}{cb pb:Nat}{K:iW}{ns aI:Int}{W W':World}{s y b:Value}(h:gA w cb pb K ns aI W s y b) (a:But (fun c=>c≠cb) W W')  {L:iW}(d:eW W' cb L):gA w cb pb L ns aI W' s y b:=by
 obtain⟨g,f⟩:=h.res;have i:=h.lt;have e:=h.hcb;exact⟨h.but.trans a,d,⟨g,a.row f (by omega)⟩,h.hcb,h.lt,a.row h.plan (by omega)⟩
theorem gA.mono {w:World}{cb pb K L i:Nat}{z:Src}{ns aI:Int}{W:World}{s y b:Value}(h:gA w cb pb ⟨K,i,z⟩ ns aI W s y b) (a:K<=L):gA w cb pb ⟨L,i,z⟩ ns aI W s y b:=⟨h.but,h.cur.mono a,h.res,h.hcb,h.lt,h.plan⟩
theorem gA.set {w:World}{cb pb:Nat}{K:iW}{ns aI:Int}{W:World}{s y b:Value}(h:gA w cb pb K ns aI W s y b) (j:Nat) (u:Value):But (fun c=>c≠pb) W (W.setCell ⟨pb,j,none⟩ u)∧But (fun c=>c≠cb) w (W.setCell ⟨pb,j,none⟩ u)∧eW (W.setCell ⟨pb,j,none⟩ u) cb K∧∃g,(W.setCell ⟨pb,j,none⟩ u).rowIs w.heap.size 27 5 g:=by
 have f:=h.lt;have d:=h.hcb;have a:But (fun c=>c≠pb) W (W.setCell ⟨pb,j,none⟩ u):=(But.refl _ _).setCell (fun z=>z rfl) u;obtain⟨g,e⟩:=h.res;exact⟨a,h.but.cN (p:=⟨pb,j,none⟩) (by show w.heap.size<=pb; omega) u,h.cur.but a fun c d=>by omega,g,a.row e (by omega)⟩
theorem gA.set1 {w:World}{cb pb:Nat}{K:iW}{ns aI:Int}{W:World}{s y b:Value}(h:gA w cb pb K ns aI W s y b) (u:Value):gA w cb pb K ns aI (W.setCell ⟨pb,1,none⟩ u) u y b:=by
 obtain⟨-,a,c,d⟩:=h.set 1 u;refine⟨a,c,d,h.hcb,h.lt,(h.plan.set 1 u).congr fun i hi=>?_⟩;rcases i with _ | _ | _ | _ | _ | i
 ·rfl
 ·rfl
 ·rfl
 ·rfl
 ·rfl
 ·omega
theorem gA.set2 {w:World}{cb pb:Nat}{K:iW}{ns aI:Int}{W:World}{s y b:Value}(h:gA w cb pb K ns aI W s y b) (u:Value):gA w cb pb K ns aI (W.setCell ⟨pb,2,none⟩ u) s u b:=by
 obtain⟨-,a,c,d⟩:=h.set 2 u;refine⟨a,c,d,h.hcb,h.lt,(h.plan.set 2 u).congr fun i hi=>?_⟩;rcases i with _ | _ | _ | _ | _ | i
 ·rfl
 ·rfl
 ·rfl
 ·rfl
 ·rfl
 ·omega
theorem gA.AT {w:World}{cb pb:Nat}{K:iW}{ns aI:Int}{W:World}{s y b:Value}(h:gA w cb pb K ns aI W s y b) (u:Value):gA w cb pb K ns aI (W.setCell ⟨pb,3,none⟩ u) s y u:=by
 obtain⟨-,a,c,d⟩:=h.set 3 u;refine⟨a,c,d,h.hcb,h.lt,(h.plan.set 3 u).congr fun i hi=>?_⟩;rcases i with _ | _ | _ | _ | _ | i
 ·rfl
 ·rfl
 ·rfl
 ·rfl
 ·rfl
 ·omega
structure fN (w wr:World) (cb pb wb:Nat) (ns aI:Int) (s y:Value) (K:iW) (W:World) (q:eK) (d:aT):Prop where
 pl:gA w cb pb K ns aI W s y (.slice none 0 0)
 kp:But (fun c=>pb<c) wr W
 box:W.rowIs wb 51 5 (fun i=>(#[q.v0,q.v1,q.v2,q.v3,q.v4]:Array Value)[i]!)
 way:eP W (wb+1) q d
 rH:∀g,q.v1.ownBlock=some g->q.v2.ownBlock≠some g
 hwb:wr.heap.size=wb
 lt:pb<wb
section
variable {w wr : World}{cb pb wb : Nat}{ns aI : Int}{s y : Value}{K : iW}{W : World}{q : eK}{d : aT}
theorem fN.call (h:fN w wr cb pb wb ns aI s y K W q d) {W':World}(a:Below W.heap.size W W'):fN w wr cb pb wb ns aI s y K W' q d:=
 ⟨h.pl.far (Q:=fun _=>True) (But.aG a) fun _ _=>trivial,h.kp.call a,dP h.box a,h.way.far (K:=fun _=>True) (But.aG a) fun _ _ _=>trivial,h.rH,h.hwb,h.lt⟩
theorem fN.pick (h:fN w wr cb pb wb ns aI s y K W q d) {W':World}{L:iW}(a:But (fun c=>c≠cb) W W') (b:eW W' cb L):fN w wr cb pb wb ns aI s y L W' q d:=by
 have e:=h.lt;have f:=h.pl.lt;have g:=h.pl.hcb;have i:=h.hwb;exact⟨h.pl.pick a b,h.kp.trans (a.mono fun c _ b=>by omega),a.row h.box (by omega),h.way.far a fun c b _=>by omega,h.rH,h.hwb,h.lt⟩
theorem fN.mono {k L i:Nat}{z:Src}(h:fN w wr cb pb wb ns aI s y ⟨k,i,z⟩ W q d) (a:k<=L):fN w wr cb pb wb ns aI s y ⟨L,i,z⟩ W q d:=⟨h.pl.mono a,h.kp,h.box,h.way,h.rH,h.hwb,h.lt⟩
theorem fN.set (h:fN w wr cb pb wb ns aI s y K W q d) (j:Nat) (u:Value):gA w cb pb K ns aI (W.setCell ⟨wb,j,none⟩ u) s y (.slice none 0 0)∧But (fun c=>pb<c) wr (W.setCell ⟨wb,j,none⟩ u)∧eP (W.setCell ⟨wb,j,none⟩ u) (wb+1) q d:=by
 have a:=h.lt;exact⟨h.pl.far (Q:=fun c=>c≠wb) ((But.refl _ _).setCell (fun z=>z rfl) u) fun c b=>by omega,h.kp.cN (p:=⟨wb,j,none⟩) (by show wr.heap.size<=wb; rw[h.hwb]; omega) u,h.way.box h.box ⟨by decide,by decide⟩ j u⟩
theorem fN.xB (h:fN w wr cb pb wb ns aI s y K W q d) {v:Value}{l:List Int}(e:W.ownsRow (wb+1) 3 1 v l.length (dD l)):fN w wr cb pb wb ns aI s y K (W.setCell ⟨wb,0,none⟩ v) ⟨v,q.v1,q.v2,q.v3,q.v4⟩ ⟨l,d.aQ,d.aJ,d.over,d.aW⟩:=by
 obtain⟨b,c,a⟩:=h.set 0 v;refine⟨b,c,(h.box.set 0 v).congr fun i hi=>?_,⟨tW e h.box (by decide) _ _,a.l1,a.l2,a.o3,a.n4⟩,h.rH,h.hwb,h.lt⟩;rcases i with _ | _ | _ | _ | _ | i
 ·rfl
 ·rfl
 ·rfl
 ·rfl
 ·rfl
 ·omega
theorem fN.AQ (h:fN w wr cb pb wb ns aI s y K W q d) {v:Value}{l:List Int}(e:W.ownsRow (wb+1) 3 1 v l.length (dD l)):fN w wr cb pb wb ns aI s y K (W.setCell ⟨wb,3,none⟩ v) ⟨q.v0,q.v1,q.v2,v,q.v4⟩ ⟨d.aA,d.aQ,d.aJ,l,d.aW⟩:=by
 obtain⟨b,c,a⟩:=h.set 3 v;refine⟨b,c,(h.box.set 3 v).congr fun i hi=>?_,⟨a.s0,a.l1,a.l2,tW e h.box (by decide) _ _,a.n4⟩,h.rH,h.hwb,h.lt⟩;rcases i with _ | _ | _ | _ | _ | i
 ·rfl
 ·rfl
 ·rfl
 ·rfl
 ·rfl
 ·omega
theorem fN.AS (h:fN w wr cb pb wb ns aI s y K W q d) {v:Value}{l:List Int}(e:W.ownsRow (wb+1) 3 1 v l.length (dD l)):fN w wr cb pb wb ns aI s y K (W.setCell ⟨wb,4,none⟩ v) ⟨q.v0,q.v1,q.v2,q.v3,v⟩ ⟨d.aA,d.aQ,d.aJ,d.over,l⟩:=by
 obtain⟨b,c,a⟩:=h.set 4 v;refine⟨b,c,(h.box.set 4 v).congr fun i hi=>?_,⟨a.s0,a.l1,a.l2,a.o3,tW e h.box (by decide) _ _⟩,h.rH,h.hwb,h.lt⟩;rcases i with _ | _ | _ | _ | _ | i
 ·rfl
 ·rfl
 ·rfl
 ·rfl
 ·rfl
 ·omega
theorem fN.grown (h:fN w wr cb pb wb ns aI s y K W q d) {v:Value}{n:Nat}{xs:List Value}(j:W.ownsRow (wb+1) 58 2 v n xs) {W':World}(a:W.grownBy W' v.ownBlock):gA w cb pb K ns aI W' s y (.slice none 0 0)∧But (fun c=>pb<c) wr W'∧W'.rowIs wb 51 5 (fun i=>(#[q.v0,q.v1,q.v2,q.v3,q.v4]:Array Value)[i]!):=by
 have k:=h.lt;have g:But (fun c=>some c≠v.ownBlock) W W':=⟨a.os,a.tape,a.output,a.size,fun c f b=>a.block c f b⟩;have l:wb+1<=W.heap.size:=h.box.lt
 have b:∀c,c<=wb->some c≠v.ownBlock:=fun c f e=>by
  have:=(gJ j e.symm).1;omega
 exact⟨h.pl.far g fun c f=>b c (by omega),h.kp.low (mH j a (by have:=h.hwb; omega) (by have:=h.hwb; omega)),g.row h.box (b wb (Nat.le_refl _))⟩
theorem fN.lie (h:fN w wr cb pb wb ns aI s y K W q d) {W':World}(a:W.grownBy W' q.v1.ownBlock) {v:Value}(u:v.ownBlock=q.v1.ownBlock∨∀g,v.ownBlock=some g->W.heap.size<=g) {x:Int×Int}{n:Nat}(t:W'.ownsRow (wb+1) 58 2 v n (dC d.aQ++[.int .i64 x.1,.int .i64 x.2])) (r:n=d.aQ.length+1):fN w wr cb pb wb ns aI s y K (W'.setCell ⟨wb,1,none⟩ v) ⟨q.v0,v,q.v2,q.v3,q.v4⟩ ⟨d.aA,d.aQ++[x],d.aJ,d.over,d.aW⟩:=by
 obtain⟨B,C,l⟩:=h.grown h.way.l1 a;have m:But (fun c=>some c≠q.v1.ownBlock) W W':=⟨a.os,a.tape,a.output,a.size,fun c k o=>a.block c k o⟩;have f:=gD h.way.l2 m fun g e b=>h.rH g b.symm e;have E:=h.lt;have A:=h.hwb
 have D:eP W' (wb+1) ⟨q.v0,v,q.v2,q.v3,q.v4⟩ ⟨d.aA,d.aQ++[x],d.aJ,d.over,d.aW⟩:=⟨oG h.way.s0 h.way.l1 (by decide) a,by
  show W'.ownsRow (wb+1) 58 2 v (d.aQ++[x]).length (dC (d.aQ++[x]));rw[Ae,List.length_append,List.length_singleton,← r]
  exact t,f,oG h.way.o3 h.way.l1 (by decide) a,oG h.way.n4 h.way.l1 (by decide) a⟩
 refine⟨B.far (Q:=fun c=>c≠wb) ((But.refl _ _).setCell (fun z=>z rfl) v) fun c k=>by omega,C.cN (p:=⟨wb,1,none⟩) (by show wr.heap.size<=wb; omega) v,(l.set 1 v).congr fun i hi=>?_,D.box l ⟨by decide,by decide⟩ 1 v,fun g j b=>?_,h.hwb,h.lt⟩
 ·rcases i with _ | _ | _ | _ | _ | i
  ·rfl
  ·rfl
  ·rfl
  ·rfl
  ·rfl
  ·omega
 ·rcases u with e | e
  ·exact h.rH g (e.symm.trans j) b
  ·have F:=e g j;have G:=(gJ h.way.l2 b).2.1;omega
theorem fN.wP (h:fN w wr cb pb wb ns aI s y K W q d) {W':World}(a:W.grownBy W' q.v2.ownBlock) {v:Value}(u:v.ownBlock=q.v2.ownBlock∨∀g,v.ownBlock=some g->W.heap.size<=g) {x:Int×Int}{n:Nat}(t:W'.ownsRow (wb+1) 58 2 v n (dC d.aJ++[.int .i64 x.1,.int .i64 x.2])) (r:n=d.aJ.length+1):fN w wr cb pb wb ns aI s y K (W'.setCell ⟨wb,2,none⟩ v) ⟨q.v0,q.v1,v,q.v3,q.v4⟩ ⟨d.aA,d.aQ,d.aJ++[x],d.over,d.aW⟩:=by
 obtain⟨B,C,l⟩:=h.grown h.way.l2 a;have m:But (fun c=>some c≠q.v2.ownBlock) W W':=⟨a.os,a.tape,a.output,a.size,fun c k o=>a.block c k o⟩;have f:=gD h.way.l1 m fun g e b=>h.rH g e b.symm;have E:=h.lt;have A:=h.hwb
 have D:eP W' (wb+1) ⟨q.v0,q.v1,v,q.v3,q.v4⟩ ⟨d.aA,d.aQ,d.aJ++[x],d.over,d.aW⟩:=⟨oG h.way.s0 h.way.l2 (by decide) a,f,by
  show W'.ownsRow (wb+1) 58 2 v (d.aJ++[x]).length (dC (d.aJ++[x]));rw[Ae,List.length_append,List.length_singleton,← r]
  exact t,oG h.way.o3 h.way.l2 (by decide) a,oG h.way.n4 h.way.l2 (by decide) a⟩
 refine⟨B.far (Q:=fun c=>c≠wb) ((But.refl _ _).setCell (fun z=>z rfl) v) fun c k=>by omega,C.cN (p:=⟨wb,2,none⟩) (by show wr.heap.size<=wb; omega) v,(l.set 2 v).congr fun i hi=>?_,D.box l ⟨by decide,by decide⟩ 2 v,fun g j b=>?_,h.hwb,h.lt⟩
 ·rcases i with _ | _ | _ | _ | _ | i
  ·rfl
  ·rfl
  ·rfl
  ·rfl
  ·rfl
  ·omega
 ·rcases u with e | e
  ·exact h.rH g j (e.symm.trans b)
  ·have F:=e g b;have G:=(gJ h.way.l1 j).2.1;omega
end
theorem fN.done {w wr:World}{cb pb wb:Nat}{ns aI:Int}{s y:Value}{K:iW}{W:World}{q:eK}{d:aT}(h:fN w wr cb pb wb ns aI s y K W q d) {n:Nat}{xs:List Value}(k:wr.ownsRow (pb+1) 3 1 s n xs) {i:List (eK×aT)}(l:iI wr (pb+1) y i) {W':World}(g:W.grownBy W' y.ownBlock) {v:Value}{m:Nat}(u:W'.ownsRow (pb+1) 51 5 v m (pH i++[q.v0,q.v1,q.v2,q.v3,q.v4])) (t:m=i.length+1) :
  gA w cb pb K ns aI W' s y (.slice none 0 0)∧gA w cb pb K ns aI (W'.setCell ⟨pb,2,none⟩ v) s v (.slice none 0 0)∧(W'.setCell ⟨pb,2,none⟩ v).ownsRow (pb+1) 3 1 s n xs∧iI (W'.setCell ⟨pb,2,none⟩ v) (pb+1) v (i++[(q,d)]):=by
 have r:=h.lt
 have a:=l.far h.kp fun c b _=>by omega
 have f:=iY k h.kp fun c b _=>by omega
 have B:pb+1<=W.heap.size:=h.pl.plan.lt
 have o:=h.pl.far (Q:=fun c=>c<pb+1) (But.of_below (mH a.own g (Nat.le_refl _) B) fun _ _ z=>z) fun c b=>by omega
 have j:But (fun c=>c≠pb) W' (W'.setCell ⟨pb,2,none⟩ v):=(But.refl _ _).setCell (fun z=>z rfl) v;refine⟨o,o.set2 v,iY (oG f a.own (by decide) g) j fun c b _=>by omega,?_,fun x A=>?_⟩
 ·rw[GB,List.length_append,List.length_singleton,← t]
  exact iY u j fun c b _=>by omega
 ·have p:eP W' (pb+1) x.1 x.2:=by
   rcases List.mem_append.1 A with e | e
   ·exact (a.aB x e).other a.own ⟨by decide,by decide⟩ g
   ·rw[List.mem_singleton.1 e];exact (h.way.low (by omega)).other a.own ⟨by decide,by decide⟩ g
  exact p.far j fun c b _=>by omega
structure kT (w wr:World) (cb pb rb:Nat) (ns aI:Int) (s y b:Value) (nw:Nat) (K:iW) (W:World) (f:Nat->Bool):Prop where
 pl:gA w cb pb K ns aI W s y b
 kp:But (fun c=>pb<c) wr W
 row:W.rowIs rb 4 nw (fun j=>.bool (f j))
 hrb:wr.heap.size=rb
 lt:pb<rb
section
variable {w wr : World}{cb pb rb : Nat}{ns aI : Int}{s y b : Value}{nw : Nat}{K : iW}{W : World}{f : Nat->Bool}
theorem kT.call (h:kT w wr cb pb rb ns aI s y b nw K W f) {W':World}(a:Below W.heap.size W W'):kT w wr cb pb rb ns aI s y b nw K W' f:=
 ⟨h.pl.far (Q:=fun _=>True) (But.aG a) fun _ _=>trivial,h.kp.call a,dP h.row a,h.hrb,h.lt⟩
theorem kT.pick (h:kT w wr cb pb rb ns aI s y b nw K W f) {W':World}{L:iW}(a:But (fun c=>c≠cb) W W') (d:eW W' cb L):kT w wr cb pb rb ns aI s y b nw L W' f:=by
 have e:=h.lt;have g:=h.pl.lt;have i:=h.pl.hcb;exact⟨h.pl.pick a d,h.kp.trans (a.mono fun c _ d=>by omega),a.row h.row (by omega),h.hrb,h.lt⟩
theorem kT.mono {k L i:Nat}{z:Src}(h:kT w wr cb pb rb ns aI s y b nw ⟨k,i,z⟩ W f) (a:k<=L):kT w wr cb pb rb ns aI s y b nw ⟨L,i,z⟩ W f:=⟨h.pl.mono a,h.kp,h.row,h.hrb,h.lt⟩
theorem kT.put (h:kT w wr cb pb rb ns aI s y b nw K W f) (k:Nat) (v:Bool):kT w wr cb pb rb ns aI s y b nw K (W.setCell ⟨rb,k,none⟩ (.bool v)) (fun j=>if j=k then v else f j):=by
 have a:=h.lt;refine⟨h.pl.far (Q:=fun c=>c≠rb) ((But.refl _ _).setCell (fun z=>z rfl) _) fun c d=>by omega,h.kp.cN (p:=⟨rb,k,none⟩) (by show wr.heap.size<=rb; rw[h.hrb]; omega) _,(h.row.set k (.bool v)).congr fun j _=>?_,h.hrb,h.lt⟩;by_cases e:j=k
 ·simp[e]
 ·simp[e]
theorem kT.done (h:kT w wr cb pb rb ns aI s y b nw K W f) {lo:Nat}{j:List (Value×List Bool)}(o:gE wr lo b j) (t:pb<lo) (g:lo<=rb) (n:nw<=maxLen) {W':World}(l:W.grownBy W' b.ownBlock) {v:Value}{m:Nat}(B:W'.ownsRow lo 36 1 v m (j.map Prod.fst++[.slice (some ⟨rb,0,none⟩) nw nw])) (A:m=j.length+1) :
  gA w cb pb K ns aI W' s y b∧gA w cb pb K ns aI (W'.setCell ⟨pb,3,none⟩ v) s y v∧Below lo W W'∧gE (W'.setCell ⟨pb,3,none⟩ v) lo v (j++[(.slice (some ⟨rb,0,none⟩) nw nw,(List.range nw).map f)]):=by
 have u:=h.lt
 have a:=o.far h.kp fun c i _=>by omega
 have D:lo<=W.heap.size:=Nat.le_trans g (Nat.le_of_lt h.row.lt);have d:=mH a.own l (Nat.le_refl _) D
 have p:=h.pl.far (Q:=fun c=>c<lo) (But.of_below d fun _ _ z=>z) fun c i=>by omega
 have k:But (fun c=>c≠pb) W' (W'.setCell ⟨pb,3,none⟩ v):=(But.refl _ _).setCell (fun z=>z rfl) v;refine⟨p,p.AT v,d,?_,fun x C=>?_⟩
 ·rw[List.map_append,List.length_append,List.length_singleton,← A]
  exact iY B k fun c i _=>by omega
 ·rcases List.mem_append.1 C with e | e
  ·exact iY (oG (a.rows x e) a.own (by decide) l) k fun c i _=>by omega
  ·rw[List.mem_singleton.1 e];have q:=oG (nV (H8 h.row n) g) a.own (by decide) l
   have r:=iY q k fun c i _=>by omega
   show (W'.setCell ⟨pb,3,none⟩ v).ownsRow lo 4 1 (.slice (some ⟨rb,0,none⟩) nw nw) ((List.range nw).map f).length (((List.range nw).map f).map Value.bool);rw[List.map_map,List.length_map,List.length_range];exact r
end
end Go.Proofs.YtdhinkgjiapigaaGreatDoor

import Derived.Test.YtdhinkgjiapigaaGreatDoorImpl
namespace Go.Proofs.YtdhinkgjiapigaaGreatDoor
open Go.Deep Go.RowKit
theorem eU {α:Type}(l:List α) {i:Nat}(h:i<l.length):∃x,l[i]?=some x:=⟨l[i],List.getElem?_eq_getElem h⟩
set_option maxRecDepth 100000 in
set_option maxHeartbeats 2000000 in
theorem yK (ok f1 B C v:Value) (aH:List Bool) (l:List Int) (w:World) (u:Bools (In w) w f1 aH) (M:Ints (In w) w v l) (S:l.length<=1048576) (_ho:aH.length<=1048576) (f:∀s∈l,0<=s∧s<aH.length) :
  Calls Tryz.prog 104 #[.agg #[ok,f1,B,C],v] w fun e w'=>e=.returned (.bool (!(l.all (lI aH))))∧Below w.heap.size w w':=by
 obtain⟨G,J,rfl,E⟩:=u;obtain⟨Q,R,rfl,F⟩:=M;have n:=aD E;have o:=aD F;have m:=aD f;have j:=cZ w 40 #[ok,.slice G aH.length J,B,C];clear E F f;go_enter Tryz.func104,Tryz.ntmps104;go_wp2
 go_loop [9] (fun z=>∃(q:Nat),q<=l.length∧z=.int .i64 q∧(l.take q).all (lI aH)=true) (fun z=>l.length-(intOf z).toNat)
 case atStart=>exact⟨0,Nat.zero_le _,rfl,by simp⟩
 case round=>
  obtain⟨q,T,rfl,a⟩:=hrel;have x:=aD a;clear a;by_cases h:q<l.length
  ·obtain L | ⟨H,U,rfl,r,D⟩:=o.out
   ·omega
   obtain⟨y,k⟩:=eU l h;have K:=D q h y k;rw[← j.below.cell (p:=⟨H,_,none⟩) r] at K;obtain⟨N,O⟩:=m.out y (List.mem_of_getElem? k);obtain L | ⟨I,V,rfl,t,d⟩:=n.out
   ·omega
   obtain⟨i,b⟩:∃i,aH[y.toNat]?=some i:=⟨aH[y.toNat]'(by omega),List.getElem?_eq_getElem _⟩;have P:=d y.toNat (by omega) i b;rw[← j.below.cell (p:=⟨I,_,none⟩) t] at P
   have g:lI aH y=!i:=by unfold lI; rw[b]
   have c:=aD g;have A:=aD k;clear k D d b g
   cases i with
   | true=>
    go_wp2;go_ret;exact⟨bI (by rw[vD A.out (by rw[c.out]; rfl)]; rfl),j.below⟩
   | false=>
    go_wp2
    go_round
    case rel=>exact⟨q+1,by omega,by go_num,xT x.out A.out (by rw[c.out]; rfl)⟩
    case measure=>simp[intOf]; omega
  ·go_wp2;go_ret;exact⟨bI (by rw[xV x.out (by omega)]; rfl),j.below⟩
set_option maxRecDepth 100000 in
set_option maxHeartbeats 2000000 in
theorem DC (ok f1 L C v:Value) (aC l:List (Int×Int)) (w:World) (G:Lies (In w) w L aC) (U:Lies (In w) w v l) (hl:l.length<=1048576) (_ho:aC.length<=1048576) (m:∀y∈l,0<=y.1∧y.1<aC.length) :
  Calls Tryz.prog 103 #[.agg #[ok,f1,L,C],v] w fun e w'=>e=.returned (.bool (l.all (mY aC)))∧Below w.heap.size w w':=by
 obtain⟨J,B,rfl,N⟩:=G;obtain⟨av,cv,rfl,O⟩:=U;have t:=aD N;have u:=aD O;have s:=aD m;have I:=cZ w 40 #[ok,f1,.slice J aC.length B,C];clear N O m;go_enter Tryz.func103,Tryz.ntmps103;go_wp2
 go_loopw [9] (fun z wr=>∃(q:Nat),q<=l.length∧z=.int .i64 q∧(l.take q).all (mY aC)=true∧bD w [(40,#[ok,f1,.slice J aC.length B,C])] wr) (fun z _=>l.length-(intOf z).toNat)
 case atStart=>exact⟨0,Nat.zero_le _,rfl,by simp,I⟩
 case round=>
  obtain⟨q,hq,rfl,c,A⟩:=hrel;have H:=aD c;clear c I;by_cases o:q<l.length
  ·obtain T | ⟨Q,ol,rfl,D,M⟩:=u.out
   ·omega
   obtain⟨y,r⟩:=eU l o;obtain⟨R,S⟩:=M q o y r;rw[← A.below.cell (p:=⟨Q,_,none⟩) D] at R S;obtain⟨V,W⟩:=s.out y (List.mem_of_getElem? r);obtain T | ⟨K,Z,rfl,F,k⟩:=t.out
   ·omega
   obtain⟨a,f⟩:∃a,aC[y.1.toNat]?=some a:=⟨aC[y.1.toNat]'(by omega),List.getElem?_eq_getElem _⟩;obtain⟨X,Y⟩:=k y.1.toNat (by omega) a f;have h:=A.call (bC _ (.cells #[.int .i64 y.1,.int .i64 y.2] 58));rw[← h.below.cell (p:=⟨K,_,none⟩) F] at X Y
   have m0:(wr.alloc (.cells #[.int .i64 y.1,.int .i64 y.2] 58)).cell? ⟨wr.heap.size,0,none⟩=some (.int .i64 y.1):=by simp
   have m1:(wr.alloc (.cells #[.int .i64 y.1,.int .i64 y.2] 58)).cell? ⟨wr.heap.size,1,none⟩=some (.int .i64 y.2):=by simp
   have fr:(wr.alloc (.cells #[.int .i64 y.1,.int .i64 y.2] 58)).cell? ⟨w.heap.size,2,none⟩=some (.slice (some ⟨K,Z,none⟩) aC.length B):=h.c 0 2 rfl rfl
   have n:mY aC y=(a.1 == y.2&&a.2 == y.2):=by unfold mY; rw[f]
   have d:=aD n;have x:=aD r;clear r M k f n;by_cases b:a.1=y.2
   ·by_cases g:a.2=y.2
    ·have P:(a.1 == y.2)=true:=by simp[b]
     have t1:(a.2 == y.2)=true:=by simp[g]
     have E:=aD (And.intro b g);clear b g;go_wp2
     go_quiet (fail)
     go_wp2;go_roundw
     case rel=>exact⟨q+1,by omega,by go_num,xT H.out x.out (by rw[d.out,E.out.1,E.out.2]; simp),h.call (pG _ _)⟩
     case measure=>simp[intOf]; omega
    ·have P:(a.1 == y.2)=true:=by simp[b]
     have t1:(a.2 == y.2)=false:=by simp[g]
     have E:=aD g;clear b g;go_wp2
     go_quiet (fail)
     go_wp2;go_ret;exact⟨bI (vD x.out (by rw[d.out]; simp[E.out])).symm,(h.call (pG _ _)).below⟩
   ·have P:(a.1 == y.2)=false:=by simp[b]
    have E:=aD b;clear b;go_wp2
    go_quiet (fail)
    go_wp2;go_ret;exact⟨bI (vD x.out (by rw[d.out]; simp[E.out])).symm,(h.call (pG _ _)).below⟩
  ·go_wp2;go_ret;exact⟨bI (xV H.out (by omega)).symm,A.below⟩
section
open Classical
set_option maxRecDepth 100000 in
set_option maxHeartbeats 1000000 in
theorem BK (ok f1 k l:Value) (a:List aM) (i:Nat) (h:aM) (w:World) (q:dF (In w) w l a) (hi:a[i]?=some h) (_hl:a.length<=1048576) :
  Calls Tryz.prog 97 #[.agg #[ok,f1,k,l],.int .i64 i] w fun e w'=>e=.returned (.bool (h.state != 0))∧Below w.heap.size w w':=by
 obtain⟨r,o,rfl,d⟩:=q;have f:i<a.length:=(List.getElem?_eq_some_iff.1 hi).1;obtain t | ⟨j,of,rfl,c,b⟩:=d
 ·omega
 obtain⟨u,-,n,-,-,-,-⟩:=b i f h hi;have g:=cZ w 40 #[ok,f1,k,.slice (some ⟨j,of,none⟩) a.length o];have s:=(g.below.cell (p:=⟨j,of+i*5,none⟩) c).trans n
 have m:(i:Int)<(a.length:Int):=by omega
 clear n b hi;go_enter Tryz.func97,Tryz.ntmps97;go_wp2;go_ret;exact⟨rfl,g.below⟩
set_option maxRecDepth 100000 in
set_option maxHeartbeats 2000000 in
theorem H9 (ok f1 m o I J K L M:Value) (aH:List Bool) (aC:List (Int×Int)) (x:aT) (w:World) (z:Bools (In w) w f1 aH) (A:Lies (In w) w m aC) (p:cC (In w) w I J K L M x)
  (hs:x.Small 30) (V:∀y,(y∈x.aQ∨y∈x.aJ)->0<=y.1∧y.1<aC.length) (U:∀s,(s∈x.aA∨s∈x.over)->0<=s∧s<aH.length) (hz:aC.length<=1048576∧aH.length<=1048576) :
  Calls Tryz.prog 62 #[.agg #[ok,f1,m,o],.agg #[I,J,K,L,M]] w fun e w'=>e=.returned (.bool (jT aH aC x))∧Below w.heap.size w w':=by
 have H:=eB w 40 51 #[ok,f1,m,o] #[I,J,K,L,M];have B:∀W,Below w.heap.size w W->Bools (In W) W f1 aH:=fun W h=>z.keep (In.keep h).1 (In.keep h).2;have C:∀W,Below w.heap.size w W->Lies (In W) W m aC:=fun W h=>A.keep (In.keep h).1 (In.keep h).2;have D:∀W,Below w.heap.size w W->cC (In W) W I J K L M x:=fun W h=>p.keep (In.keep h).1 (In.keep h).2;have S:=aD B;have T:=aD C;have G:=aD D;have R:=aD V;have Q:=aD U;obtain⟨s0,s1,s2,s3,s4⟩:=hs;obtain⟨X,Y⟩:=hz;obtain⟨a0,c0,rfl⟩:=p.1.size;obtain⟨a1,c1,rfl⟩:=p.2.1.size;obtain⟨a2,c2,rfl⟩:=p.2.2.1.size;obtain⟨a3,c3,rfl⟩:=p.2.2.2.1.size;clear B C D z A p V U
 have E:jT aH aC x=((x.aQ.all (mY aC)&&x.aJ.all (mY aC))&&(x.aA.all (lI aH)&&x.over.all (lI aH))):=by unfold jT; rw[List.all_append,List.all_append]
 have F:=aD E;clear E;go_enter Tryz.func62,Tryz.ntmps62
 go_wp2_with fail
 refine (DC ok f1 m o _ aC x.aQ _ (T.out _ H.below) (G.out _ H.below).2.1 (by omega) X fun y n=>R.out y (.inl n)).mono ?_;rintro e w1 ⟨rfl,d⟩;have a:=H.call d;clear H d;have f:=a.c 0 0 rfl rfl;have g:=a.c 0 1 rfl rfl;have k:=a.c 0 2 rfl rfl;have l:=a.c 0 3 rfl rfl;have q:=a.c 1 0 rfl rfl;have r:=a.c 1 1 rfl rfl;have t:=a.c 1 2 rfl rfl;have u:=a.c 1 3 rfl rfl;have v:=a.c 1 4 rfl rfl;rw[Nat.add_zero] at f g k l
 cases h1:x.aQ.all (mY aC) with
 | false=>
  have N:=aD h1;clear h1;go_wp2;go_ret;exact⟨bI (by rw[F.out,N.out]; simp),a.below⟩
 | true=>
 have N:=aD h1;clear h1
 go_wp2_with fail
 refine (DC ok f1 m o _ aC x.aJ _ (T.out _ a.below) (G.out _ a.below).2.2.1 (by omega) X fun y n=>R.out y (.inr n)).mono ?_;clear f g k l q r t u v;rintro e w2 ⟨rfl,d⟩;have b:=a.call d;clear a d;have f:=b.c 0 0 rfl rfl;have g:=b.c 0 1 rfl rfl;have k:=b.c 0 2 rfl rfl;have l:=b.c 0 3 rfl rfl;have q:=b.c 1 0 rfl rfl;have r:=b.c 1 1 rfl rfl;have t:=b.c 1 2 rfl rfl;have u:=b.c 1 3 rfl rfl;have v:=b.c 1 4 rfl rfl;rw[Nat.add_zero] at f g k l
 cases h2:x.aJ.all (mY aC) with
 | false=>
  have O:=aD h2;clear h2;go_wp2;go_ret;exact⟨bI (by rw[F.out,O.out]; simp),b.below⟩
 | true=>
 have O:=aD h2;clear h2
 go_wp2_with fail
 refine (yK ok f1 m o _ aH x.aA _ (S.out _ b.below) (G.out _ b.below).1 (by omega) Y fun y n=>Q.out y (.inl n)).mono ?_;clear f g k l q r t u v;rintro e w3 ⟨rfl,d⟩;have c:=b.call d;clear b d;have f:=c.c 0 0 rfl rfl;have g:=c.c 0 1 rfl rfl;have k:=c.c 0 2 rfl rfl;have l:=c.c 0 3 rfl rfl;have q:=c.c 1 0 rfl rfl;have r:=c.c 1 1 rfl rfl;have t:=c.c 1 2 rfl rfl;have u:=c.c 1 3 rfl rfl;have v:=c.c 1 4 rfl rfl;rw[Nat.add_zero] at f g k l
 cases h3:x.aA.all (lI aH) with
 | false=>
  have P:=aD h3;clear h3;go_wp2;go_ret;exact⟨bI (by rw[F.out,P.out]; simp),c.below⟩
 | true=>
 have P:=aD h3;clear h3
 go_wp2_with fail
 refine (yK ok f1 m o _ aH x.over _ (S.out _ c.below) (G.out _ c.below).2.2.2.1 (by omega) Y fun y n=>Q.out y (.inr n)).mono ?_;clear f g k l q r t u v;rintro e w4 ⟨rfl,d⟩;have T4:=c.call d;clear c d
 cases h4:x.over.all (lI aH) <;>
 ·have Z:=aD h4;clear h4;go_wp2;go_ret;exact⟨bI (by rw[F.out,N.out,O.out,P.out,Z.out]; rfl),T4.below⟩
end
end Go.Proofs.YtdhinkgjiapigaaGreatDoor

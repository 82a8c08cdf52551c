import Derived.Test.YtdhinkgjiapigaaGreatDoorProg
import Derived.Test.YtdhinkgjiapigaaGreatDoorBase
import Derived.BigQuiet
namespace Go.Proofs.YtdhinkgjiapigaaGreatDoor
open Classical Go.RowKit
set_option maxHeartbeats 400000 in
theorem mG (x a b:Int) (w:World) :
  Calls Tryz.prog 70 #[.int .i64 x,.int .i64 a,.int .i64 b] w fun e w'=>e=.returned (.bool (B (bN x a b)))∧w'=w:=by
 by_cases c:a<=x
 ·by_cases d:x<=b
  ·rw[bQ (show bN x a b from ⟨c,d⟩)];go_enter Tryz.func70,Tryz.ntmps70;go_wp2;go_ret;exact⟨by simp,rfl⟩
  ·rw[bE (show ¬bN x a b from fun h=>d h.2)];go_enter Tryz.func70,Tryz.ntmps70;go_wp2;go_ret;exact⟨by simp,rfl⟩
 ·rw[bE (show ¬bN x a b from fun h=>c h.1)];go_enter Tryz.func70,Tryz.ntmps70;go_wp2;go_ret;exact⟨by simp,rfl⟩
set_option maxHeartbeats 1000000 in
theorem Ar (v:Value) (l:List Int) (n:Int) (w:World) (R:Ints (In w) w v l) (X:l.length<=1048576) (V:1<=n) (O:n<=60) :
  Calls Tryz.prog 130 #[v,.int .i64 n] w fun e w'=>e=.returned (.bool (B (bJ n l)))∧w'=w:=by
 obtain⟨a,N,rfl,g⟩:=R;generalize o:l.length=m at *;have f:Hid (l.length=m):=o;have M:=aD g;clear g o;go_enter Tryz.func130,Tryz.ntmps130;go_wp2
 go_loop [10] (fun i=>∃(k:Nat),k<=m∧i=.int .i64 k∧∀j,j<k->pS n l j) (fun i=>m-(intOf i).toNat)
 case atStart=>exact⟨0,Nat.zero_le _,rfl,fun j u=>by omega⟩
 case round=>
  obtain⟨k,W,rfl,s⟩:=hrel;have J:=aD s;clear s;by_cases d:k<m
  ·obtain U | ⟨b,off,rfl,P,g⟩:=M.out
   ·omega
   obtain⟨x,G⟩:=bG l f d;have S:=g k d x G;have C:=aD G;clear G;have E:=aD g;clear g
   go_wp2_with fail
   refine (mG x 0 (n-1) w).mono ?_;rintro e w' ⟨rfl,rfl⟩;by_cases c:bN x 0 (n-1)
   ·rw[bQ c];have A:=aD c;clear c;go_wp2
    go_loop [7] (fun i=>∃(q:Nat),q<=k∧i=.int .i64 q∧∀j,j<q->l[j]?≠some x) (fun i=>k-(intOf i).toNat)
    case atStart=>exact⟨0,Nat.zero_le _,rfl,fun j u=>by omega⟩
    case round=>
     obtain⟨q,Y,rfl,p⟩:=hrel;have I:=aD p;clear p;by_cases t:q<k
     ·obtain⟨y,H⟩:=bG l f (Nat.lt_trans t d);have T:=E.out q (by omega) y H;have K:=aD H;clear H;by_cases F:y=x
      ·subst F;go_wp2;go_ret;refine⟨bI (bE fun h=>?_).symm,rfl⟩;exact ((h.1 k (by rw[f.out]; exact d)) _ C.out).2 q t K.out
      ·have Q:(y == x)=false:=by simpa using F
       go_wp2
       go_round
       case rel=>exact⟨q+1,by omega,by go_num,fun j u=>by
        by_cases e:j=q
        ·subst e; rw[K.out]; exact fun h=>F (Option.some.inj h)
        ·exact I.out j (by omega)⟩
       case measure=>simp[intOf]; omega
     ·go_wp2
      go_round
      case rel=>exact⟨k+1,by omega,by go_num,fun j u=>by
       by_cases e:j=k
       ·subst e; intro z L; rw[C.out] at L; cases L; exact⟨A.out,fun r Z=>I.out r (by omega)⟩
       ·exact J.out j (by omega)⟩
      case measure=>simp[intOf]; omega
   ·rw[bE c];go_wp2;go_ret;refine⟨bI (bE fun h=>?_).symm,rfl⟩;exact c ((h.1 k (by rw[f.out]; exact d)) _ C.out).1
  ·by_cases D:m<=30
   ·go_wp2;go_ret;refine⟨bI ?_,rfl⟩;rw[bQ ⟨fun j u=>J.out j (by have:=f.out; omega),by have:=f.out; omega⟩];simp; omega
   ·go_wp2;go_ret;refine⟨bI ?_,rfl⟩;rw[bE fun h=>D (by have:=h.2; have:=f.out; omega)];simp; omega
set_option maxHeartbeats 1000000 in
theorem tH (u v:Value) (l r:List Int) (w:World) (W:Ints (In w) w u l) (X:Ints (In w) w v r) (hl:l.length<=1048576) (hr:r.length<=1048576) :
  Calls Tryz.prog 77 #[u,v] w fun e w'=>e=.returned (.bool (B (Meet l r)))∧w'=w:=by
 obtain⟨a,Q,rfl,f⟩:=W;obtain⟨Y,N,rfl,c⟩:=X;generalize n:l.length=m at *;generalize o:r.length=m2 at *;have K:Hid (l.length=m):=n;have d:Hid (r.length=m2):=o;have P:=aD f;have C:=aD c;clear f n c o;go_enter Tryz.func77,Tryz.ntmps77;go_wp2
 go_loop [11] (fun i=>∃(k:Nat),k<=m∧i=.int .i64 k∧∀j x,j<k->l[j]?=some x->¬x∈r) (fun i=>m-(intOf i).toNat)
 case atStart=>exact⟨0,Nat.zero_le _,rfl,fun j _ F=>by omega⟩
 case round=>
  obtain⟨k,hk,rfl,s⟩:=hrel;have J:=aD s;clear s;by_cases g:k<m
  ·obtain R | ⟨b,off,rfl,S,f⟩:=P.out
   ·omega
   obtain⟨x,t⟩:=bG l K g;have g0:=f k g x t;have L:=aD t;clear t f;go_wp2
   go_loop [17] (fun i=>∃(q:Nat),q<=m2∧i=.int .i64 q∧∀j,j<q->r[j]?≠some x) (fun i=>m2-(intOf i).toNat)
   case atStart=>exact⟨0,Nat.zero_le _,rfl,fun j F=>by omega⟩
   case round=>
    obtain⟨q,hq,rfl,p⟩:=hrel;have I:=aD p;clear p;by_cases G:q<m2
    ·obtain R | ⟨Z,O,rfl,T,c⟩:=C.out
     ·omega
     obtain⟨y,A⟩:=bG r d G;have g1:=c q (by omega) y A;have M:=aD A;clear A c;by_cases D:x=y
     ·subst D;go_wp2;go_ret;exact⟨bI (bQ ⟨x,List.mem_of_getElem? L.out,List.mem_of_getElem? M.out⟩).symm,rfl⟩
     ·have U:(x == y)=false:=by simpa using D
      go_wp2
      go_round
      case rel=>exact⟨q+1,by omega,by go_num,fun j F=>by
       by_cases e:j=q
       ·subst e; rw[M.out]; exact fun h=>D (Option.some.inj h).symm
       ·exact I.out j (by omega)⟩
      case measure=>simp[intOf]; omega
    ·go_wp2
     go_round
     case rel=>exact⟨k+1,by omega,by go_num,fun j z F H=>by
      by_cases e:j=k
      ·subst e; rw[L.out] at H; cases H;intro V;obtain⟨i,hi,E⟩:=List.getElem?_of_mem V |>.imp fun i h=>(⟨(List.getElem?_eq_some_iff.1 h).1,h⟩:i<r.length∧r[i]?=some x);exact I.out i (by rw[d.out] at hi; omega) E
      ·exact J.out j z (by omega) H⟩
     case measure=>simp[intOf]; omega
  ·go_wp2;go_ret;refine⟨bI (bE fun h=>?_).symm,rfl⟩;obtain⟨x,t,A⟩:=h;obtain⟨i,hi⟩:=List.getElem?_of_mem t;have:=(List.getElem?_eq_some_iff.1 hi).1;exact J.out i x (by rw[K.out] at this; omega) hi A
theorem Az {w:World}{o:Obj}{b off:Nat}{v:Value}(h:w.cell? ⟨b,off,none⟩=some v):(w.alloc o).cell? ⟨b,off,none⟩=some v:=by
 have a:b<w.heap.size:=World.block_lt_of_cell? _ _ h;rw[World.cell?_alloc_lt _ _ ⟨b,off,none⟩ a]; exact h
set_option maxHeartbeats 1000000 in
theorem Cj (s h:Value) (v1 v2 v3 v:Value) (T:Option Addr) (m U:Nat) (l:List (Int×Int)) (w:World) (Y:v1=.slice T m U) (hv:Lies (In w) w v l) (hl:l.length<=1048576) (hm:m<=1048576) :
  Calls Tryz.prog 131 #[.agg #[s,v1,v2,v3,h],v] w fun e w'=>e=.returned (.bool (B (dJ m l)))∧Below w.heap.size w w':=by
 subst Y;obtain⟨a,a0,rfl,F⟩:=hv;generalize J:l.length=n at *;have A:Hid (l.length=n):=J;have HC:=aD F;clear F J;go_enter Tryz.func131,Tryz.ntmps131;go_wp2
 go_loopw [10] (fun i wr=>∃(k:Nat),k<=n∧i=.int .i64 k∧(∀j,j<k->rP m l j)∧Below w.heap.size w wr∧wr.cell? ⟨w.heap.size,1,none⟩=some (.slice T m U)) (fun i _=>n-(intOf i).toNat)
 case atStart=>exact⟨0,Nat.zero_le _,rfl,fun j R=>by omega,(Below.refl _ _).alloc (Nat.le_refl _) _,by simp⟩
 case round=>
  obtain⟨k,hk,rfl,L,c,C⟩:=hrel;rename World=>N;have HO:=aD L;clear L;by_cases t:k<n
  ·obtain h0 | ⟨b,off,rfl,D,F⟩:=HC.out
   ·omega
   obtain⟨x,Z⟩:=bG l A t;obtain⟨g0,g1⟩:=F k t x Z;rw[← c.cell (p:=⟨b,_,none⟩) D] at g0 g1;have P:=aD Z;have X:=aD F;clear Z F;have I:=Az (o:=.cells #[.int .i64 x.1,.int .i64 x.2] 58) C
   go_wp2_with fail
   refine (mG x.1 0 ((m:Int)-1) _).mono ?_;rintro e w' ⟨rfl,rfl⟩;by_cases u:bN x.1 0 ((m:Int)-1)
   ·rw[bQ u];have S:=aD u;clear u
    go_wp2_with fail
    refine (mG x.2 1 2 _).mono ?_;rintro e w' ⟨rfl,rfl⟩;by_cases d:bN x.2 1 2
    ·rw[bQ d];have H:=aD d;clear d;go_wp2
     go_loopw [7] (fun i wi=>∃(q:Nat),q<=k∧i=.int .i64 q∧(∀j y,j<q->l[j]?=some y->y.1≠x.1)∧Below (N.heap.size+1) (N.alloc (.cells #[.int .i64 x.1,.int .i64 x.2] 58)) wi) (fun i _=>k-(intOf i).toNat)
     case atStart=>exact⟨0,Nat.zero_le _,rfl,fun j _ R=>by omega,Below.refl _ _⟩
     case round=>
      obtain⟨q,hq,rfl,K,g⟩:=hrel;have HN:=aD K;clear K;by_cases M:q<k
      ·obtain⟨y,hy⟩:=bG l A (Nat.lt_trans M t);have V:=(X.out q (by omega) y hy).1;rw[← c.cell (p:=⟨b,_,none⟩) D] at V;have g3:=(g.cell (p:=⟨b,off+q*2,none⟩) (Nat.lt_succ_of_lt (Nat.lt_of_lt_of_le D c.size))).trans (Az V);have g4:wr.cell? ⟨N.heap.size,0,none⟩=some (.int .i64 x.1):=(g.cell (p:=⟨N.heap.size,0,none⟩) (Nat.lt_succ_self _)).trans (by simp);have Hy:=aD hy
       have a3:(q:Int)<(n:Int):=by omega
       have O:=aD g;have f:=aD c;clear hy g0 g1 V g c I;by_cases Q:y.1=x.1
       ·rw[Q] at g3;go_wp2
        go_quiet (fail)
        go_wp2;go_ret;refine⟨bI (bE fun h=>?_).symm,f.out.trans (((Below.refl _ _).alloc f.out.size _).trans (below_drewN (O.out.mono (by have:=f.out.size; omega)) _))⟩;exact ((h.1 k (by rw[A.out]; exact t)) _ P.out).2 q y M Hy.out Q
       ·have a2:(y.1 == x.1)=false:=by simpa using Q
        go_wp2
        go_quiet (fail)
        go_wp2;go_roundw
        case rel=>exact⟨q+1,by omega,by go_num,fun j z R G=>by
         by_cases e:j=q
         ·subst e; rw[Hy.out] at G; cases G; exact Q
         ·exact HN.out j z (by omega) G,below_drewN O.out _⟩
        case measure=>simp[intOf]; omega
      ·have E:wr.cell? ⟨w.heap.size,1,none⟩=some (.slice T m U):=(g.cell (p:=⟨w.heap.size,1,none⟩) (by have:=World.block_lt_of_cell? _ _ C; show w.heap.size<N.heap.size+1; simp at this; omega)).trans I;have O:=aD g;have f:=aD c;clear g c;go_wp2;go_roundw
       case rel=>exact⟨k+1,by omega,by go_num,fun j R=>by
        by_cases e:j=k
        ·subst e; intro z G; rw[P.out] at G; cases G; exact⟨⟨S.out,H.out⟩,fun r y hr=>HN.out r y (by omega)⟩
        ·exact HO.out j (by omega),f.out.trans (((Below.refl _ _).alloc f.out.size _).trans (O.out.mono (by have:=f.out.size; omega))),E⟩
       case measure=>simp[intOf]; omega
    ·rw[bE d];go_wp2;go_ret;refine⟨bI (bE fun h=>?_).symm,c.alloc c.size _⟩;exact d ((h.1 k (by rw[A.out]; exact t)) _ P.out).1.2
   ·rw[bE u];go_wp2;go_ret;refine⟨bI (bE fun h=>?_).symm,c.alloc c.size _⟩;exact u ((h.1 k (by rw[A.out]; exact t)) _ P.out).1.1
  ·by_cases W:n<=30
   ·go_wp2;go_ret;refine⟨bI ?_,c⟩;rw[bQ ⟨fun j R=>HO.out j (by have:=A.out; omega),by have:=A.out; omega⟩];simp; omega
   ·go_wp2;go_ret;refine⟨bI ?_,c⟩;rw[bE fun h=>W (by have:=h.2; have:=A.out; omega)];simp; omega
end Go.Proofs.YtdhinkgjiapigaaGreatDoor

import Derived.Test.YtdhinkgjiapigaaGreatDoorToA
import Derived.Test.YtdhinkgjiapigaaGreatDoorAs
namespace Go.Proofs.YtdhinkgjiapigaaGreatDoor
open Go.RowKit
section
open Classical
abbrev mO (A C:Nat):Value:=.agg #[.int .u32 (A:Int),.int .u32 (C:Int)]
set_option maxHeartbeats 400000 in
theorem EA (A C:Nat) (l:List Int) (x:Int) (w:World) (b:cM A C l) (f:0<=x) (k:x<64) :
  Calls Tryz.prog 207 #[mO A C,.int .i64 x] w fun e w'=>e=.returned (.bool (B (x∈l)))∧Below w.heap.size w w':=by
 have g:=b.a;have i:=b.c;by_cases h:x<32
 ·have j:x / 32=0:=by omega
  have e:B (x∈l)=(bits .and .u32 ((A:Int) / 2 ^ (x % 32).toNat) 1 == 1):=by
   rw[EB _ _ g,show x % 32=x by omega];have:=b.lo x.toNat (by omega);rw[Int.toNat_of_nonneg f] at this;rw[Bool.eq_iff_iff,EN,this]
  have d:=aD e;clear e;go_enter Tryz.func207,Tryz.ntmps207;go_wp2;go_ret;exact⟨bI d.out.symm,bC _ _⟩
 ·have j:x / 32=1:=by omega
  have e:B (x∈l)=(bits .and .u32 ((C:Int) / 2 ^ (x % 32).toNat) 1 == 1):=by
   rw[EB _ _ i,show x % 32=x-32 by omega];have:=b.hi (x-32).toNat (by omega);rw[Int.toNat_of_nonneg (by omega),show x-32+32=x by omega] at this;rw[Bool.eq_iff_iff,EN,this]
  have d:=aD e;clear e;go_enter Tryz.func207,Tryz.ntmps207;go_wp2;go_ret;exact⟨bI d.out.symm,bC _ _⟩
set_option maxHeartbeats 400000 in
theorem JF (A C:Nat) (l:List Int) (x:Int) (w:World) (d:cM A C l) (i:0<=x) (j:x<64) :
  Calls Tryz.prog 208 #[mO A C,.int .i64 x] w fun e w'=>∃A' C',e=.returned (mO A' C')∧cM A' C' (l++[x])∧Below w.heap.size w w':=by
 have k:=d.a;have m:=d.c;by_cases h:x<32
 ·have n:x / 32=0:=by omega
  have e:=Dn A (x % 32).toNat k (by omega);rw[show x % 32=x by omega] at e
  have b:x % 32=x:=by omega
  have f:=aD e;have g:=aD b;clear e b;go_enter Tryz.func208,Tryz.ntmps208;go_wp2
  go_region
  go_wp2;refine bodyPost_ret (v:=.agg #[.int .u32 (bits .or .u32 (A:Int) (2 ^ (x % 32).toNat % 4294967296)),.int .u32 (C:Int)]) (by simp[results,Tryz.results208,go_sem]) rfl ⟨A ||| 2 ^ x.toNat,C,?_,d.low i h,?_⟩
  ·rw[g.out,f.out]
  ·exact (((Below.refl _ _).alloc (Nat.le_refl _) _).alloc (by simp) _).drew
 ·have n:x / 32=1:=by omega
  have e:=Dn C (x % 32).toNat m (by omega);rw[show x % 32=x-32 by omega] at e
  have b:x % 32=x-32:=by omega
  have f:=aD e;have g:=aD b;clear e b;go_enter Tryz.func208,Tryz.ntmps208;go_wp2
  go_region
  go_wp2;refine bodyPost_ret (v:=.agg #[.int .u32 (A:Int),.int .u32 (bits .or .u32 (C:Int) (2 ^ (x % 32).toNat % 4294967296))]) (by simp[results,Tryz.results208,go_sem]) rfl ⟨A,C ||| 2 ^ (x-32).toNat,?_,d.high (by omega) j,?_⟩
  ·rw[g.out,f.out]
  ·exact (((Below.refl _ _).alloc (Nat.le_refl _) _).alloc (by simp) _).drew
end
section
open Classical Go.Deep
set_option maxHeartbeats 400000 in
theorem A7 (n x:Int) (v1 v2 v3 c:Value) (w:World) :
  Calls Tryz.prog 54 #[.agg #[.int .i64 n,v1,v2,v3,c],.int .i64 x] w fun e w'=>e=.returned (.bool (B (bN x 0 (n-1))))∧Below w.heap.size w w':=by
 by_cases a:0<=x
 ·by_cases b:x<n
  ·rw[bQ (show bN x 0 (n-1) from ⟨a,by omega⟩)];go_enter Tryz.func54,Tryz.ntmps54;go_wp2;go_ret;exact⟨by simp,bC _ _⟩
  ·rw[bE (show ¬bN x 0 (n-1) from fun h=>b (by have:=h.2; omega))];go_enter Tryz.func54,Tryz.ntmps54;go_wp2;go_ret;exact⟨by simp,bC _ _⟩
 ·rw[bE (show ¬bN x 0 (n-1) from fun h=>a h.1)];go_enter Tryz.func54,Tryz.ntmps54;go_wp2;go_ret;exact⟨by simp,bC _ _⟩
theorem Am (w:World) (o a:Obj):Below w.heap.size w ((w.alloc o).alloc a):=(((Below.refl _ _).alloc (Nat.le_refl _) _).alloc (by simp) _)
set_option maxHeartbeats 400000 in
theorem CR (s:Value) (b:Option Addr) (m c:Nat) (v2 v3 f:Value) (x:Int) (w:World) (_hm:m<=1048576) :
  Calls Tryz.prog 59 #[.agg #[s,.slice b m c,v2,v3,f],.int .i64 x] w fun e w'=>e=.returned (.bool (B (bN x 0 ((m:Int)-1))))∧Below w.heap.size w w':=by
 by_cases a:0<=x
 ·by_cases d:x<(m:Int)
  ·rw[bQ (show bN x 0 ((m:Int)-1) from ⟨a,by omega⟩)];go_enter Tryz.func59,Tryz.ntmps59;go_wp2;go_ret;exact⟨by simp,bC _ _⟩
  ·rw[bE (show ¬bN x 0 ((m:Int)-1) from fun h=>d (by have:=h.2; omega))];go_enter Tryz.func59,Tryz.ntmps59;go_wp2;go_ret;exact⟨by simp,bC _ _⟩
 ·rw[bE (show ¬bN x 0 ((m:Int)-1) from fun h=>a h.1)];go_enter Tryz.func59,Tryz.ntmps59;go_wp2;go_ret;exact⟨by simp,bC _ _⟩
set_option maxHeartbeats 400000 in
theorem IP (s:Value) (b:Option Addr) (m c:Nat) (v2 v3 f:Value) (x:Int) (w:World) (_hm:m<=1048576) :
  Calls Tryz.prog 61 #[.agg #[s,v2,.slice b m c,v3,f],.int .i64 x] w fun e w'=>e=.returned (.bool (B (bN x 0 ((m:Int)-1))))∧Below w.heap.size w w':=by
 by_cases a:0<=x
 ·by_cases d:x<(m:Int)
  ·rw[bQ (show bN x 0 ((m:Int)-1) from ⟨a,by omega⟩)];go_enter Tryz.func61,Tryz.ntmps61;go_wp2;go_ret;exact⟨by simp,bC _ _⟩
  ·rw[bE (show ¬bN x 0 ((m:Int)-1) from fun h=>d (by have:=h.2; omega))];go_enter Tryz.func61,Tryz.ntmps61;go_wp2;go_ret;exact⟨by simp,bC _ _⟩
 ·rw[bE (show ¬bN x 0 ((m:Int)-1) from fun h=>a h.1)];go_enter Tryz.func61,Tryz.ntmps61;go_wp2;go_ret;exact⟨by simp,bC _ _⟩
set_option maxHeartbeats 1000000 in
theorem Ay (s:Value) (d:Option Addr) (m c:Nat) (v2 v3 g:Value) (x y:Int) (w:World) (z:m<=1048576) :
  Calls Tryz.prog 114 #[.agg #[s,.slice d m c,v2,v3,g],.agg #[.int .i64 x,.int .i64 y]] w fun e w'=>e=.returned (.bool (B (bN x 0 ((m:Int)-1)∧bN y 1 2)))∧Below w.heap.size w w':=by
 have o:=Am w (.cells #[s,.slice d m c,v2,v3,g] 27) (.cells #[.int .i64 x,.int .i64 y] 58);have R:=dH (w.alloc (.cells #[s,.slice d m c,v2,v3,g] 27)) 58 #[.int .i64 x,.int .i64 y];rw[show (w.alloc (.cells #[s,.slice d m c,v2,v3,g] 27)).heap.size=w.heap.size+1 by simp] at R;go_enter Tryz.func114,Tryz.ntmps114
 go_wp2_with fail
 refine (CR s d m c v2 v3 g x _ z).mono ?_;rintro e r ⟨rfl,n⟩;have p:=eV R n;have j:Below w.heap.size w r:=o.trans (n.mono o.size)
 have c:r.cell? ⟨w.heap.size+1,1,none⟩=some (.int .i64 y):=by simpa using p.cell (i:=1) (by simp)
 clear o R n p;by_cases q:bN x 0 ((m:Int)-1)
 case neg=>
  rw[bE q];have Q:=aD q;clear q;go_wp2;go_ret;exact⟨bI (bE fun h=>Q.out h.1).symm,j⟩
 rw[bQ q];have Q:=aD q;clear q;by_cases f:y=1
 ·subst f;go_wp2;go_ret;exact⟨bI (bQ ⟨Q.out,by omega,by omega⟩).symm,j⟩
 have l:(y == 1)=false:=by simpa using f
 by_cases k:y=2
 ·subst k;clear f l;go_wp2;go_ret;exact⟨bI (bQ ⟨Q.out,by omega,by omega⟩).symm,j⟩
 have v:(y == 2)=false:=by simpa using k
 have t:=aD f;have u:=aD k;clear f k;go_wp2;go_ret;exact⟨bI (bE fun h=>by have a:=h.2.1; have b:=h.2.2; have:=t.out; have:=u.out; omega).symm,j⟩
set_option maxHeartbeats 1000000 in
theorem yY (A C b d:Nat) (l r:List Int) (w:World) (h:cM A C l) (k:cM b d r) (p:∀x∈l,0<=x∧x<64) :
  Calls Tryz.prog 174 #[mO A C,mO b d] w fun e w'=>e=.returned (.bool (B (Meet l r)))∧Below w.heap.size w w':=by
 have t:∀w,(Instr.index 227 (mO A C) (.int .i64 0)).run Tryz.prog w=.ok (.int .u32 (A:Int)) w:=fun _=>by kernel_rfl
 have u:∀w,(Instr.index 227 (mO A C) (.int .i64 1)).run Tryz.prog w=.ok (.int .u32 (C:Int)) w:=fun _=>by kernel_rfl
 have n:B (Meet l r)=B (A &&& b≠0∨C &&& d≠0):=lH (IY h k p).symm;rw[n];have g:=BX A b h.a k.a;have i:=BX C d h.c k.c;clear n p h k;have m:∀o o',Below w.heap.size w ((w.alloc o).alloc o'):=Am w;by_cases f:A &&& b=0
 ·by_cases j:C &&& d=0
  ·rw[bE (show ¬(A &&& b≠0∨C &&& d≠0) from fun h=>h.elim (fun h=>h f) (fun h=>h j))]
   have q:(bits .and .u32 (A:Int) (b:Int) != 0)=false:=by rw[g,f]; rfl
   have s:(bits .and .u32 (C:Int) (d:Int) != 0)=false:=by rw[i,j]; rfl
   clear g i f j;go_enter Tryz.func174,Tryz.ntmps174;go_wp2;refine wp_loop_rounds 3 ?_;rw[rounds_succ];go_wp2;rw[rounds_succ];go_wp2;rw[rounds_succ];go_wp2;go_ret;exact⟨rfl,m _ _⟩
  ·rw[bQ (show (A &&& b≠0∨C &&& d≠0) from .inr j)]
   have q:(bits .and .u32 (A:Int) (b:Int) != 0)=false:=by rw[g,f]; rfl
   have s:(bits .and .u32 (C:Int) (d:Int) != 0)=true:=by rw[i]; simp; omega
   clear g i f j;go_enter Tryz.func174,Tryz.ntmps174;go_wp2;refine wp_loop_rounds 2 ?_;rw[rounds_succ];go_wp2;rw[rounds_succ];go_wp2;go_ret;exact⟨rfl,m _ _⟩
 ·rw[bQ (show (A &&& b≠0∨C &&& d≠0) from .inl f)]
  have q:(bits .and .u32 (A:Int) (b:Int) != 0)=true:=by rw[g]; simp; omega
  clear g i f;go_enter Tryz.func174,Tryz.ntmps174;go_wp2;refine wp_loop_rounds 1 ?_;rw[rounds_succ];go_wp2;go_ret;exact⟨rfl,m _ _⟩
def two (a b:Value):Nat->Value:=fun i=>(#[a,b]:Array Value)[i]!
structure Bs (w:World) (t tr:TypeId) (f:Nat->Value) (A C:Nat) (W:World):Prop where
 below:Below w.heap.size w W
 one:W.rowIs w.heap.size t 5 f
 res:∃g,W.rowIs (w.heap.size+1) tr 2 g
 set:W.rowIs (w.heap.size+1+1) tr 2 (two (.int .u32 (A:Int)) (.int .u32 (C:Int)))
theorem Bs.call {w:World}{t b:TypeId}{f:Nat->Value}{A C:Nat}{W W':World}(h:Bs w t b f A C W) (a:Below W.heap.size W W'):Bs w t b f A C W':=
 ⟨h.below.trans (a.mono h.below.size),eV h.one a,h.res.imp fun _ k=>eV k a,eV h.set a⟩
theorem Bs.start (w:World) (t a:TypeId) (b c d e f g h:Value) (A C:Nat):Bs w t a (dE b c d e f) A C (((w.alloc (.cells #[b,c,d,e,f] t)).alloc (.cells #[g,h] a)).alloc (.cells #[.int .u32 (A:Int),.int .u32 (C:Int)] a)):=by
 refine⟨((((Below.refl _ _).alloc (Nat.le_refl _) _).alloc (by simp) _).alloc (by simp; omega) _),((dH _ _ _).alloc _).alloc _,?_,?_⟩
 ·have:=(dH (w.alloc (.cells #[b,c,d,e,f] t)) a #[g,h]).alloc (.cells #[.int .u32 (A:Int),.int .u32 (C:Int)] a);rw[show (w.alloc (.cells #[b,c,d,e,f] t)).heap.size=w.heap.size+1 by simp] at this;exact⟨_,this⟩
 ·have:=dH ((w.alloc (.cells #[b,c,d,e,f] t)).alloc (.cells #[g,h] a)) a #[.int .u32 (A:Int),.int .u32 (C:Int)];rw[show ((w.alloc (.cells #[b,c,d,e,f] t)).alloc (.cells #[g,h] a)).heap.size=w.heap.size+1+1 by simp] at this;exact this
theorem Bs.cells {w:World}{t f:TypeId}{a b c d e:Value}{A C:Nat}{W:World}(h:Bs w t f (dE a b c d e) A C W) :
  W.cell? ⟨w.heap.size,0,none⟩=some a∧W.cell? ⟨w.heap.size,1,none⟩=some b∧W.cell? ⟨w.heap.size,2,none⟩=some c∧W.cell? ⟨w.heap.size,3,none⟩=some d∧W.cell? ⟨w.heap.size,4,none⟩=some e:=
 jD.cells ⟨h.below,h.one⟩
theorem Bs.slot {w:World}{t b:TypeId}{f:Nat->Value}{A C:Nat}{W:World}(h:Bs w t b f A C W) :
  ∃x y,W.cell? ⟨w.heap.size+1,0,none⟩=some x∧W.cell? ⟨w.heap.size+1,1,none⟩=some y∧W.frozen? ⟨w.heap.size+1,0,none⟩=false∧W.frozen? ⟨w.heap.size+1,1,none⟩=false:=by
 obtain⟨g,a⟩:=h.res;exact⟨_,_,a.cell (i:=0) (by omega),a.cell (i:=1) (by omega),a.frozen 0,a.frozen 1⟩
theorem Bs.words {w:World}{t a:TypeId}{f:Nat->Value}{A C:Nat}{W:World}(h:Bs w t a f A C W) :
  W.cell? ⟨w.heap.size+1+1,0,none⟩=some (.int .u32 (A:Int))∧W.cell? ⟨w.heap.size+1+1,1,none⟩=some (.int .u32 (C:Int))∧W.frozen? ⟨w.heap.size+1+1,0,none⟩=false∧W.frozen? ⟨w.heap.size+1+1,1,none⟩=false:=
 ⟨by simpa [two] using h.set.cell (i:=0) (by omega),by simpa [two] using h.set.cell (i:=1) (by omega),h.set.frozen 0,h.set.frozen 1⟩
theorem Bs.ret {w:World}{t a:TypeId}{f:Nat->Value}{A C:Nat}{W:World}(h:Bs w t a f A C W) (x y:Value):Below w.heap.size w ((W.setCell ⟨w.heap.size+1,0,none⟩ x).setCell ⟨w.heap.size+1,1,none⟩ y):=
 (h.below.setCell (by show w.heap.size<=w.heap.size+1; omega) _).setCell (by show w.heap.size<=w.heap.size+1; omega) _
theorem Bs.store {w:World}{t e:TypeId}{f:Nat->Value}{A C:Nat}{W:World}(h:Bs w t e f A C W) (a b:Nat) :
  Bs w t e f a b ((W.setCell ⟨w.heap.size+1+1,0,none⟩ (.int .u32 (a:Int))).setCell ⟨w.heap.size+1+1,1,none⟩ (.int .u32 (b:Int))):=by
 have c:∀o:Nat,w.heap.size≠(⟨w.heap.size+1+1,o,none⟩:Addr).block:=fun o=>by show w.heap.size≠w.heap.size+1+1; omega
 have d:∀o:Nat,w.heap.size+1≠(⟨w.heap.size+1+1,o,none⟩:Addr).block:=fun o=>by show w.heap.size+1≠w.heap.size+1+1; omega
 refine⟨(h.below.setCell (by show w.heap.size<=w.heap.size+1+1; omega) _).setCell (by show w.heap.size<=w.heap.size+1+1; omega) _,(h.one.setOther (c _) _).setOther (c _) _,h.res.imp fun _ k=>(k.setOther (d _) _).setOther (d _) _,((h.set.set 0 _).set 1 _).congr fun i hi=>?_⟩;rcases i with _ | _ | i
 ·simp[two]
 ·simp[two]
 ·omega
theorem II {l:List Int}{k:Nat}{x:Int}(h:l[k]?=some x):l.take (k+1)=l.take k++[x]:=by
 rw[List.take_add_one,h]; rfl
theorem Iw {l:List Int}{k:Nat}{x:Int}(h:x∈l.take k):∃q,q<k∧l[q]?=some x:=by
 obtain⟨i,hi⟩:=List.getElem?_of_mem h;have a:=(List.getElem?_eq_some_iff.1 hi).1;rw[List.length_take] at a;refine⟨i,by omega,?_⟩;rw[List.getElem?_take,if_pos (by omega)] at hi;exact hi
theorem I8 {l:List Int}{k q:Nat}{x:Int}(a:q<k) (h:l[q]?=some x):x∈l.take k:=
 List.mem_of_getElem? (i:=q) (by rw[List.getElem?_take,if_pos a]; exact h)
set_option maxHeartbeats 2000000 in
theorem tT (n:Int) (v1 v2 v3 V v:Value) (l:List Int) (w:World) (hv:Ints (In w) w v l) (hl:l.length<=1048576) (a3:n<=60) :
  Calls Tryz.prog 184 #[.agg #[.int .i64 n,v1,v2,v3,V],v] w fun e w'=>∃A C,e=.returned (.tuple #[mO A C,.bool (B (bJ n l))])∧(bJ n l->cM A C l)∧Below w.heap.size w w':=by
 obtain⟨a,a2,rfl,R⟩:=hv;generalize S:l.length=m at *;have E:Hid (l.length=m):=S;have HC:=aD R;clear R S;by_cases a0:m<=30
 case neg=>
  have d:¬bJ n l:=fun h=>a0 (by have:=h.2; have:=E.out; omega);rw[bE d];have D:=aD d;clear d;go_enter Tryz.func184,Tryz.ntmps184;go_wp2;exact bodyPost_ret (v:=.tuple #[mO 0 0,.bool false]) (by simp[results,Tryz.results184,go_sem]) rfl ⟨0,0,rfl,fun h=>absurd h D.out,Am _ _ _⟩
 have T0:=Bs.start w 27 227 (.int .i64 n) v1 v2 v3 V (.int .u32 0) (.int .u32 0) 0 0;go_enter Tryz.func184,Tryz.ntmps184;go_wp2
 go_loopw [15] (fun i wr=>∃(k A C:Nat),k<=m∧i=.int .i64 k∧(∀j,j<k->pS n l j)∧cM A C (l.take k)∧Bs w 27 227 (dE (.int .i64 n) v1 v2 v3 V) A C wr) (fun i _=>m-(intOf i).toNat)
 case atStart=>exact⟨0,0,0,Nat.zero_le _,rfl,fun j hj=>by omega,cM.nil,T0⟩
 case round=>
  obtain⟨k,A,C,hk,rfl,T,f,F⟩:=hrel;have HO:=aD T;clear T T0;obtain⟨W,X,Y,Z,b4⟩:=F.cells;obtain⟨r0,r1,u,y,N,f1⟩:=F.slot;obtain⟨s0,J,K,L⟩:=F.words;by_cases s:k<m
  ·obtain h0 | ⟨b,off,rfl,a1,R⟩:=HC.out
   ·omega
   obtain⟨x,hx⟩:=bG l E s;have g0:=R k s x hx;rw[← F.below.cell (p:=⟨b,_,none⟩) a1] at g0;have U:=aD hx;clear hx R
   go_wp2_with fail
   refine (A7 n x v1 v2 v3 V _).mono ?_;clear W X Y Z b4 u y N f1 s0 J K L g0;rintro e w1 ⟨rfl,O⟩;have M:=F.call O;clear F O;obtain⟨r0,r1,u,y,N,f1⟩:=M.slot;obtain⟨s0,J,K,L⟩:=M.words;by_cases g:bN x 0 (n-1)
   case neg=>
    have d:¬bJ n l:=fun h=>g ((h.1 k (by rw[E.out]; exact s)) _ U.out).1;rw[bE g];have D:=aD d;clear d g;go_wp2;exact bodyPost_ret (v:=.tuple #[mO 0 0,.bool false]) (by simp[results,Tryz.results184,go_sem,u,y]) rfl ⟨0,0,by rw[bE D.out],fun h=>absurd h D.out,M.ret _ _⟩
   rw[bQ g];have o:=aD g;clear g
   go_wp2_with fail
   refine (EA A C _ x _ f o.out.1 (by have:=o.out.2; omega)).mono ?_;clear u y N f1 s0 J K L;rintro e w2 ⟨rfl,P⟩;have I:=M.call P;clear M P;obtain⟨W,X,Y,Z,b4⟩:=I.cells;obtain⟨r0,r1,u,y,N,f1⟩:=I.slot;obtain⟨s0,J,K,L⟩:=I.words;by_cases c:x∈l.take k
   ·rw[bQ c]
    have d:¬bJ n l:=fun h=>by
     obtain⟨q,hq,G⟩:=Iw c;exact ((h.1 k (by rw[E.out]; exact s)) _ U.out).2 q hq G
    have D:=aD d;clear d c;go_wp2;exact bodyPost_ret (v:=.tuple #[mO 0 0,.bool false]) (by simp[results,Tryz.results184,go_sem,u,y]) rfl ⟨0,0,by rw[bE D.out],fun h=>absurd h D.out,I.ret _ _⟩
   ·rw[bE c];have HM:=aD c;clear c
    go_wp2_with fail
    refine (JF A C _ x _ f o.out.1 (by have:=o.out.2; omega)).mono ?_;clear W X Y Z b4 u y N f1 s0 J K L;rintro e w3 ⟨A',C',rfl,H,Q⟩;have T4:=I.call Q;clear I Q;obtain⟨s0,J,K,L⟩:=T4.words;go_wp2;go_roundw
    case rel=>exact⟨k+1,A',C',by omega,by go_num,fun j hj=>by
     by_cases e:j=k
     ·subst e; intro z hz; rw[U.out] at hz; cases hz; exact⟨o.out,fun q hq G=>HM.out (I8 hq G)⟩
     ·exact HO.out j (by omega),by rw[II U.out]; exact H,T4.store A' C'⟩
    case measure=>simp[intOf]; omega
  ·have t:bJ n l:=⟨fun j hj=>HO.out j (by have:=E.out; omega),by have:=E.out; omega⟩;have HY:=aD t
   have r:cM A C l:=by
    rw[List.take_of_length_le (by have:=E.out; omega)] at f;exact f
   have HS:=aD r;clear t f r;go_wp2;exact bodyPost_ret (v:=.tuple #[mO A C,.bool true]) (by simp[results,Tryz.results184,go_sem,u,y]) rfl ⟨A,C,by rw[bQ HY.out],fun _=>HS.out,F.ret _ _⟩
structure Bw (w:World) (t tw ts ta:TypeId) (f g:Nat->Value) (A C:Nat) (s:Nat->Bool) (W:World):Prop where
 below:Below w.heap.size w W
 one:W.rowIs w.heap.size t 5 f
 way:W.rowIs (w.heap.size+1) tw 5 g
 set:W.rowIs (w.heap.size+1+1) ts 2 (two (.int .u32 (A:Int)) (.int .u32 (C:Int)))
 seen:W.rowIs (w.heap.size+1+1+1) ta 40 (fun i=>.bool (s i))
theorem Bw.call {w:World}{t c ts b:TypeId}{f g:Nat->Value}{A C:Nat}{s:Nat->Bool}{W W':World}(h:Bw w t c ts b f g A C s W) (a:Below W.heap.size W W'):Bw w t c ts b f g A C s W':=
 ⟨h.below.trans (a.mono h.below.size),eV h.one a,eV h.way a,eV h.set a,eV h.seen a⟩
theorem Bw.start (w:World) (t g ts n:TypeId) (a b d e f h j k l m:Value) (A C:Nat) (c:Array Value) (r:c=Array.replicate 40 (.bool false)) :
  Bw w t g ts n (dE a b d e f) (dE h j k l m) A C (fun _=>false) ((((w.alloc (.cells #[a,b,d,e,f] t)).alloc (.cells #[h,j,k,l,m] g)).alloc (.cells #[.int .u32 (A:Int),.int .u32 (C:Int)] ts)).alloc (.cells c n)):=by
 have o:(w.alloc (.cells #[a,b,d,e,f] t)).heap.size=w.heap.size+1:=by simp
 have p:((w.alloc (.cells #[a,b,d,e,f] t)).alloc (.cells #[h,j,k,l,m] g)).heap.size=w.heap.size+1+1:=by simp
 have q:(((w.alloc (.cells #[a,b,d,e,f] t)).alloc (.cells #[h,j,k,l,m] g)).alloc (.cells #[.int .u32 (A:Int),.int .u32 (C:Int)] ts)).heap.size=w.heap.size+1+1+1:=by simp
 refine⟨(((((Below.refl _ _).alloc (Nat.le_refl _) _).alloc (by simp) _).alloc (by simp; omega) _).alloc (by simp; omega) _),(((dH _ _ _).alloc _).alloc _).alloc _,?_,?_,?_⟩
 ·have:=((dH (w.alloc (.cells #[a,b,d,e,f] t)) g #[h,j,k,l,m]).alloc (.cells #[.int .u32 (A:Int),.int .u32 (C:Int)] ts)).alloc (.cells c n);rw[o] at this;exact this
 ·have:=(dH ((w.alloc (.cells #[a,b,d,e,f] t)).alloc (.cells #[h,j,k,l,m] g)) ts #[.int .u32 (A:Int),.int .u32 (C:Int)]).alloc (.cells c n);rw[p] at this;exact this
 ·subst r;have:=dH (((w.alloc (.cells #[a,b,d,e,f] t)).alloc (.cells #[h,j,k,l,m] g)).alloc (.cells #[.int .u32 (A:Int),.int .u32 (C:Int)] ts)) n (Array.replicate 40 (.bool false));rw[q,Array.size_replicate] at this
  exact this.congr fun i hi=>by rw[getElem!_pos _ i (by rw[Array.size_replicate]; exact hi),Array.getElem_replicate]
theorem Bw.cells {w:World}{t n ts m:TypeId}{a b c d e f g j k l:Value}{A C:Nat}{s:Nat->Bool}{W:World}(h:Bw w t n ts m (dE a b c d e) (dE f g j k l) A C s W) :
  (W.cell? ⟨w.heap.size,0,none⟩=some a∧W.cell? ⟨w.heap.size,1,none⟩=some b∧W.cell? ⟨w.heap.size,2,none⟩=some c∧W.cell? ⟨w.heap.size,3,none⟩=some d∧W.cell? ⟨w.heap.size,4,none⟩=some e) ∧
  (W.cell? ⟨w.heap.size+1,0,none⟩=some f∧W.cell? ⟨w.heap.size+1,1,none⟩=some g∧W.cell? ⟨w.heap.size+1,2,none⟩=some j∧W.cell? ⟨w.heap.size+1,3,none⟩=some k∧W.cell? ⟨w.heap.size+1,4,none⟩=some l) ∧
  (W.cell? ⟨w.heap.size+1+1,0,none⟩=some (.int .u32 (A:Int))∧W.cell? ⟨w.heap.size+1+1,1,none⟩=some (.int .u32 (C:Int))):=
 ⟨jD.cells ⟨h.below,h.one⟩,(lL.cells ⟨h.below,h.one,h.way⟩).2,by simpa [two] using h.set.cell (i:=0) (by omega),by simpa [two] using h.set.cell (i:=1) (by omega)⟩
theorem Bw.mark {w:World}{t b ts a:TypeId}{f g:Nat->Value}{A C:Nat}{s:Nat->Bool}{W:World}(h:Bw w t b ts a f g A C s W) (i:Nat) :
  Bw w t b ts a f g A C (fun j=>if j=i then true else s j) (W.setCell ⟨w.heap.size+1+1+1,i,none⟩ (.bool true)):=by
 refine⟨h.below.setCell (by show w.heap.size<=w.heap.size+1+1+1; omega) _,h.one.setOther (by show w.heap.size≠w.heap.size+1+1+1; omega) _,h.way.setOther (by show w.heap.size+1≠w.heap.size+1+1+1; omega) _,h.set.setOther (by show w.heap.size+1+1≠w.heap.size+1+1+1; omega) _,(h.seen.set i _).congr fun j _=>?_⟩;by_cases e:j=i
 ·rw[if_pos e,if_pos e]
 ·rw[if_neg e,if_neg e]
def Ea (sw:List Int) (d:aT):Prop:=dJ sw.length d.aQ∧dJ sw.length d.aJ∧∀x∈d.aQ,zV sw d x
def Be (sw:List Int) (d:aT) (j:Nat):Prop:=∀x,d.aQ[j]?=some x->(bN x.1 0 ((sw.length:Int)-1)∧bN x.2 1 2)∧(∀q y,q<j->d.aQ[q]?=some y->y.1≠x.1)∧∃s,sw[x.1.toNat]?=some s∧s∈d.aA
def Dw (sw:List Int) (d:aT) (j:Nat):Prop:=∀x,d.aJ[j]?=some x->(bN x.1 0 ((sw.length:Int)-1)∧bN x.2 1 2)∧(∀y∈d.aQ,y.1≠x.1)∧∀q y,q<j->d.aJ[q]?=some y->y.1≠x.1
theorem I7 (l:List Int) (d:aT):Ea l d↔(d.aQ.length<=30∧d.aJ.length<=30∧(∀j,j<d.aQ.length->Be l d j)∧∀j,j<d.aJ.length->Dw l d j):=by
 constructor
 ·rintro⟨f,g,e⟩;refine⟨f.2,g.2,fun j c x b=>?_,fun j c x b=>?_⟩
  ·have a:=f.1 j c x b;exact⟨a.1,a.2,(e x (List.mem_of_getElem? b)).2⟩
  ·have a:=g.1 j c x b;exact⟨a.1,fun y k=>(e y k).1 x (List.mem_of_getElem? b),a.2⟩
 ·rintro⟨f,g,e,h⟩;refine⟨⟨fun j c x b=>⟨(e j c x b).1,(e j c x b).2.1⟩,f⟩,⟨fun j c x b=>⟨(h j c x b).1,(h j c x b).2.2⟩,g⟩,fun x b=>⟨fun y k=>?_,?_⟩⟩
  ·obtain⟨i,hi⟩:=List.getElem?_of_mem k;exact (h i (List.getElem?_eq_some_iff.1 hi).1 y hi).2.1 x b
  ·obtain⟨i,hi⟩:=List.getElem?_of_mem b;exact (e i (List.getElem?_eq_some_iff.1 hi).1 x hi).2.2
theorem Co {l:List (Int×Int)}{k:Nat}{x:Int×Int}(h:l[k]?=some x):l.take (k+1)=l.take k++[x]:=by
 rw[List.take_add_one,h]; rfl
theorem DF {l:List (Int×Int)}{k:Nat}{x:Int×Int}(h:x∈l.take k):∃q,q<k∧l[q]?=some x:=by
 obtain⟨i,hi⟩:=List.getElem?_of_mem h;have a:=(List.getElem?_eq_some_iff.1 hi).1;rw[List.length_take] at a;refine⟨i,by omega,?_⟩;rw[List.getElem?_take,if_pos (by omega)] at hi;exact hi
theorem DO {l:List (Int×Int)}{k q:Nat}{x:Int×Int}(a:q<k) (h:l[q]?=some x):x∈l.take k:=
 List.mem_of_getElem? (i:=q) (by rw[List.getElem?_take,if_pos a]; exact h)
def fM (s:Nat->Bool) (l:List (Int×Int)):Prop:=∀i,s i=true↔∃x∈l,x.1=(i:Int)
theorem fM.snoc {s:Nat->Bool}{l:List (Int×Int)}(h:fM s l) {x:Int×Int}(c:0<=x.1):fM (fun j=>if j=x.1.toNat then true else s j) (l++[x]):=by
 intro i;by_cases e:i=x.1.toNat
 ·simp only[if_pos e];exact⟨fun _=>⟨x,by simp,by omega⟩,fun _=>trivial⟩
 ·simp only[if_neg e];rw[h i];constructor
  ·rintro⟨y,a,b⟩; exact⟨y,by simp[a],b⟩
  ·rintro⟨y,a,b⟩;rw[List.mem_append,List.mem_singleton] at a;rcases a with a | a
   ·exact⟨y,a,b⟩
   ·subst a; omega
set_option maxHeartbeats 800000 in
theorem FO (n U v2 v3:Value) (v1 u0 u1 u2 u3 u4:Value) (l:List Int) (d:aT) (A C:Nat) (w:World) (aM:Ints (In w) w v1 l) (hw:cC (In w) w u0 u1 u2 u3 u4 d)
  (hm:l.length<=40) (hs:d.Small 1048576) (aE:cM A C d.aA) (v:∀s∈l,0<=s∧s<64) :
  Calls Tryz.prog 200 #[.agg #[n,v1,v2,v3,U],.agg #[u0,u1,u2,u3,u4],mO A C] w fun e w'=>e=.returned (.bool (B (Ea l d)))∧Below w.heap.size w w':=by
 obtain⟨av,cv,rfl,K⟩:=aM;obtain⟨⟨a0,c0,rfl,aH⟩,⟨a1,c1,rfl,a9⟩,⟨a2,c2,rfl,aB⟩,⟨a3,c3,rfl,aI⟩,⟨a4,c4,rfl,aK⟩⟩:=hw;obtain⟨s0,s1,s2,s3,s4⟩:=hs;have HV:=aD K;have H1:=aD a9;have H2:=aD aB;have HR:=aD v;clear K aH a9 aB aI aK v;by_cases l1:d.aQ.length<=30
 case neg=>
  go_enter Tryz.func200,Tryz.ntmps200;go_wp2;go_ret;exact⟨bI (bE fun h=>l1 h.1.2).symm,(((Below.refl _ _).alloc (Nat.le_refl _) _).alloc (by simp) _).alloc (by simp; omega) _⟩
 by_cases l2:d.aJ.length<=30
 case neg=>
  go_enter Tryz.func200,Tryz.ntmps200;go_wp2;go_ret;exact⟨bI (bE fun h=>l2 h.2.1.2).symm,(((Below.refl _ _).alloc (Nat.le_refl _) _).alloc (by simp) _).alloc (by simp; omega) _⟩
 have T0:=Bw.start w 27 51 227 267 n (.slice av l.length cv) v2 v3 U (.slice a0 d.aA.length c0) (.slice a1 d.aQ.length c1) (.slice a2 d.aJ.length c2) (.slice a3 d.over.length c3) (.slice a4 d.aW.length c4) A C _ rfl;rw[lH (j:=Classical.propDecidable _) (I7 l d)];go_enter Tryz.func200,Tryz.ntmps200;go_wp2
 go_loopw [25] (fun i wr=>∃(k:Nat) (s:Nat->Bool),k<=d.aQ.length∧i=.int .i64 k∧(∀j,j<k->Be l d j)∧fM s (d.aQ.take k)∧Bw w 27 51 227 267 (dE n (.slice av l.length cv) v2 v3 U) (dE (.slice a0 d.aA.length c0) (.slice a1 d.aQ.length c1) (.slice a2 d.aJ.length c2) (.slice a3 d.over.length c3) (.slice a4 d.aW.length c4)) A C s wr) (fun i _=>d.aQ.length-(intOf i).toNat)
 case atStart=>exact⟨0,_,Nat.zero_le _,rfl,fun j hj=>by omega,fun i=>by simp,T0⟩
 case round=>
  obtain⟨k,s,hk,rfl,M,f,N⟩:=hrel;rename World=>wo;have HO:=aD M;have g:=aD f;clear M f T0;by_cases L:k<d.aQ.length
  ·obtain h0 | ⟨b,off,rfl,S,hc⟩:=H1.out
   ·omega
   obtain⟨x,Y⟩:=bG d.aQ (aD rfl) L;obtain⟨g0,g1⟩:=hc k L x Y;rw[← N.below.cell (p:=⟨b,_,none⟩) S] at g0 g1;have I:=aD Y;clear Y hc;obtain⟨⟨p0,p1,p2,p3,p4⟩,⟨q0,q1,q2,q3,q4⟩,⟨o0,o1⟩⟩:=N.cells;have z1:=N.one.lt;have z2:=N.way.lt;have z3:=N.set.lt;have z4:=N.seen.lt;have J:=N.call (bC _ (.cells #[.int .i64 x.1,.int .i64 x.2] 58));have aC:∀W,Calls Tryz.prog 114 #[.agg #[n,.slice av l.length cv,v2,v3,U],.agg #[.int .i64 x.1,.int .i64 x.2]] W fun e w'=>e=.returned (.bool (B (bN x.1 0 ((l.length:Int)-1)∧bN x.2 1 2)))∧Below W.heap.size W w':=fun W=>Ay n av l.length cv v2 v3 U x.1 x.2 W (by omega);have E:=aD aC;clear aC
   have l0:(wo.alloc (.cells #[.int .i64 x.1,.int .i64 x.2] 58)).cell? ⟨wo.heap.size,0,none⟩=some (.int .i64 x.1):=by simp
   have aF:(wo.alloc (.cells #[.int .i64 x.1,.int .i64 x.2] 58)).cell? ⟨wo.heap.size,1,none⟩=some (.int .i64 x.2):=by simp
   have aV:=Ext.any (wo.alloc (.cells #[.int .i64 x.1,.int .i64 x.2] 58));have e0:=Ext.cell l0;have e1:=Ext.cell aF;obtain⟨⟨p0,p1,p2,p3,p4⟩,⟨-,-,-,-,-⟩,⟨o0,o1⟩⟩:=J.cells;have E0:=Ext.cell p0;have E1:=Ext.cell p1;have E2:=Ext.cell p2;have E3:=Ext.cell p3;have E4:=Ext.cell p4;have E5:=Ext.cell o0;have E6:=Ext.cell o1;clear p0 p1 p2 p3 p4 o0 o1 l0 aF;by_cases a:bN x.1 0 ((l.length:Int)-1)∧bN x.2 1 2
   case neg=>
    rw[bE a] at E;have u:=aD a;clear a;go_wp2;refine gQ (by kernel_rfl) (by kernel_rfl) ?_
    repeat (go_big_quiet_step ((go_at_call 114; exact eO (E.out _))))
    refine wpQuiet_nil ?_;rintro _ ⟨P,rfl⟩;go_wp2;go_ret;exact⟨bI (bE fun h=>u.out (h.2.2.1 k L x I.out).1).symm,(J.call P.below).below⟩
   rw[bQ a] at E;have u:=aD a;obtain⟨⟨Z,a5⟩,-⟩:=a
   have aX:x.1<(l.length:Int):=by omega
   have aO:x.1<40:=by omega
   have a6:x.1.toNat<40:=by omega
   obtain⟨Q,O⟩:∃Q,l[x.1.toNat]?=some Q:=⟨l[x.1.toNat]'(by omega),List.getElem?_eq_getElem _⟩;obtain h0 | ⟨bv,aR,rfl,aG,K⟩:=HV.out
   ·omega
   have gv:=K x.1.toNat (by omega) Q O;rw[← J.below.cell (p:=⟨bv,_,none⟩) aG] at gv;have E8:=Ext.cell gv;have E7:=Ext.cell (J.seen.cell a6);have X:=HR.out Q (List.mem_of_getElem? O);have G:∀W,Calls Tryz.prog 207 #[mO A C,.int .i64 Q] W fun e w'=>e=.returned (.bool (B (Q∈d.aA)))∧Below W.heap.size W w':=fun W=>EA A C d.aA Q W aE X.1 X.2;have H:=aD G;have a8:=aD O;clear G O K gv a5 X;by_cases c:s x.1.toNat=true
   ·rw[c] at E7;have m:=aD c;clear c;go_wp2;refine gQ (by kernel_rfl) (by kernel_rfl) ?_
    repeat (go_big_quiet_step ((first | (go_at_call 114; exact eO (E.out _)) | (go_at_call 207; exact eO (H.out _)))))
    refine wpQuiet_nil ?_;rintro _ ⟨P,rfl⟩;go_wp2;go_ret;refine⟨bI (bE fun h=>?_).symm,(J.call P.below).below⟩;obtain⟨y,D,aP⟩:=(g.out x.1.toNat).1 m.out;obtain⟨q,V,G⟩:=DF D;exact (h.2.2.1 k L x I.out).2.1 q y V G (by omega)
   have r:s x.1.toNat=false:=by simpa using c
   rw[r] at E7;have m:=aD c;clear c r;by_cases F:Q∈d.aA
   ·rw[bQ F] at H;have R:=aD F;clear F;go_wp2;refine gQ (by kernel_rfl) (by kernel_rfl) ?_
    repeat (go_big_quiet_step ((first | (go_at_call 114; exact eO (E.out _)) | (go_at_call 207; exact eO (H.out _)))))
    refine wpQuiet_nil ?_;rintro _ ⟨P,rfl⟩;have aL:=(J.call P.below).seen.frozen x.1.toNat;have aS:=E7 P;go_wp2;go_roundw
    case rel=>exact⟨k+1,_,by omega,by go_num,fun j hj=>by
     by_cases e:j=k
     ·subst e; intro z hz; rw[I.out] at hz; cases hz;refine⟨u.out,fun q y V D e2=>m.out ((g.out x.1.toNat).2 ⟨y,DO V D,by omega⟩),Q,a8.out,R.out⟩
     ·exact HO.out j (by omega),by rw[Co I.out]; exact fM.snoc g.out Z,(J.call P.below).mark x.1.toNat⟩
    case measure=>simp[intOf]; omega
   ·rw[bE F] at H;have R:=aD F;clear F;go_wp2;refine gQ (by kernel_rfl) (by kernel_rfl) ?_
    repeat (go_big_quiet_step ((first | (go_at_call 114; exact eO (E.out _)) | (go_at_call 207; exact eO (H.out _)))))
    refine wpQuiet_nil ?_;rintro _ ⟨P,rfl⟩;go_wp2;go_ret;refine⟨bI (bE fun h=>?_).symm,(J.call P.below).below⟩;obtain⟨t,ht,aN⟩:=(h.2.2.1 k L x I.out).2.2;rw[a8.out] at ht
    cases ht
    exact R.out aN
  ·have N1:Hid (∀j,j<d.aQ.length->Be l d j):=fun j hj=>HO.out j (by omega)
   have S1:fM s d.aQ:=by have:=g.out; rw[List.take_of_length_le (by omega)] at this; exact this
   have a7:=aD S1;clear HO g S1;obtain⟨⟨p0,p1,p2,p3,p4⟩,⟨q0,q1,q2,q3,q4⟩,⟨o0,o1⟩⟩:=N.cells;go_wp2;clear p0 p1 p2 p3 p4 q0 q1 q2 q3 q4 o0 o1
   go_loopw [57] (fun i wr=>∃(k:Nat) (s:Nat->Bool),k<=d.aJ.length∧i=.int .i64 k∧(∀j,j<k->Dw l d j)∧fM s (d.aQ++d.aJ.take k)∧Bw w 27 51 227 267 (dE n (.slice av l.length cv) v2 v3 U) (dE (.slice a0 d.aA.length c0) (.slice a1 d.aQ.length c1) (.slice a2 d.aJ.length c2) (.slice a3 d.over.length c3) (.slice a4 d.aW.length c4)) A C s wr) (fun i _=>d.aJ.length-(intOf i).toNat)
   case atStart=>exact⟨0,s,Nat.zero_le _,rfl,fun j hj=>by omega,by rw[List.take_zero,List.append_nil]; exact a7.out,N⟩
   case round=>
    obtain⟨k2,s2,aU,rfl,M,f,T2⟩:=hrel;rename World=>wp;have HO:=aD M;have g:=aD f;clear M f N a7;obtain⟨⟨p0,p1,p2,p3,p4⟩,⟨q0,q1,q2,q3,q4⟩,⟨o0,o1⟩⟩:=T2.cells;by_cases o:k2<d.aJ.length
    ·obtain h0 | ⟨b,off,rfl,S,hc⟩:=H2.out
     ·omega
     obtain⟨x,Y⟩:=bG d.aJ (aD rfl) o;obtain⟨g0,g1⟩:=hc k2 o x Y;rw[← T2.below.cell (p:=⟨b,_,none⟩) S] at g0 g1;have I:=aD Y;clear Y hc;have z1:=T2.one.lt;have J:=T2.call (bC _ (.cells #[.int .i64 x.1,.int .i64 x.2] 58))
     go_wp2_with fail
     clear p0 p1 p2 p3 p4 q0 q1 q2 q3 q4 o0 o1 g0 g1;refine (Ay n av l.length cv v2 v3 U x.1 x.2 _ (by omega)).mono ?_;rintro e w1 ⟨rfl,T⟩;have T3:=J.call T;have l0:w1.cell? ⟨wp.heap.size,0,none⟩=some (.int .i64 x.1):=(T.cell (p:=⟨wp.heap.size,0,none⟩) (by simp)).trans (by simp);clear J T;by_cases a:bN x.1 0 ((l.length:Int)-1)∧bN x.2 1 2
     case neg=>
      rw[bE a];have u:=aD a;clear a;go_wp2;go_ret;exact⟨bI (bE fun h=>u.out (h.2.2.2 k2 o x I.out).1).symm,T3.below⟩
     rw[bQ a];have u:=aD a;obtain⟨⟨Z,a5⟩,-⟩:=a
     have aO:x.1<40:=by omega
     have a6:x.1.toNat<40:=by omega
     have E7:=T3.seen.cell a6;have aL:=T3.seen.frozen x.1.toNat;clear a5;by_cases c:s2 x.1.toNat=true
     ·rw[c] at E7;have m:=aD c;clear c;go_wp2;go_ret;refine⟨bI (bE fun h=>?_).symm,T3.below⟩;obtain⟨y,D,aP⟩:=(g.out x.1.toNat).1 m.out;rw[List.mem_append] at D;rcases D with D | D
      ·exact (h.2.2.2 k2 o x I.out).2.1 y D (by omega)
      ·obtain⟨q,V,G⟩:=DF D;exact (h.2.2.2 k2 o x I.out).2.2 q y V G (by omega)
     ·have r:s2 x.1.toNat=false:=by simpa using c
      rw[r] at E7;have m:=aD c;clear c r;go_wp2;go_roundw
      case rel=>exact⟨k2+1,_,by omega,by go_num,fun j hj=>by
       by_cases e:j=k2
       ·subst e; intro z hz; rw[I.out] at hz; cases hz;exact⟨u.out,fun y D e2=>m.out ((g.out x.1.toNat).2 ⟨y,List.mem_append.2 (.inl D),by omega⟩),fun q y V D e2=>m.out ((g.out x.1.toNat).2 ⟨y,List.mem_append.2 (.inr (DO V D)),by omega⟩)⟩
       ·exact HO.out j (by omega),by rw[Co I.out,← List.append_assoc]; exact fM.snoc g.out Z,T3.mark x.1.toNat⟩
      case measure=>simp[intOf]; omega
    ·go_wp2;go_ret;exact⟨bI (bQ ⟨l1,l2,N1.out,fun j hj=>HO.out j (by omega)⟩).symm,T2.below⟩
theorem ck {W W':World}{b o:Nat}{v:Value}(h:W.cell? ⟨b,o,none⟩=some v) (a:Below W.heap.size W W'):W'.cell? ⟨b,o,none⟩=some v:=
 (a.cell (p:=⟨b,o,none⟩) (World.block_lt_of_cell? _ _ h)).trans h
theorem CS {n:Int}{l:List Int}(h:bJ n l) (a:n<=60):∀x∈l,0<=x∧x<64:=by
 intro x b;obtain⟨i,hi⟩:=List.getElem?_of_mem b;have:=(h.1 i (List.getElem?_eq_some_iff.1 hi).1 x hi).1;exact⟨this.1,by have:=this.2; omega⟩
set_option maxHeartbeats 2000000 in
theorem Ig (n:Int) (y v1 v2 v3 R S T U V:Value) (L:List Int) (d:aT) (w:World) (P:Ints (In w) w v1 L) (hw:cC (In w) w R S T U V d)
  (q:n<=60) (hm:L.length<=40) (hs:d.Small 1048576) (j:∀s∈L,0<=s∧s<64) :
  Calls Tryz.prog 172 #[.agg #[.int .i64 n,v1,v2,v3,y],.agg #[R,S,T,U,V]] w fun e w'=>e=.returned (.bool (B (dG n L d)))∧Below w.heap.size w w':=by
 have T0:=lL.start w 27 51 (.int .i64 n) v1 v2 v3 y R S T U V;have hk:∀W,lL w 27 51 (dE (.int .i64 n) v1 v2 v3 y) (dE R S T U V) W->cC (In W) W R S T U V d∧Ints (In W) W v1 L:=fun W h=>⟨hw.keep (In.keep h.below).1 (In.keep h.below).2,P.keep (In.keep h.below).1 (In.keep h.below).2⟩;have O:=aD hk;obtain⟨a0,c0,rfl,-⟩:=hw.1;have Y:=aD hs;have HR:=aD j;clear hk P hw hs j;go_enter Tryz.func172,Tryz.ntmps172
 go_wp2_with fail
 refine (tT n v1 v2 v3 y _ d.aA _ (O.out _ T0).1.1 Y.out.1 q).mono ?_;rintro e w1 ⟨A,C,rfl,g,a⟩;have T1:=T0.call a;clear T0 a;have HA:=aD g;clear g;have o:=T1.call (bC _ (.cells #[.int .u32 (A:Int),.int .u32 (C:Int)] 227))
 have c:(w1.alloc (.cells #[.int .u32 (A:Int),.int .u32 (C:Int)] 227)).cell? ⟨w1.heap.size,0,none⟩=some (.int .u32 (A:Int)):=by simp
 have f:(w1.alloc (.cells #[.int .u32 (A:Int),.int .u32 (C:Int)] 227)).cell? ⟨w1.heap.size,1,none⟩=some (.int .u32 (C:Int)):=by simp
 obtain⟨⟨r,t,u,v,x⟩,⟨z,D,E,F,G⟩⟩:=o.cells
 go_wp2_with fail
 refine (tT n v1 v2 v3 y _ d.over _ (O.out _ o).1.2.2.2.1 Y.out.2.2.2.1 q).mono ?_;clear r t u v x z D E F G T1;rintro e X ⟨M,N,rfl,g,a⟩;have T2:=o.call a;replace c:=ck c a;replace f:=ck f a;clear o a;have a1:=aD g;clear g;have b:=bC X (.cells #[.int .u32 (M:Int),.int .u32 (N:Int)] 227);have p:=T2.call b;replace c:=ck c b;replace f:=ck f b
 have l:(X.alloc (.cells #[.int .u32 (M:Int),.int .u32 (N:Int)] 227)).cell? ⟨X.heap.size,0,none⟩=some (.int .u32 (M:Int)):=by simp
 have m:(X.alloc (.cells #[.int .u32 (M:Int),.int .u32 (N:Int)] 227)).cell? ⟨X.heap.size,1,none⟩=some (.int .u32 (N:Int)):=by simp
 obtain⟨⟨r,t,u,v,x⟩,⟨z,D,E,F,G⟩⟩:=p.cells;clear b
 go_wp2_with fail
 refine (tT n v1 v2 v3 y _ d.aW _ (O.out _ p).1.2.2.2.2 Y.out.2.2.2.2 q).mono ?_;clear r t u v x z D E F G T2;rintro e w3 ⟨A3,C3,rfl,-,a⟩;have T3:=p.call a;replace c:=ck c a;replace f:=ck f a;replace l:=ck l a;replace m:=ck m a;clear p a;have b:=bC w3 (.cells #[.int .u32 (A3:Int),.int .u32 (C3:Int)] 227);have i:=T3.call b;replace c:=ck c b;replace f:=ck f b;replace l:=ck l b;replace m:=ck m b;obtain⟨⟨r,t,u,v,x⟩,⟨z,D,E,F,G⟩⟩:=i.cells;clear b T3;by_cases I:bJ n d.aA
 case neg=>
  rw[bE I];have Q:=aD I;clear I;go_wp2;go_ret;exact⟨bI (bE fun h=>Q.out h.2.1).symm,i.below⟩
 rw[bQ I];by_cases J:bJ n d.over
 case neg=>
  rw[bE J];have Q:=aD J;clear J;go_wp2;go_ret;exact⟨bI (bE fun h=>Q.out h.2.2.1).symm,i.below⟩
 rw[bQ J];by_cases K:bJ n d.aW
 case neg=>
  rw[bE K];have Q:=aD K;clear K;go_wp2;go_ret;exact⟨bI (bE fun h=>Q.out h.2.2.2.1).symm,i.below⟩
 rw[bQ K];have Z:=aD I;have Q1:=aD J;have Q2:=aD K;clear I J K;by_cases hz:0<d.aA.length
 case neg=>
  have Hz:=aD hz;go_wp2;go_ret;exact⟨bI (bE fun h=>h.1 (List.length_eq_zero_iff.1 (by have:=Hz.out; omega))).symm,i.below⟩
 go_wp2_with fail
 refine (yY A C M N d.aA d.over _ (HA.out Z.out) (a1.out Q1.out) (CS Z.out q)).mono ?_;clear r t u v x z D E F G;rintro e w4 ⟨rfl,a⟩;have H:=i.call a;replace c:=ck c a;replace f:=ck f a;clear i a l m;obtain⟨⟨r,t,u,v,x⟩,⟨z,D,E,F,G⟩⟩:=H.cells;by_cases k:Meet d.aA d.over
 case pos=>
  rw[bQ k];have HM:=aD k;clear k;go_wp2;go_ret;exact⟨bI (bE fun h=>h.2.2.2.2.2.2.2 HM.out.symm).symm,H.below⟩
 rw[bE k];have HM:=aD k;clear k
 go_wp2_with fail
 refine (FO (.int .i64 n) y v2 v3 v1 _ _ _ _ _ L d A C _ (O.out _ H).2 (O.out _ H).1 hm Y.out (HA.out Z.out) HR.out).mono ?_;clear r t u v x z D E F G c f;rintro e w5 ⟨rfl,a⟩;have T5:=H.call a;clear H a;go_wp2;go_ret;refine⟨bI ?_,T5.below⟩;refine lH ⟨fun h=>⟨fun e=>by rw[e] at hz; exact absurd hz (by simp),Z.out,Q1.out,Q2.out,h.1,h.2.1,h.2.2,fun h=>HM.out h.symm⟩,fun h=>⟨h.2.2.2.2.1,h.2.2.2.2.2.1,h.2.2.2.2.2.2.1⟩⟩
theorem Tryz.rY:(Tryz.prog.info? 227).map (fun i=>(i.zero,i.size,i.bytes))=some (some (.agg #[.int .u32 0,.int .u32 0]),2,8):=by kernel_rfl
def Sets (P:Nat->Prop) (w:World) (v:Value) (l:List aT):Prop:=
 Sl P v l.length fun b off i=>∀x,l[i]?=some x->∃A C,cM A C x.aA∧w.cell? ⟨b,off+i*2,none⟩=some (.int .u32 (A:Int))∧w.cell? ⟨b,off+i*2+1,none⟩=some (.int .u32 (C:Int))
theorem Sets.keep {P Q:Nat->Prop}{w w':World}{v:Value}{l:List aT}(h:Sets P w v l) (c:Same P w w') (g:∀b,P b->Q b):Sets Q w' v l:=
 Sl.imp h g fun b off i a _ j x k=>by
  obtain⟨A,C,d,e,f⟩:=j x k
  exact⟨A,C,d,by rw[c b a]; exact e,by rw[c b a]; exact f⟩
theorem zL {W W':World}{base:Nat}{e:TypeId}{size:Nat}{v:Value}{n:Nat}{xs:List Value}(h:W.ownsRow base e size v n xs) (i:Below W.heap.size W W'):W'.ownsRow base e size v n xs:=by
 obtain⟨d,f | ⟨g,b,cur,l,j,a,k⟩⟩:=h
 ·exact⟨d,.inl f⟩
 ·refine⟨d,.inr ⟨g,b,cur,l,j,?_,k⟩⟩
  have c:g<W.heap.size:=by
   rcases Nat.lt_or_ge g W.heap.size with e | e
   ·exact e
   ·rw[Array.getElem?_eq_none e] at a; cases a
  rw[i.block g c]; exact a
def Words (l:List aT) (k:Nat) (xs:List Value):Prop:=xs.length=k*2∧∀j x,j<k->l[j]?=some x->∃A C,cM A C x.aA∧xs[j*2]?=some (.int .u32 ((A:Nat):Int))∧xs[j*2+1]?=some (.int .u32 ((C:Nat):Int))
theorem Words.snoc {l:List aT}{k:Nat}{xs:List Value}(h:Words l k xs) {x:aT}{A C:Nat}(m:l[k]?=some x) (i:cM A C x.aA):Words l (k+1) (xs++[.int .u32 (A:Int),.int .u32 (C:Int)]):=by
 refine⟨by rw[List.length_append,h.1]; simp; omega,fun j y n a=>?_⟩;by_cases e:j=k
 ·subst e;rw[m] at a; cases a;refine⟨A,C,i,?_,?_⟩
  ·rw[List.getElem?_append_right (by rw[h.1]; exact Nat.le_refl _),h.1,Nat.sub_self]; rfl
  ·rw[List.getElem?_append_right (by rw[h.1]; omega),h.1,show j*2+1-j*2=1 by omega]; rfl
 ·obtain⟨b,c,d,f,g⟩:=h.2 j y (by omega) a;exact⟨b,c,d,by rw[List.getElem?_append_left (by rw[h.1]; omega)]; exact f,by rw[List.getElem?_append_left (by rw[h.1]; omega)]; exact g⟩
theorem Sets.made {w W:World}{l:List aT}{n g base:Nat}{e:TypeId}{xs:List Value}(r:l.length=n) (h:W.ownsRow base e 2 (.slice (some ⟨g,0,none⟩) n n) n xs) (t:Words l n xs) (q:w.heap.size<=g):Sets (New w W) W (.slice (some ⟨g,0,none⟩) n n) l:=by
 subst r;obtain⟨z,⟨B,k⟩ | ⟨y,j,cur,s,D,a,m,o,p,b⟩⟩:=h
 ·exact⟨_,_,rfl,.inl k⟩
 ·cases s
  have c:g<W.heap.size:=by
   rcases Nat.lt_or_ge g W.heap.size with e | e
   ·exact e
   ·rw[Array.getElem?_eq_none e] at a; cases a
  refine⟨_,_,rfl,.inr ⟨g,0,rfl,⟨q,c⟩,fun i hi x u=>?_⟩⟩;obtain⟨A,C,v,d,f⟩:=t.2 i x hi u;refine⟨A,C,v,?_,?_⟩
  ·rw[← b,List.getElem?_take,if_pos (by omega)] at d;simp only[World.cell?,a,Nat.zero_add];simpa using d
  ·rw[← b,List.getElem?_take,if_pos (by omega)] at f;simp only[World.cell?,a,Nat.zero_add];simpa using f
set_option maxHeartbeats 2000000 in
theorem Gd (n:Int) (v1 v2 v3 D:Value) (l:List aT) (w:World) (hv:eY (In w) w v2 l) (hl:l.length<=100) (R:∀x∈l,x.Small 1048576) (a3:n<=60) (Q:∀x∈l,bJ n x.aA) :
  Calls Tryz.prog 173 #[.agg #[.int .i64 n,v1,v2,v3,D]] w fun e w'=>∃v,e=.returned v∧Sets (New w w') w' v l∧Below w.heap.size w w':=by
 have T0:=jD.start w 27 (.int .i64 n) v1 v2 v3 D;obtain⟨a,f,rfl,M⟩:=hv;generalize O:l.length=m at *;have Hn:Hid (l.length=m):=O;have HC:=aD M;have a1:=aD R;have a0:=aD Q;clear M O R Q
 obtain⟨i0,hi,V,E,X⟩:∃i,Tryz.prog.info? 227=some i∧i.zero=some (.agg #[.int .u32 0,.int .u32 0])∧i.size=2∧i.bytes=8:=by
  have h:=Tryz.rY
  cases hi:Tryz.prog.info? 227 with
  | none=>rw[hi] at h; cases h
  | some i=>
   rw[hi] at h;simp only[Option.map_some,Option.some.injEq,Prod.mk.injEq] at h;exact⟨i,rfl,h.1,h.2.1,h.2.2⟩
 have a6:∀W:World,(Instr.makeSlice 223 (.int .i64 0) (.int .i64 (m:Int))).run Tryz.prog W=.ok (.slice (some ⟨W.heap.size,0,none⟩) 0 m) (W.alloc (.cells (madeCells #[.int .u32 0,.int .u32 0] (m*2)) 227)):=fun W=>by
  have:=run_make (P:=Tryz.prog) W 223 227 i0 _ Tryz.underlying223 hi V .i64 .i64 0 m (by omega) (by omega) (by rw[X,← Int.natCast_mul]; omega) (by omega);rw[E] at this;simpa [Value.cells] using this
 have g:((w.alloc (.cells #[.int .i64 n,v1,.slice a m f,v3,D] 27)).alloc (.cells (madeCells #[.int .u32 0,.int .u32 0] (m*2)) 227)).ownsRow (w.heap.size+1) 227 2 (.slice (some ⟨w.heap.size+1,0,none⟩) 0 m) 0 []:=by
  have:=World.ownsRow_made (e:=227) (size:=2) (base:=w.heap.size+1) (w.alloc (.cells #[.int .i64 n,v1,.slice a m f,v3,D] 27)) (madeCells #[.int .u32 0,.int .u32 0] (m*2)) m (by simp) (by unfold maxLen; omega) (size_madeCells _ _);simpa using this
 have HI:=aD hi;have HZ:=aD E;clear hi V E X;have L:=T0.call (bC _ (.cells (madeCells #[.int .u32 0,.int .u32 0] (m*2)) 227));go_enter Tryz.func173,Tryz.ntmps173;go_wp2
 go_loopw [3,15] (fun s i wr=>∃(k:Nat) (xs:List Value),k<=m∧i=.int .i64 k∧s=.slice (some ⟨w.heap.size+1,0,none⟩) k m∧wr.ownsRow (w.heap.size+1) 227 2 (.slice (some ⟨w.heap.size+1,0,none⟩) k m) k xs∧Words l k xs∧jD w 27 (dE (.int .i64 n) v1 (.slice a m f) v3 D) wr) (fun _ i _=>m-(intOf i).toNat)
 case atStart=>exact⟨0,[],Nat.zero_le _,rfl,rfl,g,⟨rfl,fun j _ q=>by omega⟩,L⟩
 case round=>
  obtain⟨k,xs,hk,rfl,rfl,r,T,F⟩:=hrel;rename World=>wo;have HW:=aD T;have t:=aD r;clear T r T0 L g a6;obtain⟨b0,b1,b2,b3,b4⟩:=F.cells;by_cases N:k<m
  ·obtain h0 | ⟨b,off,rfl,a4,M⟩:=HC.out
   ·omega
   obtain⟨x,U⟩:=bG l Hn N;obtain⟨u0,u1,u2,u3,u4,hw,g0,g1,g2,g3,g4⟩:=M k N x U;rw[← F.below.cell (p:=⟨b,_,none⟩) a4] at g0 g1 g2 g3 g4;have S:=a1.out x (List.mem_of_getElem? U);have a7:=a0.out x (List.mem_of_getElem? U);have Hx:=aD U;have hz:=F.one.lt;have Y:=F.call (bC _ (.cells #[u0,u1,u2,u3,u4] 51));have G:=aD (zL t.out (bC _ (.cells #[u0,u1,u2,u3,u4] 51)));have hq:=tT n v1 (.slice (some ⟨b,off,none⟩) m f) v3 D u0 x.aA _ (hw.1.keep (In.keep Y.below).1 (In.keep Y.below).2) S.1 a3;have HQ:=aD hq;obtain⟨⟨p0,o0,rfl,-⟩,⟨p1,o1,rfl,-⟩,⟨p2,o2,rfl,-⟩,⟨p3,o3,rfl,-⟩,⟨p4,o4,rfl,-⟩⟩:=hw;clear U M S hq t
   go_wp2_with fail
   refine HQ.out.mono ?_;clear b0 b1 b2 b3 b4 g0 g1 g2 g3 g4 hz HQ;rintro e w1 ⟨A,C,rfl,d,y⟩;have d:=d a7;have a2:=aD d;have T3:=Y.call y;have H:=aD (zL G.out y);clear d F Y G y;have z:=bC w1 (.cells #[.int .u32 (A:Int),.int .u32 (C:Int)] 227);have T4:=T3.call z;have I:=zL H.out z;have B:=bC (w1.alloc (.cells #[.int .u32 (A:Int),.int .u32 (C:Int)] 227)) (.cells #[.int .u32 (A:Int),.int .u32 (C:Int)] 227);have K:=T4.call B;have J:=aD (zL I B);clear I H z B T3 T4
   go_wp2_with (at_builtin; refine wpList_append_fits _ rfl _ _ 223 rfl (w.heap.size+1) 227 i0 2 Tryz.underlying223 HI.out HZ.out (w.heap.size+1) k m xs rfl J.out ⟨w1.heap.size+1,0,none⟩ 1 1 [.int .u32 (A:Int),.int .u32 (C:Int)] rfl rfl ?c1 ?c2 ?c3 ?_)
   case c1=>
    intro j u q
    match j,q with
    | 0,q=>simp at q; subst q; simp[Addr.add]
    | 1,q=>simp at q; subst q; simp[Addr.add]
   case c2=>intro u hu; simp at hu; rcases hu with rfl | rfl <;> rfl
   case c3=>omega
   intro w2 o c
   have T6:jD w 27 (dE (.int .i64 n) v1 (.slice (some ⟨b,off,none⟩) m f) v3 D) w2:=
    ⟨K.below.grown c K.below.size (fun k hk=>by cases hk; omega),K.one.of_block (c.block _ K.one.lt (fun e=>by have:=Option.some.inj e; omega))⟩
   have Z:=aD o;clear K J o c;go_wp2;go_roundw
   case rel=>exact⟨k+1,_,by omega,by go_num,rfl,Z.out,HW.out.snoc Hx.out a2.out,T6⟩
   case measure=>simp[intOf]; omega
  ·go_wp2;go_ret
   have a5:k=m:=by omega
   subst a5;exact⟨.slice (some ⟨w.heap.size+1,0,none⟩) k k,rfl,Sets.made Hn.out t.out HW.out (by omega),F.below⟩
abbrev vF (c a:Int):Value:=.iface 112 (.agg #[.int .i64 c,.int .i64 a])
set_option maxHeartbeats 1000000 in
theorem FW (v1 v2 v3:Value) (d:aK) (w:World) (a:aZ (In w) w v1 v2 v3 d) (b:d.Small 1048576) :
  Calls Tryz.prog 125 #[.agg #[.int .i64 d.aA,v1,v2,v3,.int .i64 d.aI]] w fun e w'=>∃v,e=.returned v∧((pJ d∧v=vF 1 0)∨(¬pJ d∧v=.nilIface))∧Below w.heap.size w w':=by
 obtain⟨⟨n,p,rfl,-⟩,⟨o,q,rfl,-⟩,-⟩:=a;obtain⟨c,f,-⟩:=b;by_cases g:1<=d.aA
 case neg=>
  go_enter Tryz.func125,Tryz.ntmps125;go_wp2;go_ret;exact⟨_,rfl,.inl ⟨fun h=>by have:=h.1.1; omega,rfl⟩,bC _ _⟩
 by_cases i:d.aA<=60
 case neg=>
  go_enter Tryz.func125,Tryz.ntmps125;go_wp2;go_ret;exact⟨_,rfl,.inl ⟨fun h=>by have:=h.1.2; omega,rfl⟩,bC _ _⟩
 by_cases j:1<=d.aI
 case neg=>
  go_enter Tryz.func125,Tryz.ntmps125;go_wp2;go_ret;exact⟨_,rfl,.inl ⟨fun h=>by have:=h.2.2.2.1; omega,rfl⟩,bC _ _⟩
 by_cases k:d.aI<=300
 case neg=>
  go_enter Tryz.func125,Tryz.ntmps125;go_wp2;go_ret;exact⟨_,rfl,.inl ⟨fun h=>by have:=h.2.2.2.2; omega,rfl⟩,bC _ _⟩
 by_cases l:d.aE.length<=40
 case neg=>
  go_enter Tryz.func125,Tryz.ntmps125;go_wp2;go_ret;exact⟨_,rfl,.inl ⟨fun h=>by have:=h.2.1; omega,rfl⟩,bC _ _⟩
 by_cases m:d.aB.length<=100
 case neg=>
  go_enter Tryz.func125,Tryz.ntmps125;go_wp2;go_ret;exact⟨_,rfl,.inl ⟨fun h=>by have:=h.2.2.1; omega,rfl⟩,bC _ _⟩
 go_enter Tryz.func125,Tryz.ntmps125;go_wp2;go_ret;exact⟨_,rfl,.inr ⟨fun h=>h ⟨⟨g,i⟩,l,m,j,k⟩,rfl⟩,bC _ _⟩
set_option maxHeartbeats 1000000 in
theorem FC (v1 v2 v3:Value) (d:aK) (w:World) (I:aZ (In w) w v1 v2 v3 d) (J:d.Small 1048576) :
  Calls Tryz.prog 126 #[.agg #[.int .i64 d.aA,v1,v2,v3,.int .i64 d.aI]] w fun e w'=>∃v,e=.returned v∧((∃k:Nat,First (mN d) k∧v=vF 2 k)∨((∀k,¬mN d k)∧v=.nilIface))∧Below w.heap.size w w':=by
 have t:=jD.start w 27 (.int .i64 d.aA) v1 v2 v3 (.int .i64 d.aI);obtain⟨⟨B,H,rfl,l⟩,-,-⟩:=I;obtain⟨K,-⟩:=J;have A:=aD l;clear l;go_enter Tryz.func126,Tryz.ntmps126;go_wp2
 go_loopw [8] (fun i wr=>∃(k:Nat),k<=d.aE.length∧i=.int .i64 k∧(∀j,j<k->¬mN d j)∧jD w 27 (dE (.int .i64 d.aA) (.slice B d.aE.length H) v2 v3 (.int .i64 d.aI)) wr) (fun i _=>d.aE.length-(intOf i).toNat)
 case atStart=>exact⟨0,Nat.zero_le _,rfl,fun j M=>by omega,t⟩
 case round=>
  obtain⟨k,N,rfl,n,f⟩:=hrel;have o:=aD n;clear n t;obtain⟨C,D,E,F,G⟩:=f.cells;by_cases m:k<d.aE.length
  ·obtain L | ⟨b,off,rfl,q,z⟩:=A.out
   ·omega
   obtain⟨x,r⟩:=bG d.aE (aD rfl) m;have y:=z k m x r;rw[← f.below.cell (p:=⟨b,_,none⟩) q] at y;have s:=aD r;clear r z
   go_wp2_with fail
   refine (A7 d.aA x _ _ _ _ _).mono ?_;clear C D E F G y;rintro e O ⟨rfl,g⟩;have u:=f.call g;clear f g;by_cases a:bN x 0 (d.aA-1)
   ·rw[bQ a];have c:=aD a;clear a;go_wp2;go_roundw
    case rel=>exact⟨k+1,by omega,by go_num,pP o.out fun h=>(zH s.out).1 h c.out,u⟩
    case measure=>simp[intOf]; omega
   ·rw[bE a];have c:=aD a;clear a;go_wp2;go_ret;exact⟨_,rfl,.inl ⟨k,⟨(zH s.out).2 c.out,o.out⟩,rfl⟩,u.below⟩
  ·go_wp2;go_ret;exact⟨_,rfl,.inr ⟨CG o.out (by omega),rfl⟩,f.below⟩
set_option maxHeartbeats 1000000 in
theorem Fb (v1 v2 v3:Value) (d:aK) (w:World) (O:aZ (In w) w v1 v2 v3 d) (B:d.Small 1048576) (R:¬pJ d) (S:∀k,¬mN d k) :
  Calls Tryz.prog 127 #[.agg #[.int .i64 d.aA,v1,v2,v3,.int .i64 d.aI]] w fun e w'=>∃v,e=.returned v∧((∃k:Nat,First (mX d) k∧v=vF 3 k)∨((∀k,¬mX d k)∧v=.nilIface))∧Below w.heap.size w w':=by
 have F:=jD.start w 27 (.int .i64 d.aA) v1 v2 v3 (.int .i64 d.aI);have A:∀W,jD w 27 (dE (.int .i64 d.aA) v1 v2 v3 (.int .i64 d.aI)) W->aZ (In W) W v1 v2 v3 d:=fun W h=>O.keep (In.keep h.below).1 (In.keep h.below).2;have HK:=aD A;obtain⟨-,⟨a2,H,rfl,m⟩,-⟩:=O;obtain⟨-,a0,q,-⟩:=B;have Z:=aD m;have y:=aD q;obtain⟨⟨s1,C⟩,q1,-,-⟩:=Classical.byContradiction fun h=>R h
 have HR:Hid (∀s∈d.aE,0<=s∧s<64):=fun s B=>by
  obtain⟨i,hi⟩:=List.getElem?_of_mem B;have:=Classical.byContradiction fun h=>S i ⟨s,hi,h⟩;exact⟨this.1,by have:=this.2; omega⟩
 clear m q A R S;go_enter Tryz.func127,Tryz.ntmps127;go_wp2
 go_loopw [8] (fun i wr=>∃(k:Nat),k<=d.aB.length∧i=.int .i64 k∧(∀j,j<k->¬mX d j)∧jD w 27 (dE (.int .i64 d.aA) v1 (.slice a2 d.aB.length H) v3 (.int .i64 d.aI)) wr) (fun i _=>d.aB.length-(intOf i).toNat)
 case atStart=>exact⟨0,Nat.zero_le _,rfl,fun j hj=>by omega,F⟩
 case round=>
  obtain⟨k,A,rfl,o,f⟩:=hrel;have u:=aD o;clear o F;obtain⟨b0,b1,b2,b3,b4⟩:=f.cells;by_cases n:k<d.aB.length
  ·obtain h0 | ⟨b,off,rfl,z,N⟩:=Z.out
   ·omega
   obtain⟨x,t⟩:=bG d.aB (aD rfl) n;obtain⟨T,U,V,X,Y,Q,I,J,K,L,M⟩:=N k n x t;rw[← f.below.cell (p:=⟨b,_,none⟩) z] at I J K L M;have r:=y.out x (List.mem_of_getElem? t);have E:=aD t;have hz:=f.one.lt;have g:=f.call (bC _ (.cells #[T,U,V,X,Y] 51));have P:=Ig d.aA (.int .i64 d.aI) v1 (.slice (some ⟨b,off,none⟩) d.aB.length H) v3 T U V X Y d.aE x _ (HK.out _ g).1 (Q.keep (In.keep g.below).1 (In.keep g.below).2) C q1 r HR.out;have D:=aD P;obtain⟨⟨p0,o0,rfl,-⟩,⟨p1,o1,rfl,-⟩,⟨p2,o2,rfl,-⟩,⟨p3,o3,rfl,-⟩,⟨p4,o4,rfl,-⟩⟩:=Q;clear t N r P
   go_wp2_with fail
   refine D.out.mono ?_;clear b0 b1 b2 b3 b4 I J K L M hz D;rintro e w1 ⟨rfl,l⟩;have G:=g.call l;clear f g l;by_cases a:dG d.aA d.aE x
   ·rw[bQ a];have c:=aD a;clear a;go_wp2;go_roundw
    case rel=>exact⟨k+1,by omega,by go_num,pP u.out fun h=>(xP E.out).1 h c.out,G⟩
    case measure=>simp[intOf]; omega
   ·rw[bE a];have c:=aD a;clear a;go_wp2;go_ret;exact⟨_,rfl,.inl ⟨k,⟨(xP E.out).2 c.out,u.out⟩,rfl⟩,G.below⟩
  ·go_wp2;go_ret;exact⟨_,rfl,.inr ⟨CH u.out (by omega),rfl⟩,f.below⟩
set_option maxHeartbeats 1000000 in
theorem Fa (v1 v2 v3:Value) (d:aK) (w:World) (L:aZ (In w) w v1 v2 v3 d) (M:d.Small 1048576) :
  Calls Tryz.prog 128 #[.agg #[.int .i64 d.aA,v1,v2,v3,.int .i64 d.aI]] w fun e w'=>∃v,e=.returned v∧((d.aO.length≠d.aB.length∧v=vF 4 0)∨(d.aO.length=d.aB.length∧((∃k:Nat,First (oM d) k∧v=vF 4 k)∨((∀k,¬oM d k)∧v=.nilIface))))∧Below w.heap.size w w':=by
 have u:=jD.start w 27 (.int .i64 d.aA) v1 v2 v3 (.int .i64 d.aI);obtain⟨-,⟨F,H,rfl,-⟩,⟨G,I,rfl,m⟩⟩:=L;obtain⟨-,N,-,O,q⟩:=M;have D:=aD m;have E:=aD q;clear m q;by_cases a:d.aO.length=d.aB.length
 case neg=>
  have z:((d.aO.length:Int) != (d.aB.length:Int))=true:=by simp; omega
  have r:=aD a;clear a;go_enter Tryz.func128,Tryz.ntmps128;go_wp2;go_ret;exact⟨_,rfl,.inl ⟨r.out,rfl⟩,u.below⟩
 have z:((d.aO.length:Int) != (d.aB.length:Int))=false:=by simp; omega
 have r:=aD a;clear a;go_enter Tryz.func128,Tryz.ntmps128;go_wp2
 go_loopw [17] (fun i wr=>∃(k:Nat),k<=d.aO.length∧i=.int .i64 k∧(∀j,j<k->¬oM d j)∧jD w 27 (dE (.int .i64 d.aA) v1 (.slice F d.aB.length H) (.slice G d.aO.length I) (.int .i64 d.aI)) wr) (fun i _=>d.aO.length-(intOf i).toNat)
 case atStart=>exact⟨0,Nat.zero_le _,rfl,fun j V=>by omega,u⟩
 case round=>
  obtain⟨s,K,rfl,o,l⟩:=hrel;have t:=aD o;clear o u;obtain⟨P,Q,R,S,T⟩:=l.cells;by_cases f:s<d.aO.length
  ·obtain U | ⟨b,off,rfl,y,C⟩:=D.out
   ·omega
   obtain⟨x,A⟩:=bG d.aO (aD rfl) f;obtain⟨Y,⟨X,W,rfl,-⟩,J⟩:=C s f x A;rw[← l.below.cell (p:=⟨b,_,none⟩) y] at J;have B:=aD A;clear A C;by_cases c:x.length=d.aB.length
   ·have n:((x.length:Int) != (d.aB.length:Int))=false:=by simp; omega
    have g:=aD c;clear c;go_wp2;go_roundw
    case rel=>exact⟨s+1,by omega,by go_num,pP t.out fun h=>(vQ B.out).1 h g.out,l⟩
    case measure=>simp[intOf]; omega
   ·have n:((x.length:Int) != (d.aB.length:Int))=true:=by simp; omega
    have g:=aD c;clear c;go_wp2;go_ret;exact⟨_,rfl,.inr ⟨r.out,.inl ⟨s,⟨(vQ B.out).2 g.out,t.out⟩,rfl⟩⟩,l.below⟩
  ·go_wp2;go_ret;exact⟨_,rfl,.inr ⟨r.out,.inr ⟨CI t.out (by omega),rfl⟩⟩,l.below⟩
set_option maxRecDepth 100000 in
set_option maxHeartbeats 4000000 in
theorem F8 (v1 v2 v3:Value) (d:aK) (w:World) (D:aZ (In w) w v1 v2 v3 d) (hs:d.Small 1048576) (n1:¬pJ d) (n3:∀k,¬mX d k) (K:d.aO.length=d.aB.length) (n4:∀k,¬oM d k) :
  Calls Tryz.prog 129 #[.agg #[.int .i64 d.aA,v1,v2,v3,.int .i64 d.aI]] w fun e w'=>∃v,e=.returned v∧((∃k:Nat,First (rO d) k∧v=vF 5 k)∨((∀k,¬rO d k)∧v=.nilIface))∧Below w.heap.size w w':=by
 have T0:=jD.start w 27 (.int .i64 d.aA) v1 v2 v3 (.int .i64 d.aI);have hk:∀W,jD w 27 (dE (.int .i64 d.aA) v1 v2 v3 (.int .i64 d.aI)) W->aZ (In W) W v1 v2 v3 d:=fun W h=>D.keep (In.keep h.below).1 (In.keep h.below).2;have HK:=aD hk;obtain⟨-,⟨a2,c2,rfl,-⟩,⟨a3,c3,rfl,a5⟩⟩:=D;obtain⟨-,-,a9,-,-⟩:=hs;have aP:=aD a9;have H3:=aD a5;have Hl:=aD K;have N4:=aD n4;obtain⟨⟨s1,aF⟩,-,q2,-⟩:=Classical.byContradiction fun h=>n1 h
 have a1:Hid (∀x∈d.aB,bJ d.aA x.aA):=fun x hx=>by
  obtain⟨i,hi⟩:=List.getElem?_of_mem hx;exact (Classical.byContradiction fun h=>n3 i ⟨x,hi,h⟩:dG d.aA d.aE x).2.1
 clear hk a5 a9 K n1 n3 n4;go_enter Tryz.func129,Tryz.ntmps129
 go_wp2_with fail
 refine (Gd d.aA v1 _ _ _ d.aB _ (HK.out _ T0).2.1 q2 aP.out aF a1.out).mono ?_;rintro e N ⟨vs,rfl,u,l⟩;have T1:=T0.call l;have I:=u.keep (hU _ _) (Q:=In N) fun b hb=>hb.2;obtain⟨aX,aY,rfl,c⟩:=I;have aQ:=aD c;clear T0 l u c;obtain⟨b0,b1,b2,b3,b4⟩:=T1.cells;go_wp2;clear b0 b1 b2 b3 b4;have W1:Hid (Below N.heap.size N N):=Below.refl _ _
 go_loopw [11] (fun i wr=>∃(k:Nat),k<=d.aB.length∧i=.int .i64 k∧(∀j,j<k->¬rO d j)∧Below N.heap.size N wr) (fun i _=>d.aB.length-(intOf i).toNat)
 case atStart=>exact⟨0,Nat.zero_le _,rfl,fun j hj=>by omega,Below.refl _ _⟩
 case round=>
  obtain⟨i,hi,rfl,r,l⟩:=hrel;rename World=>wo;have HO:=aD r;have a0:=aD l;clear r l;by_cases n:i<d.aB.length
  ·have L:i<d.aO.length:=by have:=Hl.out; omega
   obtain h0 | ⟨b,off,rfl,aR,hc⟩:=H3.out
   ·omega
   obtain h0 | ⟨bs,os,rfl,aU,c⟩:=aQ.out
   ·omega
   obtain⟨ri,G⟩:=bG d.aO (aD rfl) L;have M:ri.length=d.aB.length:=Classical.byContradiction fun h=>N4.out i ⟨ri,G,h⟩;obtain⟨u0,⟨p0,o0,rfl,aW⟩,gi⟩:=hc i L ri G;obtain h0 | ⟨bi,oi,rfl,aS,a6⟩:=aW
   ·omega
   obtain⟨vi,Y⟩:=bG d.aB (aD rfl) n;obtain⟨A,C,aC,ga,gc⟩:=c i n vi Y;have aN:=aD G;have P:=aD M;have aH:=aD a6;have aG:=aD hc;have aJ:=aD c;have a4:=aD Y;have aM:=aD gi;have aL:=aD (And.intro ga gc);clear G M a6 hc c Y gi ga gc;go_wp2
   go_loopw [5] (fun z wr=>∃(k:Nat),i<k∧k<=d.aB.length∧z=.int .i64 k∧(∀j,i<j->j<k->¬Pair d i j)∧Below N.heap.size N wr) (fun z _=>d.aB.length-(intOf z).toNat)
   case atStart=>exact⟨i+1,by omega,by omega,by go_num,fun j hj=>by omega,a0.out⟩
   case round=>
    obtain⟨k,U,hk,rfl,r,m⟩:=hrel;rename World=>wp;have HN:=aD r;clear r;have F:=T1.call m;by_cases a:k<d.aB.length
    ·have o:k<d.aO.length:=by have:=Hl.out; omega
     obtain⟨rk,H⟩:=bG d.aO (aD rfl) o;have a8:rk.length=d.aB.length:=Classical.byContradiction fun h=>N4.out k ⟨rk,H,h⟩;obtain⟨u1,⟨p1,o1,rfl,X⟩,gk⟩:=aG.out k o rk H;obtain h0 | ⟨bk,ok,rfl,aT,a7⟩:=X
     ·omega
     obtain⟨vk,Z⟩:=bG d.aB (aD rfl) a;obtain⟨A2,C2,t,S,T⟩:=aJ.out k a vk Z;obtain⟨x,hx⟩:=bG ri (aD rfl) (show k<ri.length by have:=P.out; omega);obtain⟨y,hy⟩:=bG rk (aD rfl) (show i<rk.length by omega);have gx:=aH.out k (by have:=P.out; omega) x hx;have gy:=a7 i (by omega) y hy;have gi:=aM.out;obtain⟨ga,gc⟩:=aL.out;rw[← F.below.cell (p:=⟨b,_,none⟩) aR] at gi gk;rw[← F.below.cell (p:=⟨bi,_,none⟩) aS] at gx;rw[← F.below.cell (p:=⟨bk,_,none⟩) aT] at gy;rw[← m.cell (p:=⟨bs,_,none⟩) aU] at ga gc S T;obtain⟨b0,b1,b2,b3,b4⟩:=F.cells;have b5:=Ext.any wp;have E1:=Ext.cell gi;have E2:=Ext.cell gk;have E3:=Ext.cell gx;have E4:=Ext.cell gy;have E5:=Ext.cell ga;have E6:=Ext.cell gc;have E7:=Ext.cell S;have E8:=Ext.cell T;have E9:=Ext.cell b3;have s:=Dd (vW aN.out hx) (vW H hy) a4.out Z;have g:=aD s
     have hq:∀W,Calls Tryz.prog 174 #[mO A C,mO A2 C2] W fun e w'=>e=.returned (.bool (B (Meet vi.aA vk.aA)))∧Below W.heap.size W w':=fun W=>
      yY A C A2 C2 vi.aA vk.aA W aC t (CS (a1.out vi (List.mem_of_getElem? a4.out)) aF)
     have O:=aD hq
     have i1:(i:Int)<(d.aO.length:Int):=by omega
     have i2:(k:Int)<(d.aO.length:Int):=by omega
     have i3:(k:Int)<(ri.length:Int):=by have:=P.out; omega
     have i4:(i:Int)<(rk.length:Int):=by omega
     have i5:(i:Int)<(d.aB.length:Int):=by omega
     have i6:(k:Int)<(d.aB.length:Int):=by omega
     have E:=aD m;have R:=aD F;clear H a8 Z hx hy a7 s hq gi gk gx gy ga gc S T b0 b1 b3 b4 t m F
     cases x <;> cases y
     case' true.true=>
      go_wp2;refine gQ (by kernel_rfl) (by kernel_rfl) ?_
      repeat (go_big_quiet_step ((go_at_call 174; exact eO (O.out _))))
      refine wpQuiet_nil ?_;rintro _ ⟨J,rfl⟩;go_wp2;go_roundw
      case rel=>exact⟨k+1,by omega,by omega,by go_num,fun j V aV D=>by
       by_cases e:j=k
       ·subst e;rcases g.out.1 D with h | h
        ·exact h rfl
        ·exact Bool.noConfusion h.2.1
       ·exact HN.out j V (by omega) D,E.out.trans (J.below.mono E.out.size)⟩
      case measure=>simp[intOf]; omega
     case' true.false=>
      go_wp2;refine gQ (by kernel_rfl) (by kernel_rfl) ?_
      repeat (go_big_quiet_step ((go_at_call 174; exact eO (O.out _))))
      refine wpQuiet_nil ?_;rintro _ ⟨J,rfl⟩;go_wp2;go_ret;exact⟨_,rfl,.inl ⟨i,⟨⟨n,k,U,a,g.out.2 (.inl (by decide))⟩,HO.out⟩,rfl⟩,(R.out.call J.below).below⟩
     case' false.true=>
      go_wp2;refine gQ (by kernel_rfl) (by kernel_rfl) ?_
      repeat (go_big_quiet_step ((go_at_call 174; exact eO (O.out _))))
      refine wpQuiet_nil ?_;rintro _ ⟨J,rfl⟩;go_wp2;go_ret;exact⟨_,rfl,.inl ⟨i,⟨⟨n,k,U,a,g.out.2 (.inl (by decide))⟩,HO.out⟩,rfl⟩,(R.out.call J.below).below⟩
     case' false.false=>
      by_cases f:Meet vi.aA vk.aA
      ·rw[bQ f] at O;have HM:=aD f;clear f;go_wp2;refine gQ (by kernel_rfl) (by kernel_rfl) ?_
       repeat (go_big_quiet_step ((go_at_call 174; exact eO (O.out _))))
       refine wpQuiet_nil ?_;rintro _ ⟨J,rfl⟩;go_wp2;go_ret;exact⟨_,rfl,.inl ⟨i,⟨⟨n,k,U,a,g.out.2 (.inr ⟨by omega,by first | trivial | rfl,HM.out⟩)⟩,HO.out⟩,rfl⟩,(R.out.call J.below).below⟩
      ·rw[bE f] at O;have HM:=aD f;clear f;go_wp2;refine gQ (by kernel_rfl) (by kernel_rfl) ?_
       repeat (go_big_quiet_step ((go_at_call 174; exact eO (O.out _))))
       refine wpQuiet_nil ?_;rintro _ ⟨J,rfl⟩;go_wp2;go_roundw
       case rel=>exact⟨k+1,by omega,by omega,by go_num,fun j V aV D=>by
        by_cases e:j=k
        ·subst e;rcases g.out.1 D with h | h
         ·exact h rfl
         ·exact HM.out h.2.2
        ·exact HN.out j V (by omega) D,E.out.trans (J.below.mono E.out.size)⟩
       case measure=>simp[intOf]; omega
    ·obtain⟨b0,b1,b2,b3,b4⟩:=F.cells;go_wp2;go_roundw
     case rel=>exact⟨i+1,by omega,by go_num,pP HO.out fun hb=>by
      obtain⟨-,q,X,b6,D⟩:=hb
      exact HN.out q X (by omega) D,m⟩
     case measure=>simp[intOf]; omega
  ·have F:=T1.call a0.out;go_wp2;go_ret;refine⟨_,rfl,.inr ⟨fun k hb=>?_,rfl⟩,F.below⟩;exact HO.out k (by have:=hb.1; omega) hb
end
section
open Go.Deep
set_option maxHeartbeats 1000000 in
theorem F9 (v1 v2 v3:Value) (d:aK) (w:World) (J:aZ (In w) w v1 v2 v3 d) (K:d.Small 1048576) :
  Calls Tryz.prog 75 #[.agg #[.int .i64 d.aA,v1,v2,v3,.int .i64 d.aI]] w fun e w'=>∃v,e=.returned v∧((∃c a,v=vF c a∧bR (rO d) d c a)∨(v=.nilIface∧bR (rO d) d 0 0))∧Below w.heap.size w w':=by
 have F:=lL.start w 27 114 (.int .i64 d.aA) v1 v2 v3 (.int .i64 d.aI) (.func (.func 125) #[] #[]) (.func (.func 126) #[] #[]) (.func (.func 127) #[] #[]) (.func (.func 128) #[] #[]) (.func (.func 129) #[] #[]);have I:∀W,lL w 27 114 (dE (.int .i64 d.aA) v1 v2 v3 (.int .i64 d.aI)) (dE (.func (.func 125) #[] #[]) (.func (.func 126) #[] #[]) (.func (.func 127) #[] #[]) (.func (.func 128) #[] #[]) (.func (.func 129) #[] #[])) W->aZ (In W) W v1 v2 v3 d:=fun W h=>J.keep (In.keep h.below).1 (In.keep h.below).2;have y:=aD I;have z:=aD K;clear I J K;go_enter Tryz.func75,Tryz.ntmps75;go_wp2;refine wp_loop_rounds 6 ?_;rw[rounds_succ]
 go_wp2_with fail
 refine (FW v1 v2 v3 d _ (y.out _ F) z.out).mono ?_;rintro e R ⟨v,rfl,⟨b,rfl⟩ | ⟨L,rfl⟩,f⟩
 ·have g:=aD b;clear b;go_wp2;go_ret;exact⟨_,rfl,.inl ⟨1,0,rfl,xW g.out⟩,(F.call f).below⟩
 have i:=aD L;have C:=F.call f;clear L F f;obtain⟨⟨j,l,m,n,o⟩,⟨p,q,r,s,t⟩⟩:=C.cells;go_wp2;rw[rounds_succ]
 go_wp2_with fail
 refine (FC v1 v2 v3 d _ (y.out _ C) z.out).mono ?_;clear j l m n o p q r s t;rintro e S ⟨v,rfl,⟨k,b,rfl⟩ | ⟨M,rfl⟩,f⟩
 ·have g:=aD b;clear b;go_wp2;go_ret;exact⟨_,rfl,.inl ⟨2,k,rfl,ES i.out g.out⟩,(C.call f).below⟩
 have u:=aD M;have D:=C.call f;clear M C f;obtain⟨⟨j,l,m,n,o⟩,⟨p,q,r,s,t⟩⟩:=D.cells;go_wp2;rw[rounds_succ]
 go_wp2_with fail
 refine (Fb v1 v2 v3 d _ (y.out _ D) z.out i.out u.out).mono ?_;clear j l m n o p q r s t;rintro e T ⟨v,rfl,⟨k,b,rfl⟩ | ⟨N,rfl⟩,f⟩
 ·have g:=aD b;clear b;go_wp2;go_ret;exact⟨_,rfl,.inl ⟨3,k,rfl,ET i.out u.out g.out⟩,(D.call f).below⟩
 have B:=aD N;have x:=D.call f;clear N D f;obtain⟨⟨j,l,m,n,o⟩,⟨p,q,r,s,t⟩⟩:=x.cells;go_wp2;rw[rounds_succ]
 go_wp2_with fail
 refine (Fa v1 v2 v3 d _ (y.out _ x) z.out).mono ?_;clear j l m n o p q r s t;rintro e U ⟨v,rfl,⟨b,rfl⟩ | ⟨G,⟨k,b,rfl⟩ | ⟨n4,rfl⟩⟩,f⟩
 ·have g:=aD b;clear b;go_wp2;go_ret;exact⟨_,rfl,.inl ⟨4,0,rfl,Dp i.out u.out B.out g.out⟩,(x.call f).below⟩
 ·have g:=aD b;have A:=aD G;clear b G;go_wp2;go_ret;exact⟨_,rfl,.inl ⟨4,k,rfl,Dq i.out u.out B.out A.out g.out⟩,(x.call f).below⟩
 have H:=aD n4;have A:=aD G;have E:=x.call f;clear n4 x f G;obtain⟨⟨j,l,m,n,o⟩,⟨p,q,r,s,t⟩⟩:=E.cells;go_wp2;rw[rounds_succ]
 go_wp2_with fail
 refine (F8 v1 v2 v3 d _ (y.out _ E) z.out i.out B.out A.out H.out).mono ?_;clear j l m n o p q r s t;rintro e V ⟨v,rfl,⟨k,b,rfl⟩ | ⟨O,rfl⟩,f⟩
 ·have g:=aD b;clear b;go_wp2;go_ret;exact⟨_,rfl,.inl ⟨5,k,rfl,vR i.out u.out B.out A.out H.out g.out⟩,(E.call f).below⟩
 have P:=aD O;have Q:=E.call f;clear O E f;go_wp2;rw[rounds_succ];go_wp2;go_ret;exact⟨_,rfl,.inr ⟨rfl,ER i.out u.out B.out A.out H.out P.out⟩,Q.below⟩
abbrev rF:Value:=.iface 210 (.agg #[.pointer (some ⟨5,83,none⟩)])
theorem Cm (u:World) (t n:Nat) (a b:Value) (h:u.heap.size=n):(u.alloc (.cells #[a,b] t)).rowIs n t 2 (two a b):=by
 subst h;exact dH u t #[a,b]
theorem JG {w b d:World}{t r:Nat}{g:Nat->Value}{l m o3 n:Obj}{c a:Value}{f:Nat->Value}(j:Below w.heap.size w b) (R:b.rowIs (w.heap.size+1) t 2 g) (F:b.rowIs (w.heap.size+1+1) r 2 f)
  (h:d=(((((b.alloc l).alloc m).alloc o3).alloc n).setCell ⟨w.heap.size+1+1,0,none⟩ c).setCell ⟨w.heap.size+1+1,1,none⟩ a) :
  Below w.heap.size w d∧d.rowIs (w.heap.size+1) t 2 g∧d.cell? ⟨w.heap.size+1+1,0,none⟩=some c∧d.cell? ⟨w.heap.size+1+1,1,none⟩=some a:=by
 have e:Below b.heap.size b ((((b.alloc l).alloc m).alloc o3).alloc n):=((((Below.refl _ _).alloc (Nat.le_refl _) _).alloc (by simp) _).alloc (by simp; omega) _).alloc (by simp; omega) _;have o:=j.trans (e.mono j.size);have q:=eV R e;have p:=eV F e;subst h;have k:=(p.set 0 c).set 1 a;refine⟨(o.setCell (by show w.heap.size<=w.heap.size+1+1; omega) _).setCell (by show w.heap.size<=w.heap.size+1+1; omega) _,(q.setOther (by show w.heap.size+1≠w.heap.size+1+1; omega) _).setOther (by show w.heap.size+1≠w.heap.size+1+1; omega) _,?_,?_⟩
 ·simpa using k.cell (i:=0) (by omega)
 ·simpa using k.cell (i:=1) (by omega)
set_option maxHeartbeats 2000000 in
theorem FZ (v1 v2 v3:Value) (d:aK) (w:World) (G:aZ (In w) w v1 v2 v3 d) (J:d.Small 1048576) (I:w.cell? ⟨1,0,none⟩=some rF) :
  Calls Tryz.prog 32 #[.agg #[.int .i64 d.aA,v1,v2,v3,.int .i64 d.aI]] w fun e w'=>∃c a,e=.returned (.agg #[.int .i64 c,.int .i64 a])∧bR (rO d) d c a∧Below w.heap.size w w':=by
 have E:=jD.start w 27 (.int .i64 d.aA) v1 v2 v3 (.int .i64 d.aI);have m:=bC (w.alloc (.cells #[.int .i64 d.aA,v1,v2,v3,.int .i64 d.aI] 27)) (.cells #[.int .i64 0,.int .i64 0] 68);have b:=bC ((w.alloc (.cells #[.int .i64 d.aA,v1,v2,v3,.int .i64 d.aI] 27)).alloc (.cells #[.int .i64 0,.int .i64 0] 68)) (.cells #[.int .i64 0,.int .i64 0] 112);have D:=eV (Cm (w.alloc (.cells #[.int .i64 d.aA,v1,v2,v3,.int .i64 d.aI] 27)) 68 (w.heap.size+1) (.int .i64 0) (.int .i64 0) (by simp)) b;have C:=Cm ((w.alloc (.cells #[.int .i64 d.aA,v1,v2,v3,.int .i64 d.aI] 27)).alloc (.cells #[.int .i64 0,.int .i64 0] 68)) 112 (w.heap.size+1+1) (.int .i64 0) (.int .i64 0) (by simp);have h:=(E.call m).call b;have p:=G.keep (In.keep h.below).1 (In.keep h.below).2;have o:=ck I h.below;clear E m b G;go_enter Tryz.func32,Tryz.ntmps32
 go_wp2_with fail
 refine (F9 v1 v2 v3 d _ p J).mono ?_;rintro e t ⟨v,rfl,K,l⟩;have z:Below w.heap.size w t:=h.below.trans (l.mono h.below.size);have g:=eV D l;have f:=eV C l;have B:=ck o l;clear h p l D C o;have x:=g.cell (i:=0) (by omega);have y:=g.cell (i:=1) (by omega);have r:=g.frozen 0;have s:=g.frozen 1
 have F:t.cell? ⟨w.heap.size+1+1,0,none⟩=some (.int .i64 0):=by simpa [two] using f.cell (i:=0) (by omega)
 have f1:t.cell? ⟨w.heap.size+1+1,1,none⟩=some (.int .i64 0):=by simpa [two] using f.cell (i:=1) (by omega)
 have j:=f.frozen 0;have k:=f.frozen 1;rcases K with ⟨c,a,rfl,n⟩ | ⟨rfl,n⟩
 ·have A:=aD n;clear n
  go_wp2_with fail
  refine (zrc (w.heap.size+1+1) c a 0 0 t B F f1 j k).mono ?_;rintro e L ⟨rfl,q⟩;obtain⟨H,u,M,N⟩:=JG z g f q;clear q x y r s F f1 j k z g f;have x:=u.cell (i:=0) (by omega);have y:=u.cell (i:=1) (by omega);have r:=u.frozen 0;have s:=u.frozen 1;go_wp2;exact bodyPost_ret (v:=.agg #[.int .i64 c,.int .i64 a]) (by simp[results,Tryz.results32,go_sem,x,y]) rfl ⟨c,a,rfl,A.out,(H.setCell (by show w.heap.size<=w.heap.size+1; omega) _).setCell (by show w.heap.size<=w.heap.size+1; omega) _⟩
 ·have A:=aD n;clear n
  go_wp2_with fail
  refine (JL _ t).mono ?_;rintro e L ⟨rfl,rfl⟩;go_wp2;exact bodyPost_ret (v:=.agg #[.int .i64 0,.int .i64 0]) (by simp[results,Tryz.results32,go_sem,x,y]) rfl ⟨0,0,rfl,A.out,(z.setCell (by show w.heap.size<=w.heap.size+1; omega) _).setCell (by show w.heap.size<=w.heap.size+1; omega) _⟩
end
end Go.Proofs.YtdhinkgjiapigaaGreatDoor

import Derived.Test.YtdhinkgjiapigabGreatDoorProg
import Derived.Test.YtdhinkgjiapigabGreatDoorBase
import Derived.RegionTactic
import Derived.Test.YtdhinkgjiapigabGreatDoorToA
import Derived.Test.YtdhinkgjiapigabGreatDoorAs
namespace Go.Proofs.YtdhinkgjiapigabGreatDoor
open Go.RowKit
open Classical
abbrev zko (A C:Nat):Value:=.agg #[.int .u32 (A:Int),.int .u32 (C:Int)]
set_option maxHeartbeats 400000 in
theorem zoc (A C:Nat) (l:List Int) (x:Int) (w:World) (hs:SetIs A C l) (h0:0 ≤ x) (h1:x < 64) :
  Calls Tryz.prog 258 #[zko A C,.int .i64 x] w fun e w'=>e = .returned (.bool (B (x ∈ l))) ∧ Below w.heap.size w w':=by
 have ha:=hs.a;have hc:=hs.c;by_cases h:x < 32
 ·have hx:x / 32 = 0:=by omega
  have e:B (x ∈ l) = (bits .and .u32 ((A:Int) / 2 ^ (x % 32).toNat) 1 == 1):=by
   rw [zod _ _ ha,show x % 32 = x by omega];have:=hs.lo x.toNat (by omega);rw [Int.toNat_of_nonneg h0] at this;rw [Bool.eq_iff_iff,zq8,this]
  have HE:=zaa e;clear e;go_enter Tryz.func258,Tryz.ntmps258;go_wp2;go_ret;exact ⟨zad HE.out.symm,zab _ _⟩
 ·have hx:x / 32 = 1:=by omega
  have e:B (x ∈ l) = (bits .and .u32 ((C:Int) / 2 ^ (x % 32).toNat) 1 == 1):=by
   rw [zod _ _ hc,show x % 32 = x - 32 by omega];have:=hs.hi (x - 32).toNat (by omega);rw [Int.toNat_of_nonneg (by omega),show x - 32 + 32 = x by omega] at this;rw [Bool.eq_iff_iff,zq8,this]
  have HE:=zaa e;clear e;go_enter Tryz.func258,Tryz.ntmps258;go_wp2;go_ret;exact ⟨zad HE.out.symm,zab _ _⟩
set_option maxHeartbeats 400000 in
theorem zqb (A C:Nat) (l:List Int) (x:Int) (w:World) (hs:SetIs A C l) (h0:0 ≤ x) (h1:x < 64) :
  Calls Tryz.prog 259 #[zko A C,.int .i64 x] w fun e w'=>∃ A' C',e = .returned (zko A' C') ∧ SetIs A' C' (l ++ [x]) ∧ Below w.heap.size w w':=by
 have ha:=hs.a;have hc:=hs.c;by_cases h:x < 32
 ·have hx:x / 32 = 0:=by omega
  have e:=zml A (x % 32).toNat ha (by omega);rw [show x % 32 = x by omega] at e
  have hm:x % 32 = x:=by omega
  have HE:=zaa e;have HM:=zaa hm;clear e hm;go_enter Tryz.func259,Tryz.ntmps259;go_wp2
  go_region
  go_wp2;refine bodyPost_ret (v:=.agg #[.int .u32 (bits .or .u32 (A:Int) (2 ^ (x % 32).toNat % 4294967296)),.int .u32 (C:Int)]) (by simp [results,Tryz.results259,go_sem]) rfl ⟨A ||| 2 ^ x.toNat,C,?_,hs.low h0 h,?_⟩
  ·rw [HM.out,HE.out]
  ·exact (((Below.refl _ _).alloc (Nat.le_refl _) _).alloc (by simp) _).drew
 ·have hx:x / 32 = 1:=by omega
  have e:=zml C (x % 32).toNat hc (by omega);rw [show x % 32 = x - 32 by omega] at e
  have hm:x % 32 = x - 32:=by omega
  have HE:=zaa e;have HM:=zaa hm;clear e hm;go_enter Tryz.func259,Tryz.ntmps259;go_wp2
  go_region
  go_wp2;refine bodyPost_ret (v:=.agg #[.int .u32 (A:Int),.int .u32 (bits .or .u32 (C:Int) (2 ^ (x % 32).toNat % 4294967296))]) (by simp [results,Tryz.results259,go_sem]) rfl ⟨A,C ||| 2 ^ (x - 32).toNat,?_,hs.high (by omega) h1,?_⟩
  ·rw [HM.out,HE.out]
  ·exact (((Below.refl _ _).alloc (Nat.le_refl _) _).alloc (by simp) _).drew
end Go.Proofs.YtdhinkgjiapigabGreatDoor
namespace Go.Proofs.YtdhinkgjiapigabGreatDoor
open Go.RowKit Go.Deep
open Classical
set_option maxHeartbeats 400000 in
theorem zds (n x:Int) (v1 v2 v3 hd:Value) (w:World) :
  Calls Tryz.prog 110 #[.agg #[.int .i64 n,v1,v2,v3,hd],.int .i64 x] w fun e w'=>e = .returned (.bool (B (InR x 0 (n - 1)))) ∧ Below w.heap.size w w':=by
 by_cases h1:0 ≤ x
 ·by_cases h2:x < n
  ·rw [zam (show InR x 0 (n - 1) from ⟨h1,by omega⟩)];go_enter Tryz.func110,Tryz.ntmps110;go_wp2;go_ret;exact ⟨by simp,zab _ _⟩
  ·rw [zae (show ¬ InR x 0 (n - 1) from fun h=>h2 (by have:=h.2; omega))];go_enter Tryz.func110,Tryz.ntmps110;go_wp2;go_ret;exact ⟨by simp,zab _ _⟩
 ·rw [zae (show ¬ InR x 0 (n - 1) from fun h=>h1 h.1)];go_enter Tryz.func110,Tryz.ntmps110;go_wp2;go_ret;exact ⟨by simp,zab _ _⟩
theorem zfo (w:World) (o o':Obj):Below w.heap.size w ((w.alloc o).alloc o'):=(((Below.refl _ _).alloc (Nat.le_refl _) _).alloc (by simp) _)
set_option maxHeartbeats 400000 in
theorem zf7 (s:Value) (a1:Option Addr) (m c1:Nat) (v2 v3 hd:Value) (x:Int) (w:World) (_hm:m ≤ 1048576) :
  Calls Tryz.prog 114 #[.agg #[s,.slice a1 m c1,v2,v3,hd],.int .i64 x] w fun e w'=>e = .returned (.bool (B (InR x 0 ((m:Int) - 1)))) ∧ Below w.heap.size w w':=by
 by_cases h1:0 ≤ x
 ·by_cases h2:x < (m:Int)
  ·rw [zam (show InR x 0 ((m:Int) - 1) from ⟨h1,by omega⟩)];go_enter Tryz.func114,Tryz.ntmps114;go_wp2;go_ret;exact ⟨by simp,zab _ _⟩
  ·rw [zae (show ¬ InR x 0 ((m:Int) - 1) from fun h=>h2 (by have:=h.2; omega))];go_enter Tryz.func114,Tryz.ntmps114;go_wp2;go_ret;exact ⟨by simp,zab _ _⟩
 ·rw [zae (show ¬ InR x 0 ((m:Int) - 1) from fun h=>h1 h.1)];go_enter Tryz.func114,Tryz.ntmps114;go_wp2;go_ret;exact ⟨by simp,zab _ _⟩
set_option maxHeartbeats 400000 in
theorem zoh (s:Value) (a1:Option Addr) (m c1:Nat) (v2 v3 hd:Value) (x:Int) (w:World) (_hm:m ≤ 1048576) :
  Calls Tryz.prog 107 #[.agg #[s,v2,.slice a1 m c1,v3,hd],.int .i64 x] w fun e w'=>e = .returned (.bool (B (InR x 0 ((m:Int) - 1)))) ∧ Below w.heap.size w w':=by
 by_cases h1:0 ≤ x
 ·by_cases h2:x < (m:Int)
  ·rw [zam (show InR x 0 ((m:Int) - 1) from ⟨h1,by omega⟩)];go_enter Tryz.func107,Tryz.ntmps107;go_wp2;go_ret;exact ⟨by simp,zab _ _⟩
  ·rw [zae (show ¬ InR x 0 ((m:Int) - 1) from fun h=>h2 (by have:=h.2; omega))];go_enter Tryz.func107,Tryz.ntmps107;go_wp2;go_ret;exact ⟨by simp,zab _ _⟩
 ·rw [zae (show ¬ InR x 0 ((m:Int) - 1) from fun h=>h1 h.1)];go_enter Tryz.func107,Tryz.ntmps107;go_wp2;go_ret;exact ⟨by simp,zab _ _⟩
set_option maxHeartbeats 1000000 in
theorem zg8 (s:Value) (a1:Option Addr) (m c1:Nat) (v2 v3 hd:Value) (x y:Int) (w:World) (hm:m ≤ 1048576) :
  Calls Tryz.prog 144 #[.agg #[s,.slice a1 m c1,v2,v3,hd],.agg #[.int .i64 x,.int .i64 y]] w fun e w'=>e = .returned (.bool (B (InR x 0 ((m:Int) - 1) ∧ InR y 1 2))) ∧ Below w.heap.size w w':=by
 have hn:=zfo w (.cells #[s,.slice a1 m c1,v2,v3,hd] 37) (.cells #[.int .i64 x,.int .i64 y] 175);have R:=zak (w.alloc (.cells #[s,.slice a1 m c1,v2,v3,hd] 37)) 175 #[.int .i64 x,.int .i64 y];rw [show (w.alloc (.cells #[s,.slice a1 m c1,v2,v3,hd] 37)).heap.size = w.heap.size + 1 by simp] at R;go_enter Tryz.func144,Tryz.ntmps144
 go_wp2_with fail
 refine (zf7 s a1 m c1 v2 v3 hd x _ hm).mono ?_;rintro e w1 ⟨rfl,hb⟩;have R1:=zal R hb;have B1:Below w.heap.size w w1:=hn.trans (hb.mono hn.size)
 have c1:w1.cell? ⟨w.heap.size + 1,1,none⟩ = some (.int .i64 y):=by simpa using R1.cell (i:=1) (by simp)
 clear hn R hb R1;by_cases q:InR x 0 ((m:Int) - 1)
 case neg=>
  rw [zae q];have Q:=zaa q;clear q;go_wp2;go_ret;exact ⟨zad (zae fun h=>Q.out h.1).symm,B1⟩
 rw [zam q];have Q:=zaa q;clear q;by_cases h3:y = 1
 ·subst h3;go_wp2;go_ret;exact ⟨zad (zam ⟨Q.out,by omega,by omega⟩).symm,B1⟩
 have h3':(y == 1) = false:=by simpa using h3
 by_cases h4:y = 2
 ·subst h4;clear h3 h3';go_wp2;go_ret;exact ⟨zad (zam ⟨Q.out,by omega,by omega⟩).symm,B1⟩
 have h4':(y == 2) = false:=by simpa using h4
 have H3:=zaa h3;have H4:=zaa h4;clear h3 h4;go_wp2;go_ret;exact ⟨zad (zae fun h=>by have a:=h.2.1; have b:=h.2.2; have:=H3.out; have:=H4.out; omega).symm,B1⟩
set_option maxHeartbeats 1000000 in
theorem zfc (A C A' C':Nat) (l r:List Int) (w:World) (h:SetIs A C l) (k:SetIs A' C' r) (hl:∀ x ∈ l,0 ≤ x ∧ x < 64) :
  Calls Tryz.prog 233 #[zko A C,zko A' C'] w fun e w'=>e = .returned (.bool (B (Meet l r))) ∧ Below w.heap.size w w':=by
 have i0:∀ w,(Instr.index 268 (zko A C) (.int .i64 0)).run Tryz.prog w = .ok (.int .u32 (A:Int)) w:=fun _=>by kernel_rfl
 have i1:∀ w,(Instr.index 268 (zko A C) (.int .i64 1)).run Tryz.prog w = .ok (.int .u32 (C:Int)) w:=fun _=>by kernel_rfl
 have hb:B (Meet l r) = B (A &&& A' ≠ 0 ∨ C &&& C' ≠ 0):=zbz (zor h k hl).symm;rw [hb];have e0:=zk3 A A' h.a k.a;have e1:=zk3 C C' h.c k.c;clear hb hl h k;have HB:∀ o o',Below w.heap.size w ((w.alloc o).alloc o'):=zfo w;by_cases z0:A &&& A' = 0
 ·by_cases z1:C &&& C' = 0
  ·rw [zae (show ¬ (A &&& A' ≠ 0 ∨ C &&& C' ≠ 0) from fun h=>h.elim (fun h=>h z0) (fun h=>h z1))]
   have t0:(bits .and .u32 (A:Int) (A':Int) != 0) = false:=by rw [e0,z0]; rfl
   have t1:(bits .and .u32 (C:Int) (C':Int) != 0) = false:=by rw [e1,z1]; rfl
   clear e0 e1 z0 z1;go_enter Tryz.func233,Tryz.ntmps233;go_wp2;refine wp_loop_rounds 3 ?_;rw [rounds_succ];go_wp2;rw [rounds_succ];go_wp2;rw [rounds_succ];go_wp2;go_ret;exact ⟨rfl,HB _ _⟩
  ·rw [zam (show (A &&& A' ≠ 0 ∨ C &&& C' ≠ 0) from .inr z1)]
   have t0:(bits .and .u32 (A:Int) (A':Int) != 0) = false:=by rw [e0,z0]; rfl
   have t1:(bits .and .u32 (C:Int) (C':Int) != 0) = true:=by rw [e1]; simp; omega
   clear e0 e1 z0 z1;go_enter Tryz.func233,Tryz.ntmps233;go_wp2;refine wp_loop_rounds 2 ?_;rw [rounds_succ];go_wp2;rw [rounds_succ];go_wp2;go_ret;exact ⟨rfl,HB _ _⟩
 ·rw [zam (show (A &&& A' ≠ 0 ∨ C &&& C' ≠ 0) from .inl z0)]
  have t0:(bits .and .u32 (A:Int) (A':Int) != 0) = true:=by rw [e0]; simp; omega
  clear e0 e1 z0;go_enter Tryz.func233,Tryz.ntmps233;go_wp2;refine wp_loop_rounds 1 ?_;rw [rounds_succ];go_wp2;go_ret;exact ⟨rfl,HB _ _⟩
end Go.Proofs.YtdhinkgjiapigabGreatDoor
namespace Go.Proofs.YtdhinkgjiapigabGreatDoor
open Go.RowKit Go.Deep
open Classical
def two (a b:Value):Nat → Value:=fun i=>(#[a,b]:Array Value)[i]!
structure Bs (w:World) (t tr:TypeId) (f:Nat → Value) (A C:Nat) (W:World):Prop where
 below:Below w.heap.size w W
 one:W.rowIs w.heap.size t 5 f
 res:∃ g,W.rowIs (w.heap.size + 1) tr 2 g
 set:W.rowIs (w.heap.size + 1 + 1) tr 2 (two (.int .u32 (A:Int)) (.int .u32 (C:Int)))
theorem Bs.call {w:World} {t tr:TypeId} {f:Nat → Value} {A C:Nat} {W W':World} (h:Bs w t tr f A C W) (hb:Below W.heap.size W W'):Bs w t tr f A C W':=
 ⟨h.below.trans (hb.mono h.below.size),zal h.one hb,h.res.imp fun _ k=>zal k hb,zal h.set hb⟩
theorem Bs.start (w:World) (t tr:TypeId) (b0 b1 b2 b3 b4 z0 z1:Value) (A C:Nat):Bs w t tr (zch b0 b1 b2 b3 b4) A C (((w.alloc (.cells #[b0,b1,b2,b3,b4] t)).alloc (.cells #[z0,z1] tr)).alloc (.cells #[.int .u32 (A:Int),.int .u32 (C:Int)] tr)):=by
 refine ⟨((((Below.refl _ _).alloc (Nat.le_refl _) _).alloc (by simp) _).alloc (by simp; omega) _),((zak _ _ _).alloc _).alloc _,?_,?_⟩
 ·have:=(zak (w.alloc (.cells #[b0,b1,b2,b3,b4] t)) tr #[z0,z1]).alloc (.cells #[.int .u32 (A:Int),.int .u32 (C:Int)] tr);rw [show (w.alloc (.cells #[b0,b1,b2,b3,b4] t)).heap.size = w.heap.size + 1 by simp] at this;exact ⟨_,this⟩
 ·have:=zak ((w.alloc (.cells #[b0,b1,b2,b3,b4] t)).alloc (.cells #[z0,z1] tr)) tr #[.int .u32 (A:Int),.int .u32 (C:Int)];rw [show ((w.alloc (.cells #[b0,b1,b2,b3,b4] t)).alloc (.cells #[z0,z1] tr)).heap.size = w.heap.size + 1 + 1 by simp] at this;exact this
theorem Bs.cells {w:World} {t tr:TypeId} {b0 b1 b2 b3 b4:Value} {A C:Nat} {W:World} (h:Bs w t tr (zch b0 b1 b2 b3 b4) A C W) :
  W.cell? ⟨w.heap.size,0,none⟩ = some b0 ∧ W.cell? ⟨w.heap.size,1,none⟩ = some b1 ∧ W.cell? ⟨w.heap.size,2,none⟩ = some b2 ∧ W.cell? ⟨w.heap.size,3,none⟩ = some b3 ∧ W.cell? ⟨w.heap.size,4,none⟩ = some b4:=
 Bx1.cells ⟨h.below,h.one⟩
theorem Bs.slot {w:World} {t tr:TypeId} {f:Nat → Value} {A C:Nat} {W:World} (h:Bs w t tr f A C W) :
  ∃ x y,W.cell? ⟨w.heap.size + 1,0,none⟩ = some x ∧ W.cell? ⟨w.heap.size + 1,1,none⟩ = some y ∧ W.frozen? ⟨w.heap.size + 1,0,none⟩ = false ∧ W.frozen? ⟨w.heap.size + 1,1,none⟩ = false:=by
 obtain ⟨g,hg⟩:=h.res;exact ⟨_,_,hg.cell (i:=0) (by omega),hg.cell (i:=1) (by omega),hg.frozen 0,hg.frozen 1⟩
theorem Bs.words {w:World} {t tr:TypeId} {f:Nat → Value} {A C:Nat} {W:World} (h:Bs w t tr f A C W) :
  W.cell? ⟨w.heap.size + 1 + 1,0,none⟩ = some (.int .u32 (A:Int)) ∧ W.cell? ⟨w.heap.size + 1 + 1,1,none⟩ = some (.int .u32 (C:Int)) ∧ W.frozen? ⟨w.heap.size + 1 + 1,0,none⟩ = false ∧ W.frozen? ⟨w.heap.size + 1 + 1,1,none⟩ = false:=
 ⟨by simpa [two] using h.set.cell (i:=0) (by omega),by simpa [two] using h.set.cell (i:=1) (by omega),h.set.frozen 0,h.set.frozen 1⟩
theorem Bs.ret {w:World} {t tr:TypeId} {f:Nat → Value} {A C:Nat} {W:World} (h:Bs w t tr f A C W) (x y:Value):Below w.heap.size w ((W.setCell ⟨w.heap.size + 1,0,none⟩ x).setCell ⟨w.heap.size + 1,1,none⟩ y):=
 (h.below.setCell (by show w.heap.size ≤ w.heap.size + 1; omega) _).setCell (by show w.heap.size ≤ w.heap.size + 1; omega) _
theorem Bs.store {w:World} {t tr:TypeId} {f:Nat → Value} {A C:Nat} {W:World} (h:Bs w t tr f A C W) (A' C':Nat) :
  Bs w t tr f A' C' ((W.setCell ⟨w.heap.size + 1 + 1,0,none⟩ (.int .u32 (A':Int))).setCell ⟨w.heap.size + 1 + 1,1,none⟩ (.int .u32 (C':Int))):=by
 have p1:∀ o:Nat,w.heap.size ≠ (⟨w.heap.size + 1 + 1,o,none⟩:Addr).block:=fun o=>by show w.heap.size ≠ w.heap.size + 1 + 1; omega
 have p2:∀ o:Nat,w.heap.size + 1 ≠ (⟨w.heap.size + 1 + 1,o,none⟩:Addr).block:=fun o=>by show w.heap.size + 1 ≠ w.heap.size + 1 + 1; omega
 refine ⟨(h.below.setCell (by show w.heap.size ≤ w.heap.size + 1 + 1; omega) _).setCell (by show w.heap.size ≤ w.heap.size + 1 + 1; omega) _,(h.one.setOther (p1 _) _).setOther (p1 _) _,h.res.imp fun _ k=>(k.setOther (p2 _) _).setOther (p2 _) _,((h.set.set 0 _).set 1 _).congr fun i hi=>?_⟩;rcases i with _ | _ | i
 ·simp [two]
 ·simp [two]
 ·omega
theorem zo4 {l:List Int} {k:Nat} {x:Int} (h:l[k]? = some x):l.take (k + 1) = l.take k ++ [x]:=by
 rw [List.take_add_one,h]; rfl
theorem zpx {l:List Int} {k:Nat} {x:Int} (h:x ∈ l.take k):∃ q,q < k ∧ l[q]? = some x:=by
 obtain ⟨i,hi⟩:=List.getElem?_of_mem h;have hl:=(List.getElem?_eq_some_iff.1 hi).1;rw [List.length_take] at hl;refine ⟨i,by omega,?_⟩;rw [List.getElem?_take,if_pos (by omega)] at hi;exact hi
theorem zp6 {l:List Int} {k q:Nat} {x:Int} (hq:q < k) (h:l[q]? = some x):x ∈ l.take k:=
 List.mem_of_getElem? (i:=q) (by rw [List.getElem?_take,if_pos hq]; exact h)
set_option maxHeartbeats 2000000 in
theorem zcp (n:Int) (v1 v2 v3 hd v:Value) (l:List Int) (w:World) (hv:Ints (In w) w v l) (hl:l.length ≤ 1048576) (h60:n ≤ 60) :
  Calls Tryz.prog 232 #[.agg #[.int .i64 n,v1,v2,v3,hd],v] w fun e w'=>∃ A C,e = .returned (.tuple #[zko A C,.bool (B (ListOk n l))]) ∧ (ListOk n l → SetIs A C l) ∧ Below w.heap.size w w':=by
 obtain ⟨a,cap,rfl,hc⟩:=hv;generalize hn':l.length = m at *;have Hn:Hid (l.length = m):=hn';have HC:=zaa hc;clear hc hn';by_cases h30:m ≤ 30
 case neg=>
  have hno:¬ ListOk n l:=fun h=>h30 (by have:=h.2; have:=Hn.out; omega);rw [zae hno];have HN:=zaa hno;clear hno;go_enter Tryz.func232,Tryz.ntmps232;go_wp2;exact bodyPost_ret (v:=.tuple #[zko 0 0,.bool false]) (by simp [results,Tryz.results232,go_sem]) rfl ⟨0,0,rfl,fun h=>absurd h HN.out,zfo _ _ _⟩
 have T0:=Bs.start w 37 268 (.int .i64 n) v1 v2 v3 hd (.int .u32 0) (.int .u32 0) 0 0;go_enter Tryz.func232,Tryz.ntmps232;go_wp2
 go_loopw [15] (fun i wr=>∃ (k A C:Nat),k ≤ m ∧ i = .int .i64 k ∧ (∀ j,j < k → znr n l j) ∧ SetIs A C (l.take k) ∧ Bs w 37 268 (zch (.int .i64 n) v1 v2 v3 hd) A C wr) (fun i _=>m - (intOf i).toNat)
 case atStart=>exact ⟨0,0,0,Nat.zero_le _,rfl,fun j hj=>by omega,SetIs.nil,T0⟩
 case round=>
  obtain ⟨k,A,C,hk,rfl,hok,hset,T1⟩:=hrel;have HO:=zaa hok;clear hok T0;obtain ⟨b0,b1,b2,b3,b4⟩:=T1.cells;obtain ⟨r0,r1,y0,y1,f0,f1⟩:=T1.slot;obtain ⟨s0,s1,t0,t1⟩:=T1.words;by_cases hlt:k < m
  ·obtain h0 | ⟨b,off,rfl,hb0,hc⟩:=HC.out
   ·omega
   obtain ⟨x,hx⟩:=zac l Hn hlt;have g0:=hc k hlt x hx;rw [← T1.below.cell (p:=⟨b,_,none⟩) hb0] at g0;have Hx:=zaa hx;clear hx hc
   go_wp2_with fail
   refine (zds n x v1 v2 v3 hd _).mono ?_;clear b0 b1 b2 b3 b4 y0 y1 f0 f1 s0 s1 t0 t1 g0;rintro e w1 ⟨rfl,hb1⟩;have T2:=T1.call hb1;clear T1 hb1;obtain ⟨r0,r1,y0,y1,f0,f1⟩:=T2.slot;obtain ⟨s0,s1,t0,t1⟩:=T2.words;by_cases hin:InR x 0 (n - 1)
   case neg=>
    have hno:¬ ListOk n l:=fun h=>hin ((h.1 k (by rw [Hn.out]; exact hlt)) _ Hx.out).1;rw [zae hin];have HN:=zaa hno;clear hno hin;go_wp2;exact bodyPost_ret (v:=.tuple #[zko 0 0,.bool false]) (by simp [results,Tryz.results232,go_sem,y0,y1]) rfl ⟨0,0,by rw [zae HN.out],fun h=>absurd h HN.out,T2.ret _ _⟩
   rw [zam hin];have Hin:=zaa hin;clear hin
   go_wp2_with fail
   refine (zoc A C _ x _ hset Hin.out.1 (by have:=Hin.out.2; omega)).mono ?_;clear y0 y1 f0 f1 s0 s1 t0 t1;rintro e w2 ⟨rfl,hb2⟩;have T3:=T2.call hb2;clear T2 hb2;obtain ⟨b0,b1,b2,b3,b4⟩:=T3.cells;obtain ⟨r0,r1,y0,y1,f0,f1⟩:=T3.slot;obtain ⟨s0,s1,t0,t1⟩:=T3.words;by_cases hmem:x ∈ l.take k
   ·rw [zam hmem]
    have hno:¬ ListOk n l:=fun h=>by
     obtain ⟨q,hq,hq2⟩:=zpx hmem;exact ((h.1 k (by rw [Hn.out]; exact hlt)) _ Hx.out).2 q hq hq2
    have HN:=zaa hno;clear hno hmem;go_wp2;exact bodyPost_ret (v:=.tuple #[zko 0 0,.bool false]) (by simp [results,Tryz.results232,go_sem,y0,y1]) rfl ⟨0,0,by rw [zae HN.out],fun h=>absurd h HN.out,T3.ret _ _⟩
   ·rw [zae hmem];have HM:=zaa hmem;clear hmem
    go_wp2_with fail
    refine (zqb A C _ x _ hset Hin.out.1 (by have:=Hin.out.2; omega)).mono ?_;clear b0 b1 b2 b3 b4 y0 y1 f0 f1 s0 s1 t0 t1;rintro e w3 ⟨A',C',rfl,hset',hb3⟩;have T4:=T3.call hb3;clear T3 hb3;obtain ⟨s0,s1,t0,t1⟩:=T4.words;go_wp2;go_roundw
    case rel=>exact ⟨k + 1,A',C',by omega,by go_num,fun j hj=>by
     by_cases e:j = k
     ·subst e; intro z hz; rw [Hx.out] at hz; cases hz; exact ⟨Hin.out,fun q hq hq2=>HM.out (zp6 hq hq2)⟩
     ·exact HO.out j (by omega),by rw [zo4 Hx.out]; exact hset',T4.store A' C'⟩
    case measure=>simp [intOf]; omega
  ·have hyes:ListOk n l:=⟨fun j hj=>HO.out j (by have:=Hn.out; omega),by have:=Hn.out; omega⟩;have HY:=zaa hyes
   have hset2:SetIs A C l:=by
    rw [List.take_of_length_le (by have:=Hn.out; omega)] at hset;exact hset
   have HS:=zaa hset2;clear hyes hset hset2;go_wp2;exact bodyPost_ret (v:=.tuple #[zko A C,.bool true]) (by simp [results,Tryz.results232,go_sem,y0,y1]) rfl ⟨A,C,by rw [zam HY.out],fun _=>HS.out,T1.ret _ _⟩
end Go.Proofs.YtdhinkgjiapigabGreatDoor
namespace Go.Proofs.YtdhinkgjiapigabGreatDoor
open Go.RowKit Go.Deep
open Classical
structure Bw (w:World) (t tw ts ta:TypeId) (f g:Nat → Value) (A C:Nat) (s:Nat → Bool) (W:World):Prop where
 below:Below w.heap.size w W
 one:W.rowIs w.heap.size t 5 f
 way:W.rowIs (w.heap.size + 1) tw 5 g
 set:W.rowIs (w.heap.size + 1 + 1) ts 2 (two (.int .u32 (A:Int)) (.int .u32 (C:Int)))
 seen:W.rowIs (w.heap.size + 1 + 1 + 1) ta 40 (fun i=>.bool (s i))
theorem Bw.call {w:World} {t tw ts ta:TypeId} {f g:Nat → Value} {A C:Nat} {s:Nat → Bool} {W W':World} (h:Bw w t tw ts ta f g A C s W) (hb:Below W.heap.size W W'):Bw w t tw ts ta f g A C s W':=
 ⟨h.below.trans (hb.mono h.below.size),zal h.one hb,zal h.way hb,zal h.set hb,zal h.seen hb⟩
theorem Bw.start (w:World) (t tw ts ta:TypeId) (b0 b1 b2 b3 b4 z0 z1 z2 z3 z4:Value) (A C:Nat) (c:Array Value) (hc:c = Array.replicate 40 (.bool false)) :
  Bw w t tw ts ta (zch b0 b1 b2 b3 b4) (zch z0 z1 z2 z3 z4) A C (fun _=>false) ((((w.alloc (.cells #[b0,b1,b2,b3,b4] t)).alloc (.cells #[z0,z1,z2,z3,z4] tw)).alloc (.cells #[.int .u32 (A:Int),.int .u32 (C:Int)] ts)).alloc (.cells c ta)):=by
 have e1:(w.alloc (.cells #[b0,b1,b2,b3,b4] t)).heap.size = w.heap.size + 1:=by simp
 have e2:((w.alloc (.cells #[b0,b1,b2,b3,b4] t)).alloc (.cells #[z0,z1,z2,z3,z4] tw)).heap.size = w.heap.size + 1 + 1:=by simp
 have e3:(((w.alloc (.cells #[b0,b1,b2,b3,b4] t)).alloc (.cells #[z0,z1,z2,z3,z4] tw)).alloc (.cells #[.int .u32 (A:Int),.int .u32 (C:Int)] ts)).heap.size = w.heap.size + 1 + 1 + 1:=by simp
 refine ⟨(((((Below.refl _ _).alloc (Nat.le_refl _) _).alloc (by simp) _).alloc (by simp; omega) _).alloc (by simp; omega) _),(((zak _ _ _).alloc _).alloc _).alloc _,?_,?_,?_⟩
 ·have:=((zak (w.alloc (.cells #[b0,b1,b2,b3,b4] t)) tw #[z0,z1,z2,z3,z4]).alloc (.cells #[.int .u32 (A:Int),.int .u32 (C:Int)] ts)).alloc (.cells c ta);rw [e1] at this;exact this
 ·have:=(zak ((w.alloc (.cells #[b0,b1,b2,b3,b4] t)).alloc (.cells #[z0,z1,z2,z3,z4] tw)) ts #[.int .u32 (A:Int),.int .u32 (C:Int)]).alloc (.cells c ta);rw [e2] at this;exact this
 ·subst hc;have:=zak (((w.alloc (.cells #[b0,b1,b2,b3,b4] t)).alloc (.cells #[z0,z1,z2,z3,z4] tw)).alloc (.cells #[.int .u32 (A:Int),.int .u32 (C:Int)] ts)) ta (Array.replicate 40 (.bool false));rw [e3,Array.size_replicate] at this
  exact this.congr fun i hi=>by rw [getElem!_pos _ i (by rw [Array.size_replicate]; exact hi),Array.getElem_replicate]
theorem Bw.cells {w:World} {t tw ts ta:TypeId} {b0 b1 b2 b3 b4 z0 z1 z2 z3 z4:Value} {A C:Nat} {s:Nat → Bool} {W:World} (h:Bw w t tw ts ta (zch b0 b1 b2 b3 b4) (zch z0 z1 z2 z3 z4) A C s W) :
  (W.cell? ⟨w.heap.size,0,none⟩ = some b0 ∧ W.cell? ⟨w.heap.size,1,none⟩ = some b1 ∧ W.cell? ⟨w.heap.size,2,none⟩ = some b2 ∧ W.cell? ⟨w.heap.size,3,none⟩ = some b3 ∧ W.cell? ⟨w.heap.size,4,none⟩ = some b4) ∧
  (W.cell? ⟨w.heap.size + 1,0,none⟩ = some z0 ∧ W.cell? ⟨w.heap.size + 1,1,none⟩ = some z1 ∧ W.cell? ⟨w.heap.size + 1,2,none⟩ = some z2 ∧ W.cell? ⟨w.heap.size + 1,3,none⟩ = some z3 ∧ W.cell? ⟨w.heap.size + 1,4,none⟩ = some z4) ∧
  (W.cell? ⟨w.heap.size + 1 + 1,0,none⟩ = some (.int .u32 (A:Int)) ∧ W.cell? ⟨w.heap.size + 1 + 1,1,none⟩ = some (.int .u32 (C:Int))):=
 ⟨Bx1.cells ⟨h.below,h.one⟩,(Bx2.cells ⟨h.below,h.one,h.way⟩).2,by simpa [two] using h.set.cell (i:=0) (by omega),by simpa [two] using h.set.cell (i:=1) (by omega)⟩
theorem Bw.mark {w:World} {t tw ts ta:TypeId} {f g:Nat → Value} {A C:Nat} {s:Nat → Bool} {W:World} (h:Bw w t tw ts ta f g A C s W) (i:Nat) :
  Bw w t tw ts ta f g A C (fun j=>if j = i then true else s j) (W.setCell ⟨w.heap.size + 1 + 1 + 1,i,none⟩ (.bool true)):=by
 refine ⟨h.below.setCell (by show w.heap.size ≤ w.heap.size + 1 + 1 + 1; omega) _,h.one.setOther (by show w.heap.size ≠ w.heap.size + 1 + 1 + 1; omega) _,h.way.setOther (by show w.heap.size + 1 ≠ w.heap.size + 1 + 1 + 1; omega) _,h.set.setOther (by show w.heap.size + 1 + 1 ≠ w.heap.size + 1 + 1 + 1; omega) _,(h.seen.set i _).congr fun j _=>?_⟩;by_cases e:j = i
 ·rw [if_pos e,if_pos e]
 ·rw [if_neg e,if_neg e]
def zr2 (sw:List Int) (d:WayD):Prop:=LiesOk sw.length d.lies ∧ LiesOk sw.length d.flanks ∧ ∀ x ∈ d.lies,zru sw d x
def zqq (sw:List Int) (d:WayD) (j:Nat):Prop:=∀ x,d.lies[j]? = some x → (InR x.1 0 ((sw.length:Int) - 1) ∧ InR x.2 1 2) ∧ (∀ q y,q < j → d.lies[q]? = some y → y.1 ≠ x.1) ∧ ∃ s,sw[x.1.toNat]? = some s ∧ s ∈ d.sections
def znu (sw:List Int) (d:WayD) (j:Nat):Prop:=∀ x,d.flanks[j]? = some x → (InR x.1 0 ((sw.length:Int) - 1) ∧ InR x.2 1 2) ∧ (∀ y ∈ d.lies,y.1 ≠ x.1) ∧ ∀ q y,q < j → d.flanks[q]? = some y → y.1 ≠ x.1
theorem zp5 (sw:List Int) (d:WayD):zr2 sw d ↔ (d.lies.length ≤ 30 ∧ d.flanks.length ≤ 30 ∧ (∀ j,j < d.lies.length → zqq sw d j) ∧ ∀ j,j < d.flanks.length → znu sw d j):=by
 constructor
 ·rintro ⟨h1,h2,h3⟩;refine ⟨h1.2,h2.2,fun j hj x hx=>?_,fun j hj x hx=>?_⟩
  ·have a:=h1.1 j hj x hx;exact ⟨a.1,a.2,(h3 x (List.mem_of_getElem? hx)).2⟩
  ·have a:=h2.1 j hj x hx;exact ⟨a.1,fun y hy=>(h3 y hy).1 x (List.mem_of_getElem? hx),a.2⟩
 ·rintro ⟨h1,h2,h3,h4⟩;refine ⟨⟨fun j hj x hx=>⟨(h3 j hj x hx).1,(h3 j hj x hx).2.1⟩,h1⟩,⟨fun j hj x hx=>⟨(h4 j hj x hx).1,(h4 j hj x hx).2.2⟩,h2⟩,fun x hx=>⟨fun y hy=>?_,?_⟩⟩
  ·obtain ⟨i,hi⟩:=List.getElem?_of_mem hy;exact (h4 i (List.getElem?_eq_some_iff.1 hi).1 y hi).2.1 x hx
  ·obtain ⟨i,hi⟩:=List.getElem?_of_mem hx;exact (h3 i (List.getElem?_eq_some_iff.1 hi).1 x hi).2.2
theorem zin {l:List (Int × Int)} {k:Nat} {x:Int × Int} (h:l[k]? = some x):l.take (k + 1) = l.take k ++ [x]:=by
 rw [List.take_add_one,h]; rfl
theorem zke {l:List (Int × Int)} {k:Nat} {x:Int × Int} (h:x ∈ l.take k):∃ q,q < k ∧ l[q]? = some x:=by
 obtain ⟨i,hi⟩:=List.getElem?_of_mem h;have hl:=(List.getElem?_eq_some_iff.1 hi).1;rw [List.length_take] at hl;refine ⟨i,by omega,?_⟩;rw [List.getElem?_take,if_pos (by omega)] at hi;exact hi
theorem zkt {l:List (Int × Int)} {k q:Nat} {x:Int × Int} (hq:q < k) (h:l[q]? = some x):x ∈ l.take k:=
 List.mem_of_getElem? (i:=q) (by rw [List.getElem?_take,if_pos hq]; exact h)
def SeenIs (s:Nat → Bool) (l:List (Int × Int)):Prop:=∀ i,s i = true ↔ ∃ x ∈ l,x.1 = (i:Int)
theorem SeenIs.snoc {s:Nat → Bool} {l:List (Int × Int)} (h:SeenIs s l) {x:Int × Int} (h0:0 ≤ x.1):SeenIs (fun j=>if j = x.1.toNat then true else s j) (l ++ [x]):=by
 intro i;by_cases e:i = x.1.toNat
 ·simp only [if_pos e];exact ⟨fun _=>⟨x,by simp,by omega⟩,fun _=>trivial⟩
 ·simp only [if_neg e];rw [h i];constructor
  ·rintro ⟨y,hy,hy2⟩; exact ⟨y,by simp [hy],hy2⟩
  ·rintro ⟨y,hy,hy2⟩;rw [List.mem_append,List.mem_singleton] at hy;rcases hy with hy | hy
   ·exact ⟨y,hy,hy2⟩
   ·subst hy; omega
set_option maxHeartbeats 800000 in
theorem zh2 (n hd v2 v3:Value) (v1 u0 u1 u2 u3 u4:Value) (sw:List Int) (d:WayD) (A C:Nat) (w:World) (hsw:Ints (In w) w v1 sw) (hw:WayAt (In w) w u0 u1 u2 u3 u4 d)
  (hm:sw.length ≤ 40) (hs:d.Small 1048576) (hset:SetIs A C d.sections) (hrange:∀ s ∈ sw,0 ≤ s ∧ s < 64) :
  Calls Tryz.prog 270 #[.agg #[n,v1,v2,v3,hd],.agg #[u0,u1,u2,u3,u4],zko A C] w fun e w'=>e = .returned (.bool (B (zr2 sw d))) ∧ Below w.heap.size w w':=by
 obtain ⟨av,cv,rfl,hcv⟩:=hsw;obtain ⟨⟨a0,c0,rfl,hc0⟩,⟨a1,c1,rfl,hc1⟩,⟨a2,c2,rfl,hc2⟩,⟨a3,c3,rfl,hc3⟩,⟨a4,c4,rfl,hc4⟩⟩:=hw;obtain ⟨s0,s1,s2,s3,s4⟩:=hs;have HV:=zaa hcv;have H1:=zaa hc1;have H2:=zaa hc2;have HR:=zaa hrange;clear hcv hc0 hc1 hc2 hc3 hc4 hrange;by_cases l1:d.lies.length ≤ 30
 case neg=>
  go_enter Tryz.func270,Tryz.ntmps270;go_wp2;go_ret;exact ⟨zad (zae fun h=>l1 h.1.2).symm,(((Below.refl _ _).alloc (Nat.le_refl _) _).alloc (by simp) _).alloc (by simp; omega) _⟩
 by_cases l2:d.flanks.length ≤ 30
 case neg=>
  go_enter Tryz.func270,Tryz.ntmps270;go_wp2;go_ret;exact ⟨zad (zae fun h=>l2 h.2.1.2).symm,(((Below.refl _ _).alloc (Nat.le_refl _) _).alloc (by simp) _).alloc (by simp; omega) _⟩
 have T0:=Bw.start w 37 122 268 321 n (.slice av sw.length cv) v2 v3 hd (.slice a0 d.sections.length c0) (.slice a1 d.lies.length c1) (.slice a2 d.flanks.length c2) (.slice a3 d.over.length c3) (.slice a4 d.near.length c4) A C _ rfl;rw [zbz (j:=Classical.propDecidable _) (zp5 sw d)];go_enter Tryz.func270,Tryz.ntmps270;go_wp2
 go_loopw [25] (fun i wr=>∃ (k:Nat) (s:Nat → Bool),k ≤ d.lies.length ∧ i = .int .i64 k ∧ (∀ j,j < k → zqq sw d j) ∧ SeenIs s (d.lies.take k) ∧ Bw w 37 122 268 321 (zch n (.slice av sw.length cv) v2 v3 hd) (zch (.slice a0 d.sections.length c0) (.slice a1 d.lies.length c1) (.slice a2 d.flanks.length c2) (.slice a3 d.over.length c3) (.slice a4 d.near.length c4)) A C s wr) (fun i _=>d.lies.length - (intOf i).toNat)
 case atStart=>exact ⟨0,_,Nat.zero_le _,rfl,fun j hj=>by omega,fun i=>by simp,T0⟩
 case round=>
  obtain ⟨k,s,hk,rfl,hok,hseen,T1⟩:=hrel;rename World=>wo;have HO:=zaa hok;have HSE:=zaa hseen;clear hok hseen T0;by_cases hlt:k < d.lies.length
  ·obtain h0 | ⟨b,off,rfl,hb0,hc⟩:=H1.out
   ·omega
   obtain ⟨x,hx⟩:=zac d.lies (zaa rfl) hlt;obtain ⟨g0,g1⟩:=hc k hlt x hx;rw [← T1.below.cell (p:=⟨b,_,none⟩) hb0] at g0 g1;have Hx:=zaa hx;clear hx hc;obtain ⟨⟨p0,p1,p2,p3,p4⟩,⟨q0,q1,q2,q3,q4⟩,⟨o0,o1⟩⟩:=T1.cells;have z1:=T1.one.lt;have z2:=T1.way.lt;have z3:=T1.set.lt;have z4:=T1.seen.lt;have TW:=T1.call (zab _ (.cells #[.int .i64 x.1,.int .i64 x.2] 175));have hq1:∀ W,Calls Tryz.prog 144 #[.agg #[n,.slice av sw.length cv,v2,v3,hd],.agg #[.int .i64 x.1,.int .i64 x.2]] W fun e w'=>e = .returned (.bool (B (InR x.1 0 ((sw.length:Int) - 1) ∧ InR x.2 1 2))) ∧ Below W.heap.size W w':=fun W=>zg8 n av sw.length cv v2 v3 hd x.1 x.2 W (by omega);have HQ1:=zaa hq1;clear hq1
   have l0:(wo.alloc (.cells #[.int .i64 x.1,.int .i64 x.2] 175)).cell? ⟨wo.heap.size,0,none⟩ = some (.int .i64 x.1):=by simp
   have lx1:(wo.alloc (.cells #[.int .i64 x.1,.int .i64 x.2] 175)).cell? ⟨wo.heap.size,1,none⟩ = some (.int .i64 x.2):=by simp
   have hne:=Ext.any (wo.alloc (.cells #[.int .i64 x.1,.int .i64 x.2] 175));have e0:=Ext.cell l0;have e1:=Ext.cell lx1;obtain ⟨⟨p0,p1,p2,p3,p4⟩,⟨-,-,-,-,-⟩,⟨o0,o1⟩⟩:=TW.cells;have E0:=Ext.cell p0;have E1:=Ext.cell p1;have E2:=Ext.cell p2;have E3:=Ext.cell p3;have E4:=Ext.cell p4;have E5:=Ext.cell o0;have E6:=Ext.cell o1;clear p0 p1 p2 p3 p4 o0 o1 l0 lx1;by_cases hin:InR x.1 0 ((sw.length:Int) - 1) ∧ InR x.2 1 2
   case neg=>
    rw [zae hin] at HQ1;have Hin:=zaa hin;clear hin;go_wp2;refine zaj (by kernel_rfl) (by kernel_rfl) ?_
    repeat (go_big_quiet_step ((go_at_call 144; exact zaz (HQ1.out _))))
    refine wpQuiet_nil ?_;rintro _ ⟨nq,rfl⟩;go_wp2;go_ret;exact ⟨zad (zae fun h=>Hin.out (h.2.2.1 k hlt x Hx.out).1).symm,(TW.call nq.below).below⟩
   rw [zam hin] at HQ1;have Hin:=zaa hin;obtain ⟨⟨hx0,hx1⟩,-⟩:=hin
   have hx2:x.1 < (sw.length:Int):=by omega
   have hx3:x.1 < 40:=by omega
   have hx4:x.1.toNat < 40:=by omega
   obtain ⟨sv,hsv⟩:∃ sv,sw[x.1.toNat]? = some sv:=⟨sw[x.1.toNat]'(by omega),List.getElem?_eq_getElem _⟩;obtain h0 | ⟨bv,offv,rfl,hbv,hcv⟩:=HV.out
   ·omega
   have gv:=hcv x.1.toNat (by omega) sv hsv;rw [← TW.below.cell (p:=⟨bv,_,none⟩) hbv] at gv;have E8:=Ext.cell gv;have E7:=Ext.cell (TW.seen.cell hx4);have hsr:=HR.out sv (List.mem_of_getElem? hsv);have hq2:∀ W,Calls Tryz.prog 258 #[zko A C,.int .i64 sv] W fun e w'=>e = .returned (.bool (B (sv ∈ d.sections))) ∧ Below W.heap.size W w':=fun W=>zoc A C d.sections sv W hset hsr.1 hsr.2;have HQ2:=zaa hq2;have Hsv:=zaa hsv;clear hq2 hsv hcv gv hx1 hsr;by_cases hse:s x.1.toNat = true
   ·rw [hse] at E7;have HSS:=zaa hse;clear hse;go_wp2;refine zaj (by kernel_rfl) (by kernel_rfl) ?_
    repeat (go_big_quiet_step ((first | (go_at_call 144; exact zaz (HQ1.out _)) | (go_at_call 258; exact zaz (HQ2.out _)))))
    refine wpQuiet_nil ?_;rintro _ ⟨nq,rfl⟩;go_wp2;go_ret;refine ⟨zad (zae fun h=>?_).symm,(TW.call nq.below).below⟩;obtain ⟨y,hy,hy2⟩:=(HSE.out x.1.toNat).1 HSS.out;obtain ⟨q,hq,hq2⟩:=zke hy;exact (h.2.2.1 k hlt x Hx.out).2.1 q y hq hq2 (by omega)
   have hse':s x.1.toNat = false:=by simpa using hse
   rw [hse'] at E7;have HSS:=zaa hse;clear hse hse';by_cases hon:sv ∈ d.sections
   ·rw [zam hon] at HQ2;have Hon:=zaa hon;clear hon;go_wp2;refine zaj (by kernel_rfl) (by kernel_rfl) ?_
    repeat (go_big_quiet_step ((first | (go_at_call 144; exact zaz (HQ1.out _)) | (go_at_call 258; exact zaz (HQ2.out _)))))
    refine wpQuiet_nil ?_;rintro _ ⟨nq,rfl⟩;have hfr:=(TW.call nq.below).seen.frozen x.1.toNat;have hcl:=E7 nq;go_wp2;go_roundw
    case rel=>exact ⟨k + 1,_,by omega,by go_num,fun j hj=>by
     by_cases e:j = k
     ·subst e; intro z hz; rw [Hx.out] at hz; cases hz;refine ⟨Hin.out,fun q y hq hy e2=>HSS.out ((HSE.out x.1.toNat).2 ⟨y,zkt hq hy,by omega⟩),sv,Hsv.out,Hon.out⟩
     ·exact HO.out j (by omega),by rw [zin Hx.out]; exact SeenIs.snoc HSE.out hx0,(TW.call nq.below).mark x.1.toNat⟩
    case measure=>simp [intOf]; omega
   ·rw [zae hon] at HQ2;have Hon:=zaa hon;clear hon;go_wp2;refine zaj (by kernel_rfl) (by kernel_rfl) ?_
    repeat (go_big_quiet_step ((first | (go_at_call 144; exact zaz (HQ1.out _)) | (go_at_call 258; exact zaz (HQ2.out _)))))
    refine wpQuiet_nil ?_;rintro _ ⟨nq,rfl⟩;go_wp2;go_ret;refine ⟨zad (zae fun h=>?_).symm,(TW.call nq.below).below⟩;obtain ⟨t,ht,ht2⟩:=(h.2.2.1 k hlt x Hx.out).2.2;rw [Hsv.out] at ht
    cases ht
    exact Hon.out ht2
  ·have N1:Hid (∀ j,j < d.lies.length → zqq sw d j):=fun j hj=>HO.out j (by omega)
   have S1:SeenIs s d.lies:=by have:=HSE.out; rw [List.take_of_length_le (by omega)] at this; exact this
   have HS1:=zaa S1;clear HO HSE S1;obtain ⟨⟨p0,p1,p2,p3,p4⟩,⟨q0,q1,q2,q3,q4⟩,⟨o0,o1⟩⟩:=T1.cells;go_wp2;clear p0 p1 p2 p3 p4 q0 q1 q2 q3 q4 o0 o1
   go_loopw [57] (fun i wr=>∃ (k:Nat) (s:Nat → Bool),k ≤ d.flanks.length ∧ i = .int .i64 k ∧ (∀ j,j < k → znu sw d j) ∧ SeenIs s (d.lies ++ d.flanks.take k) ∧ Bw w 37 122 268 321 (zch n (.slice av sw.length cv) v2 v3 hd) (zch (.slice a0 d.sections.length c0) (.slice a1 d.lies.length c1) (.slice a2 d.flanks.length c2) (.slice a3 d.over.length c3) (.slice a4 d.near.length c4)) A C s wr) (fun i _=>d.flanks.length - (intOf i).toNat)
   case atStart=>exact ⟨0,s,Nat.zero_le _,rfl,fun j hj=>by omega,by rw [List.take_zero,List.append_nil]; exact HS1.out,T1⟩
   case round=>
    obtain ⟨k2,s2,hk2,rfl,hok,hseen,T2⟩:=hrel;rename World=>wp;have HO:=zaa hok;have HSE:=zaa hseen;clear hok hseen T1 HS1;obtain ⟨⟨p0,p1,p2,p3,p4⟩,⟨q0,q1,q2,q3,q4⟩,⟨o0,o1⟩⟩:=T2.cells;by_cases hlt2:k2 < d.flanks.length
    ·obtain h0 | ⟨b,off,rfl,hb0,hc⟩:=H2.out
     ·omega
     obtain ⟨x,hx⟩:=zac d.flanks (zaa rfl) hlt2;obtain ⟨g0,g1⟩:=hc k2 hlt2 x hx;rw [← T2.below.cell (p:=⟨b,_,none⟩) hb0] at g0 g1;have Hx:=zaa hx;clear hx hc;have z1:=T2.one.lt;have TW:=T2.call (zab _ (.cells #[.int .i64 x.1,.int .i64 x.2] 175))
     go_wp2_with fail
     clear p0 p1 p2 p3 p4 q0 q1 q2 q3 q4 o0 o1 g0 g1;refine (zg8 n av sw.length cv v2 v3 hd x.1 x.2 _ (by omega)).mono ?_;rintro e w1 ⟨rfl,hb1⟩;have T3:=TW.call hb1;have l0:w1.cell? ⟨wp.heap.size,0,none⟩ = some (.int .i64 x.1):=(hb1.cell (p:=⟨wp.heap.size,0,none⟩) (by simp)).trans (by simp);clear TW hb1;by_cases hin:InR x.1 0 ((sw.length:Int) - 1) ∧ InR x.2 1 2
     case neg=>
      rw [zae hin];have Hin:=zaa hin;clear hin;go_wp2;go_ret;exact ⟨zad (zae fun h=>Hin.out (h.2.2.2 k2 hlt2 x Hx.out).1).symm,T3.below⟩
     rw [zam hin];have Hin:=zaa hin;obtain ⟨⟨hx0,hx1⟩,-⟩:=hin
     have hx3:x.1 < 40:=by omega
     have hx4:x.1.toNat < 40:=by omega
     have E7:=T3.seen.cell hx4;have hfr:=T3.seen.frozen x.1.toNat;clear hx1;by_cases hse:s2 x.1.toNat = true
     ·rw [hse] at E7;have HSS:=zaa hse;clear hse;go_wp2;go_ret;refine ⟨zad (zae fun h=>?_).symm,T3.below⟩;obtain ⟨y,hy,hy2⟩:=(HSE.out x.1.toNat).1 HSS.out;rw [List.mem_append] at hy;rcases hy with hy | hy
      ·exact (h.2.2.2 k2 hlt2 x Hx.out).2.1 y hy (by omega)
      ·obtain ⟨q,hq,hq2⟩:=zke hy;exact (h.2.2.2 k2 hlt2 x Hx.out).2.2 q y hq hq2 (by omega)
     ·have hse':s2 x.1.toNat = false:=by simpa using hse
      rw [hse'] at E7;have HSS:=zaa hse;clear hse hse';go_wp2;go_roundw
      case rel=>exact ⟨k2 + 1,_,by omega,by go_num,fun j hj=>by
       by_cases e:j = k2
       ·subst e; intro z hz; rw [Hx.out] at hz; cases hz;exact ⟨Hin.out,fun y hy e2=>HSS.out ((HSE.out x.1.toNat).2 ⟨y,List.mem_append.2 (.inl hy),by omega⟩),fun q y hq hy e2=>HSS.out ((HSE.out x.1.toNat).2 ⟨y,List.mem_append.2 (.inr (zkt hq hy)),by omega⟩)⟩
       ·exact HO.out j (by omega),by rw [zin Hx.out,← List.append_assoc]; exact SeenIs.snoc HSE.out hx0,T3.mark x.1.toNat⟩
      case measure=>simp [intOf]; omega
    ·go_wp2;go_ret;exact ⟨zad (zam ⟨l1,l2,N1.out,fun j hj=>HO.out j (by omega)⟩).symm,T2.below⟩
end Go.Proofs.YtdhinkgjiapigabGreatDoor
namespace Go.Proofs.YtdhinkgjiapigabGreatDoor
open Go.RowKit Go.Deep
open Classical
theorem ck {W W':World} {b o:Nat} {v:Value} (h:W.cell? ⟨b,o,none⟩ = some v) (hb:Below W.heap.size W W'):W'.cell? ⟨b,o,none⟩ = some v:=
 (hb.cell (p:=⟨b,o,none⟩) (World.block_lt_of_cell? _ _ h)).trans h
theorem zf8 {n:Int} {l:List Int} (h:ListOk n l) (h60:n ≤ 60):∀ x ∈ l,0 ≤ x ∧ x < 64:=by
 intro x hx;obtain ⟨i,hi⟩:=List.getElem?_of_mem hx;have:=(h.1 i (List.getElem?_eq_some_iff.1 hi).1 x hi).1;exact ⟨this.1,by have:=this.2; omega⟩
set_option maxHeartbeats 2000000 in
theorem zpc (n:Int) (hd v1 v2 v3 u0 u1 u2 u3 u4:Value) (sw:List Int) (d:WayD) (w:World) (hsw:Ints (In w) w v1 sw) (hw:WayAt (In w) w u0 u1 u2 u3 u4 d)
  (h60:n ≤ 60) (hm:sw.length ≤ 40) (hs:d.Small 1048576) (hrange:∀ s ∈ sw,0 ≤ s ∧ s < 64) :
  Calls Tryz.prog 254 #[.agg #[.int .i64 n,v1,v2,v3,hd],.agg #[u0,u1,u2,u3,u4]] w fun e w'=>e = .returned (.bool (B (WayOk n sw d))) ∧ Below w.heap.size w w':=by
 have T0:=Bx2.start w 37 122 (.int .i64 n) v1 v2 v3 hd u0 u1 u2 u3 u4;have hk:∀ W,Bx2 w 37 122 (zch (.int .i64 n) v1 v2 v3 hd) (zch u0 u1 u2 u3 u4) W → WayAt (In W) W u0 u1 u2 u3 u4 d ∧ Ints (In W) W v1 sw:=fun W h=>⟨hw.keep (In.keep h.below).1 (In.keep h.below).2,hsw.keep (In.keep h.below).1 (In.keep h.below).2⟩;have HK:=zaa hk;obtain ⟨a0,c0,rfl,-⟩:=hw.1;have HS:=zaa hs;have HR:=zaa hrange;clear hk hsw hw hs hrange;go_enter Tryz.func254,Tryz.ntmps254
 go_wp2_with fail
 refine (zcp n v1 v2 v3 hd _ d.sections _ (HK.out _ T0).1.1 HS.out.1 h60).mono ?_;rintro e w1 ⟨A,C,rfl,hset,hb1⟩;have T1:=T0.call hb1;clear T0 hb1;have HA:=zaa hset;clear hset;have TT1:=T1.call (zab _ (.cells #[.int .u32 (A:Int),.int .u32 (C:Int)] 268))
 have on0:(w1.alloc (.cells #[.int .u32 (A:Int),.int .u32 (C:Int)] 268)).cell? ⟨w1.heap.size,0,none⟩ = some (.int .u32 (A:Int)):=by simp
 have on1:(w1.alloc (.cells #[.int .u32 (A:Int),.int .u32 (C:Int)] 268)).cell? ⟨w1.heap.size,1,none⟩ = some (.int .u32 (C:Int)):=by simp
 obtain ⟨⟨b0,b1,b2,b3,b4⟩,⟨z0,z1,z2,z3,z4⟩⟩:=TT1.cells
 go_wp2_with fail
 refine (zcp n v1 v2 v3 hd _ d.over _ (HK.out _ TT1).1.2.2.2.1 HS.out.2.2.2.1 h60).mono ?_;clear b0 b1 b2 b3 b4 z0 z1 z2 z3 z4 T1;rintro e w2 ⟨A2,C2,rfl,hset,hb1⟩;have T2:=TT1.call hb1;replace on0:=ck on0 hb1;replace on1:=ck on1 hb1;clear TT1 hb1;have HA2:=zaa hset;clear hset;have hbn:=zab w2 (.cells #[.int .u32 (A2:Int),.int .u32 (C2:Int)] 268);have TT2:=T2.call hbn;replace on0:=ck on0 hbn;replace on1:=ck on1 hbn
 have ov0:(w2.alloc (.cells #[.int .u32 (A2:Int),.int .u32 (C2:Int)] 268)).cell? ⟨w2.heap.size,0,none⟩ = some (.int .u32 (A2:Int)):=by simp
 have ov1:(w2.alloc (.cells #[.int .u32 (A2:Int),.int .u32 (C2:Int)] 268)).cell? ⟨w2.heap.size,1,none⟩ = some (.int .u32 (C2:Int)):=by simp
 obtain ⟨⟨b0,b1,b2,b3,b4⟩,⟨z0,z1,z2,z3,z4⟩⟩:=TT2.cells;clear hbn
 go_wp2_with fail
 refine (zcp n v1 v2 v3 hd _ d.near _ (HK.out _ TT2).1.2.2.2.2 HS.out.2.2.2.2 h60).mono ?_;clear b0 b1 b2 b3 b4 z0 z1 z2 z3 z4 T2;rintro e w3 ⟨A3,C3,rfl,-,hb1⟩;have T3:=TT2.call hb1;replace on0:=ck on0 hb1;replace on1:=ck on1 hb1;replace ov0:=ck ov0 hb1;replace ov1:=ck ov1 hb1;clear TT2 hb1;have hbn:=zab w3 (.cells #[.int .u32 (A3:Int),.int .u32 (C3:Int)] 268);have TT3:=T3.call hbn;replace on0:=ck on0 hbn;replace on1:=ck on1 hbn;replace ov0:=ck ov0 hbn;replace ov1:=ck ov1 hbn;obtain ⟨⟨b0,b1,b2,b3,b4⟩,⟨z0,z1,z2,z3,z4⟩⟩:=TT3.cells;clear hbn T3;by_cases q0:ListOk n d.sections
 case neg=>
  rw [zae q0];have Q:=zaa q0;clear q0;go_wp2;go_ret;exact ⟨zad (zae fun h=>Q.out h.2.1).symm,TT3.below⟩
 rw [zam q0];by_cases q1:ListOk n d.over
 case neg=>
  rw [zae q1];have Q:=zaa q1;clear q1;go_wp2;go_ret;exact ⟨zad (zae fun h=>Q.out h.2.2.1).symm,TT3.below⟩
 rw [zam q1];by_cases q2:ListOk n d.near
 case neg=>
  rw [zae q2];have Q:=zaa q2;clear q2;go_wp2;go_ret;exact ⟨zad (zae fun h=>Q.out h.2.2.2.1).symm,TT3.below⟩
 rw [zam q2];have Q0:=zaa q0;have Q1:=zaa q1;have Q2:=zaa q2;clear q0 q1 q2;by_cases hz:0 < d.sections.length
 case neg=>
  have Hz:=zaa hz;go_wp2;go_ret;exact ⟨zad (zae fun h=>h.1 (List.length_eq_zero_iff.1 (by have:=Hz.out; omega))).symm,TT3.below⟩
 go_wp2_with fail
 refine (zfc A C A2 C2 d.sections d.over _ (HA.out Q0.out) (HA2.out Q1.out) (zf8 Q0.out h60)).mono ?_;clear b0 b1 b2 b3 b4 z0 z1 z2 z3 z4;rintro e w4 ⟨rfl,hb1⟩;have T4:=TT3.call hb1;replace on0:=ck on0 hb1;replace on1:=ck on1 hb1;clear TT3 hb1 ov0 ov1;obtain ⟨⟨b0,b1,b2,b3,b4⟩,⟨z0,z1,z2,z3,z4⟩⟩:=T4.cells;by_cases hmt:Meet d.sections d.over
 case pos=>
  rw [zam hmt];have HM:=zaa hmt;clear hmt;go_wp2;go_ret;exact ⟨zad (zae fun h=>h.2.2.2.2.2.2.2 HM.out.symm).symm,T4.below⟩
 rw [zae hmt];have HM:=zaa hmt;clear hmt
 go_wp2_with fail
 refine (zh2 (.int .i64 n) hd v2 v3 v1 _ _ _ _ _ sw d A C _ (HK.out _ T4).2 (HK.out _ T4).1 hm HS.out (HA.out Q0.out) HR.out).mono ?_;clear b0 b1 b2 b3 b4 z0 z1 z2 z3 z4 on0 on1;rintro e w5 ⟨rfl,hb1⟩;have T5:=T4.call hb1;clear T4 hb1;go_wp2;go_ret;refine ⟨zad ?_,T5.below⟩;refine zbz ⟨fun h=>⟨fun e=>by rw [e] at hz; exact absurd hz (by simp),Q0.out,Q1.out,Q2.out,h.1,h.2.1,h.2.2,fun h=>HM.out h.symm⟩,fun h=>⟨h.2.2.2.2.1,h.2.2.2.2.2.1,h.2.2.2.2.2.2.1⟩⟩
end Go.Proofs.YtdhinkgjiapigabGreatDoor
namespace Go.Proofs.YtdhinkgjiapigabGreatDoor
open Go.RowKit Go.Deep
open Classical
theorem Tryz.infoSet:(Tryz.prog.info? 268).map (fun i=>(i.zero,i.size,i.bytes)) = some (some (.agg #[.int .u32 0,.int .u32 0]),2,8):=by kernel_rfl
def Sets (P:Nat → Prop) (w:World) (v:Value) (l:List WayD):Prop:=
 Sl P v l.length fun b off i=>∀ x,l[i]? = some x → ∃ A C,SetIs A C x.sections ∧ w.cell? ⟨b,off + i * 2,none⟩ = some (.int .u32 (A:Int)) ∧ w.cell? ⟨b,off + i * 2 + 1,none⟩ = some (.int .u32 (C:Int))
theorem Sets.keep {P Q:Nat → Prop} {w w':World} {v:Value} {l:List WayD} (h:Sets P w v l) (hs:Same P w w') (hP:∀ b,P b → Q b):Sets Q w' v l:=
 Sl.imp h hP fun b off i hb _ he x hx=>by
  obtain ⟨A,C,h1,h2,h3⟩:=he x hx
  exact ⟨A,C,h1,by rw [hs b hb]; exact h2,by rw [hs b hb]; exact h3⟩
theorem zgs {W W':World} {base:Nat} {e:TypeId} {size:Nat} {v:Value} {n:Nat} {xs:List Value} (h:W.ownsRow base e size v n xs) (hb:Below W.heap.size W W'):W'.ownsRow base e size v n xs:=by
 obtain ⟨h1,h2 | ⟨g,cap,cur,hv,hg,hblk,hr⟩⟩:=h
 ·exact ⟨h1,.inl h2⟩
 ·refine ⟨h1,.inr ⟨g,cap,cur,hv,hg,?_,hr⟩⟩
  have hlt:g < W.heap.size:=by
   rcases Nat.lt_or_ge g W.heap.size with e | e
   ·exact e
   ·rw [Array.getElem?_eq_none e] at hblk; cases hblk
  rw [hb.block g hlt]; exact hblk
def Words (l:List WayD) (k:Nat) (xs:List Value):Prop:=xs.length = k * 2 ∧ ∀ j x,j < k → l[j]? = some x → ∃ A C,SetIs A C x.sections ∧ xs[j * 2]? = some (.int .u32 ((A:Nat):Int)) ∧ xs[j * 2 + 1]? = some (.int .u32 ((C:Nat):Int))
theorem Words.snoc {l:List WayD} {k:Nat} {xs:List Value} (h:Words l k xs) {x:WayD} {A C:Nat} (hx:l[k]? = some x) (hs:SetIs A C x.sections):Words l (k + 1) (xs ++ [.int .u32 (A:Int),.int .u32 (C:Int)]):=by
 refine ⟨by rw [List.length_append,h.1]; simp; omega,fun j y hj hy=>?_⟩;by_cases e:j = k
 ·subst e;rw [hx] at hy; cases hy;refine ⟨A,C,hs,?_,?_⟩
  ·rw [List.getElem?_append_right (by rw [h.1]; exact Nat.le_refl _),h.1,Nat.sub_self]; rfl
  ·rw [List.getElem?_append_right (by rw [h.1]; omega),h.1,show j * 2 + 1 - j * 2 = 1 by omega]; rfl
 ·obtain ⟨A',C',h1,h2,h3⟩:=h.2 j y (by omega) hy;exact ⟨A',C',h1,by rw [List.getElem?_append_left (by rw [h.1]; omega)]; exact h2,by rw [List.getElem?_append_left (by rw [h.1]; omega)]; exact h3⟩
theorem Sets.made {w W:World} {l:List WayD} {n g base:Nat} {e:TypeId} {xs:List Value} (hn:l.length = n) (h:W.ownsRow base e 2 (.slice (some ⟨g,0,none⟩) n n) n xs) (hw:Words l n xs) (hg:w.heap.size ≤ g):Sets (New w W) W (.slice (some ⟨g,0,none⟩) n n) l:=by
 subst hn;obtain ⟨h1,⟨h2,h3⟩ | ⟨g',cap,cur,hv,hb,hblk,hc1,hc2,hc3,hc4⟩⟩:=h
 ·exact ⟨_,_,rfl,.inl h3⟩
 ·cases hv
  have hlt:g < W.heap.size:=by
   rcases Nat.lt_or_ge g W.heap.size with e | e
   ·exact e
   ·rw [Array.getElem?_eq_none e] at hblk; cases hblk
  refine ⟨_,_,rfl,.inr ⟨g,0,rfl,⟨hg,hlt⟩,fun i hi x hx=>?_⟩⟩;obtain ⟨A,C,p1,p2,p3⟩:=hw.2 i x hi hx;refine ⟨A,C,p1,?_,?_⟩
  ·rw [← hc4,List.getElem?_take,if_pos (by omega)] at p2;simp only [World.cell?,hblk,Nat.zero_add];simpa using p2
  ·rw [← hc4,List.getElem?_take,if_pos (by omega)] at p3;simp only [World.cell?,hblk,Nat.zero_add];simpa using p3
set_option maxHeartbeats 2000000 in
theorem zlt (n:Int) (v1 v2 v3 hd:Value) (l:List WayD) (w:World) (hv:Ways (In w) w v2 l) (hl:l.length ≤ 100) (hsm:∀ x ∈ l,x.Small 1048576) (h60:n ≤ 60) (hok:∀ x ∈ l,ListOk n x.sections) :
  Calls Tryz.prog 255 #[.agg #[.int .i64 n,v1,v2,v3,hd]] w fun e w'=>∃ v,e = .returned v ∧ Sets (New w w') w' v l ∧ Below w.heap.size w w':=by
 have T0:=Bx1.start w 37 (.int .i64 n) v1 v2 v3 hd;obtain ⟨a,cap,rfl,hc⟩:=hv;generalize hn':l.length = m at *;have Hn:Hid (l.length = m):=hn';have HC:=zaa hc;have HSM:=zaa hsm;have HOK:=zaa hok;clear hc hn' hsm hok
 obtain ⟨i0,hi,hz0,hz1,hz2⟩:∃ i,Tryz.prog.info? 268 = some i ∧ i.zero = some (.agg #[.int .u32 0,.int .u32 0]) ∧ i.size = 2 ∧ i.bytes = 8:=by
  have h:=Tryz.infoSet
  cases hi:Tryz.prog.info? 268 with
  | none=>rw [hi] at h; cases h
  | some i=>
   rw [hi] at h;simp only [Option.map_some,Option.some.injEq,Prod.mk.injEq] at h;exact ⟨i,rfl,h.1,h.2.1,h.2.2⟩
 have hmk:∀ W:World,(Instr.makeSlice 303 (.int .i64 0) (.int .i64 (m:Int))).run Tryz.prog W = .ok (.slice (some ⟨W.heap.size,0,none⟩) 0 m) (W.alloc (.cells (madeCells #[.int .u32 0,.int .u32 0] (m * 2)) 268)):=fun W=>by
  have:=run_make (P:=Tryz.prog) W 303 268 i0 _ Tryz.underlying303 hi hz0 .i64 .i64 0 m (by omega) (by omega) (by rw [hz2,← Int.natCast_mul]; omega) (by omega);rw [hz1] at this;simpa [Value.cells] using this
 have hown0:((w.alloc (.cells #[.int .i64 n,v1,.slice a m cap,v3,hd] 37)).alloc (.cells (madeCells #[.int .u32 0,.int .u32 0] (m * 2)) 268)).ownsRow (w.heap.size + 1) 268 2 (.slice (some ⟨w.heap.size + 1,0,none⟩) 0 m) 0 []:=by
  have:=World.ownsRow_made (e:=268) (size:=2) (base:=w.heap.size + 1) (w.alloc (.cells #[.int .i64 n,v1,.slice a m cap,v3,hd] 37)) (madeCells #[.int .u32 0,.int .u32 0] (m * 2)) m (by simp) (by unfold maxLen; omega) (size_madeCells _ _);simpa using this
 have HI:=zaa hi;have HZ:=zaa hz1;clear hi hz0 hz1 hz2;have TT0:=T0.call (zab _ (.cells (madeCells #[.int .u32 0,.int .u32 0] (m * 2)) 268));go_enter Tryz.func255,Tryz.ntmps255;go_wp2
 go_loopw [3,15] (fun s i wr=>∃ (k:Nat) (xs:List Value),k ≤ m ∧ i = .int .i64 k ∧ s = .slice (some ⟨w.heap.size + 1,0,none⟩) k m ∧ wr.ownsRow (w.heap.size + 1) 268 2 (.slice (some ⟨w.heap.size + 1,0,none⟩) k m) k xs ∧ Words l k xs ∧ Bx1 w 37 (zch (.int .i64 n) v1 (.slice a m cap) v3 hd) wr) (fun _ i _=>m - (intOf i).toNat)
 case atStart=>exact ⟨0,[],Nat.zero_le _,rfl,rfl,hown0,⟨rfl,fun j _ hj=>by omega⟩,TT0⟩
 case round=>
  obtain ⟨k,xs,hk,rfl,rfl,hown,hwd,T1⟩:=hrel;rename World=>wo;have HW:=zaa hwd;have HOW:=zaa hown;clear hwd hown T0 TT0 hown0 hmk;obtain ⟨b0,b1,b2,b3,b4⟩:=T1.cells;by_cases hlt:k < m
  ·obtain h0 | ⟨b,off,rfl,hb0,hc⟩:=HC.out
   ·omega
   obtain ⟨x,hx⟩:=zac l Hn hlt;obtain ⟨u0,u1,u2,u3,u4,hw,g0,g1,g2,g3,g4⟩:=hc k hlt x hx;rw [← T1.below.cell (p:=⟨b,_,none⟩) hb0] at g0 g1 g2 g3 g4;have hsx:=HSM.out x (List.mem_of_getElem? hx);have hox:=HOK.out x (List.mem_of_getElem? hx);have Hx:=zaa hx;have hz:=T1.one.lt;have T2:=T1.call (zab _ (.cells #[u0,u1,u2,u3,u4] 122));have HO2:=zaa (zgs HOW.out (zab _ (.cells #[u0,u1,u2,u3,u4] 122)));have hq:=zcp n v1 (.slice (some ⟨b,off,none⟩) m cap) v3 hd u0 x.sections _ (hw.1.keep (In.keep T2.below).1 (In.keep T2.below).2) hsx.1 h60;have HQ:=zaa hq;obtain ⟨⟨p0,o0,rfl,-⟩,⟨p1,o1,rfl,-⟩,⟨p2,o2,rfl,-⟩,⟨p3,o3,rfl,-⟩,⟨p4,o4,rfl,-⟩⟩:=hw;clear hx hc hsx hq HOW
   go_wp2_with fail
   refine HQ.out.mono ?_;clear b0 b1 b2 b3 b4 g0 g1 g2 g3 g4 hz HQ;rintro e w1 ⟨A,C,rfl,hset,hb1⟩;have hset:=hset hox;have HST:=zaa hset;have T3:=T2.call hb1;have HO3:=zaa (zgs HO2.out hb1);clear hset T1 T2 HO2 hb1;have hb2:=zab w1 (.cells #[.int .u32 (A:Int),.int .u32 (C:Int)] 268);have T4:=T3.call hb2;have HO4:=zgs HO3.out hb2;have hb3:=zab (w1.alloc (.cells #[.int .u32 (A:Int),.int .u32 (C:Int)] 268)) (.cells #[.int .u32 (A:Int),.int .u32 (C:Int)] 268);have T5:=T4.call hb3;have HO5:=zaa (zgs HO4 hb3);clear HO4 HO3 hb2 hb3 T3 T4
   go_wp2_with (at_builtin; refine wpList_append_fits _ rfl _ _ 303 rfl (w.heap.size + 1) 268 i0 2 Tryz.underlying303 HI.out HZ.out (w.heap.size + 1) k m xs rfl HO5.out ⟨w1.heap.size + 1,0,none⟩ 1 1 [.int .u32 (A:Int),.int .u32 (C:Int)] rfl rfl ?c1 ?c2 ?c3 ?_)
   case c1=>
    intro j u hj
    match j,hj with
    | 0,hj=>simp at hj; subst hj; simp [Addr.add]
    | 1,hj=>simp at hj; subst hj; simp [Addr.add]
   case c2=>intro u hu; simp at hu; rcases hu with rfl | rfl <;> rfl
   case c3=>omega
   intro w2 hown2 hgrow
   have T6:Bx1 w 37 (zch (.int .i64 n) v1 (.slice (some ⟨b,off,none⟩) m cap) v3 hd) w2:=
    ⟨T5.below.grown hgrow T5.below.size (fun k hk=>by cases hk; omega),T5.one.of_block (hgrow.block _ T5.one.lt (fun e=>by have:=Option.some.inj e; omega))⟩
   have HO6:=zaa hown2;clear T5 HO5 hown2 hgrow;go_wp2;go_roundw
   case rel=>exact ⟨k + 1,_,by omega,by go_num,rfl,HO6.out,HW.out.snoc Hx.out HST.out,T6⟩
   case measure=>simp [intOf]; omega
  ·go_wp2;go_ret
   have hkm:k = m:=by omega
   subst hkm;exact ⟨.slice (some ⟨w.heap.size + 1,0,none⟩) k k,rfl,Sets.made Hn.out HOW.out HW.out (by omega),T1.below⟩
end Go.Proofs.YtdhinkgjiapigabGreatDoor
namespace Go.Proofs.YtdhinkgjiapigabGreatDoor
open Go.RowKit Go.Deep
open Classical
abbrev zqu (c a:Int):Value:=.iface 205 (.agg #[.int .i64 c,.int .i64 a])
set_option maxHeartbeats 1000000 in
theorem zhs (v1 v2 v3:Value) (d:PlanD) (w:World) (hp:PlanAt (In w) w v1 v2 v3 d) (hs:d.Small 1048576) :
  Calls Tryz.prog 219 #[.agg #[.int .i64 d.sections,v1,v2,v3,.int .i64 d.hold]] w fun e w'=>∃ v,e = .returned v ∧ ((zmm d ∧ v = zqu 1 0) ∨ (¬ zmm d ∧ v = .nilIface)) ∧ Below w.heap.size w w':=by
 obtain ⟨⟨a1,c1,rfl,-⟩,⟨a2,c2,rfl,-⟩,-⟩:=hp;obtain ⟨hs1,hs2,-⟩:=hs;by_cases q0:1 ≤ d.sections
 case neg=>
  go_enter Tryz.func219,Tryz.ntmps219;go_wp2;go_ret;exact ⟨_,rfl,.inl ⟨fun h=>by have:=h.1.1; omega,rfl⟩,zab _ _⟩
 by_cases q1:d.sections ≤ 60
 case neg=>
  go_enter Tryz.func219,Tryz.ntmps219;go_wp2;go_ret;exact ⟨_,rfl,.inl ⟨fun h=>by have:=h.1.2; omega,rfl⟩,zab _ _⟩
 by_cases q2:1 ≤ d.hold
 case neg=>
  go_enter Tryz.func219,Tryz.ntmps219;go_wp2;go_ret;exact ⟨_,rfl,.inl ⟨fun h=>by have:=h.2.2.2.1; omega,rfl⟩,zab _ _⟩
 by_cases q3:d.hold ≤ 300
 case neg=>
  go_enter Tryz.func219,Tryz.ntmps219;go_wp2;go_ret;exact ⟨_,rfl,.inl ⟨fun h=>by have:=h.2.2.2.2; omega,rfl⟩,zab _ _⟩
 by_cases q4:d.switches.length ≤ 40
 case neg=>
  go_enter Tryz.func219,Tryz.ntmps219;go_wp2;go_ret;exact ⟨_,rfl,.inl ⟨fun h=>by have:=h.2.1; omega,rfl⟩,zab _ _⟩
 by_cases q5:d.ways.length ≤ 100
 case neg=>
  go_enter Tryz.func219,Tryz.ntmps219;go_wp2;go_ret;exact ⟨_,rfl,.inl ⟨fun h=>by have:=h.2.2.1; omega,rfl⟩,zab _ _⟩
 go_enter Tryz.func219,Tryz.ntmps219;go_wp2;go_ret;exact ⟨_,rfl,.inr ⟨fun h=>h ⟨⟨q0,q1⟩,q4,q5,q2,q3⟩,rfl⟩,zab _ _⟩
set_option maxHeartbeats 1000000 in
theorem zfr (v1 v2 v3:Value) (d:PlanD) (w:World) (hp:PlanAt (In w) w v1 v2 v3 d) (hs:d.Small 1048576) :
  Calls Tryz.prog 220 #[.agg #[.int .i64 d.sections,v1,v2,v3,.int .i64 d.hold]] w fun e w'=>∃ v,e = .returned v ∧ ((∃ k:Nat,First (zjw d) k ∧ v = zqu 2 k) ∨ ((∀ k,¬ zjw d k) ∧ v = .nilIface)) ∧ Below w.heap.size w w':=by
 have T0:=Bx1.start w 37 (.int .i64 d.sections) v1 v2 v3 (.int .i64 d.hold);obtain ⟨⟨a1,c1,rfl,hc1⟩,-,-⟩:=hp;obtain ⟨hs1,-⟩:=hs;have H1:=zaa hc1;clear hc1;go_enter Tryz.func220,Tryz.ntmps220;go_wp2
 go_loopw [8] (fun i wr=>∃ (k:Nat),k ≤ d.switches.length ∧ i = .int .i64 k ∧ (∀ j,j < k → ¬ zjw d j) ∧ Bx1 w 37 (zch (.int .i64 d.sections) (.slice a1 d.switches.length c1) v2 v3 (.int .i64 d.hold)) wr) (fun i _=>d.switches.length - (intOf i).toNat)
 case atStart=>exact ⟨0,Nat.zero_le _,rfl,fun j hj=>by omega,T0⟩
 case round=>
  obtain ⟨k,hk,rfl,hok,T1⟩:=hrel;have HO:=zaa hok;clear hok T0;obtain ⟨b0,b1,b2,b3,b4⟩:=T1.cells;by_cases hlt:k < d.switches.length
  ·obtain h0 | ⟨b,off,rfl,hb0,hc⟩:=H1.out
   ·omega
   obtain ⟨x,hx⟩:=zac d.switches (zaa rfl) hlt;have g0:=hc k hlt x hx;rw [← T1.below.cell (p:=⟨b,_,none⟩) hb0] at g0;have Hx:=zaa hx;clear hx hc
   go_wp2_with fail
   refine (zds d.sections x _ _ _ _ _).mono ?_;clear b0 b1 b2 b3 b4 g0;rintro e w1 ⟨rfl,hb1⟩;have T2:=T1.call hb1;clear T1 hb1;by_cases hin:InR x 0 (d.sections - 1)
   ·rw [zam hin];have Hin:=zaa hin;clear hin;go_wp2;go_roundw
    case rel=>exact ⟨k + 1,by omega,by go_num,zcq HO.out fun h=>(zgo Hx.out).1 h Hin.out,T2⟩
    case measure=>simp [intOf]; omega
   ·rw [zae hin];have Hin:=zaa hin;clear hin;go_wp2;go_ret;exact ⟨_,rfl,.inl ⟨k,⟨(zgo Hx.out).2 Hin.out,HO.out⟩,rfl⟩,T2.below⟩
  ·go_wp2;go_ret;exact ⟨_,rfl,.inr ⟨no2 HO.out (by omega),rfl⟩,T1.below⟩
set_option maxHeartbeats 1000000 in
theorem zi3 (v1 v2 v3:Value) (d:PlanD) (w:World) (hp:PlanAt (In w) w v1 v2 v3 d) (hs:d.Small 1048576) (n1:¬ zmm d) (n2:∀ k,¬ zjw d k) :
  Calls Tryz.prog 221 #[.agg #[.int .i64 d.sections,v1,v2,v3,.int .i64 d.hold]] w fun e w'=>∃ v,e = .returned v ∧ ((∃ k:Nat,First (zk1 d) k ∧ v = zqu 3 k) ∨ ((∀ k,¬ zk1 d k) ∧ v = .nilIface)) ∧ Below w.heap.size w w':=by
 have T0:=Bx1.start w 37 (.int .i64 d.sections) v1 v2 v3 (.int .i64 d.hold);have hk:∀ W,Bx1 w 37 (zch (.int .i64 d.sections) v1 v2 v3 (.int .i64 d.hold)) W → PlanAt (In W) W v1 v2 v3 d:=fun W h=>hp.keep (In.keep h.below).1 (In.keep h.below).2;have HK:=zaa hk;obtain ⟨-,⟨a2,c2,rfl,hc2⟩,-⟩:=hp;obtain ⟨-,hs2,hs3,-⟩:=hs;have H2:=zaa hc2;have HS3:=zaa hs3;obtain ⟨⟨s1,s60⟩,q1,-,-⟩:=Classical.byContradiction fun h=>n1 h
 have HR:Hid (∀ s ∈ d.switches,0 ≤ s ∧ s < 64):=fun s hs=>by
  obtain ⟨i,hi⟩:=List.getElem?_of_mem hs;have:=Classical.byContradiction fun h=>n2 i ⟨s,hi,h⟩;exact ⟨this.1,by have:=this.2; omega⟩
 clear hc2 hs3 hk n1 n2;go_enter Tryz.func221,Tryz.ntmps221;go_wp2
 go_loopw [8] (fun i wr=>∃ (k:Nat),k ≤ d.ways.length ∧ i = .int .i64 k ∧ (∀ j,j < k → ¬ zk1 d j) ∧ Bx1 w 37 (zch (.int .i64 d.sections) v1 (.slice a2 d.ways.length c2) v3 (.int .i64 d.hold)) wr) (fun i _=>d.ways.length - (intOf i).toNat)
 case atStart=>exact ⟨0,Nat.zero_le _,rfl,fun j hj=>by omega,T0⟩
 case round=>
  obtain ⟨k,hk,rfl,hok,T1⟩:=hrel;have HO:=zaa hok;clear hok T0;obtain ⟨b0,b1,b2,b3,b4⟩:=T1.cells;by_cases hlt:k < d.ways.length
  ·obtain h0 | ⟨b,off,rfl,hb0,hc⟩:=H2.out
   ·omega
   obtain ⟨x,hx⟩:=zac d.ways (zaa rfl) hlt;obtain ⟨u0,u1,u2,u3,u4,hw,g0,g1,g2,g3,g4⟩:=hc k hlt x hx;rw [← T1.below.cell (p:=⟨b,_,none⟩) hb0] at g0 g1 g2 g3 g4;have hsx:=HS3.out x (List.mem_of_getElem? hx);have Hx:=zaa hx;have hz:=T1.one.lt;have T2:=T1.call (zab _ (.cells #[u0,u1,u2,u3,u4] 122));have hq:=zpc d.sections (.int .i64 d.hold) v1 (.slice (some ⟨b,off,none⟩) d.ways.length c2) v3 u0 u1 u2 u3 u4 d.switches x _ (HK.out _ T2).1 (hw.keep (In.keep T2.below).1 (In.keep T2.below).2) s60 q1 hsx HR.out;have HQ:=zaa hq;obtain ⟨⟨p0,o0,rfl,-⟩,⟨p1,o1,rfl,-⟩,⟨p2,o2,rfl,-⟩,⟨p3,o3,rfl,-⟩,⟨p4,o4,rfl,-⟩⟩:=hw;clear hx hc hsx hq
   go_wp2_with fail
   refine HQ.out.mono ?_;clear b0 b1 b2 b3 b4 g0 g1 g2 g3 g4 hz HQ;rintro e w1 ⟨rfl,hb1⟩;have T3:=T2.call hb1;clear T1 T2 hb1;by_cases hin:WayOk d.sections d.switches x
   ·rw [zam hin];have Hin:=zaa hin;clear hin;go_wp2;go_roundw
    case rel=>exact ⟨k + 1,by omega,by go_num,zcq HO.out fun h=>(ze5 Hx.out).1 h Hin.out,T3⟩
    case measure=>simp [intOf]; omega
   ·rw [zae hin];have Hin:=zaa hin;clear hin;go_wp2;go_ret;exact ⟨_,rfl,.inl ⟨k,⟨(ze5 Hx.out).2 Hin.out,HO.out⟩,rfl⟩,T3.below⟩
  ·go_wp2;go_ret;exact ⟨_,rfl,.inr ⟨no3 HO.out (by omega),rfl⟩,T1.below⟩
set_option maxHeartbeats 1000000 in
theorem zi2 (v1 v2 v3:Value) (d:PlanD) (w:World) (hp:PlanAt (In w) w v1 v2 v3 d) (hs:d.Small 1048576) :
  Calls Tryz.prog 222 #[.agg #[.int .i64 d.sections,v1,v2,v3,.int .i64 d.hold]] w fun e w'=>∃ v,e = .returned v ∧ ((d.bars.length ≠ d.ways.length ∧ v = zqu 4 0) ∨ (d.bars.length = d.ways.length ∧ ((∃ k:Nat,First (zlv d) k ∧ v = zqu 4 k) ∨ ((∀ k,¬ zlv d k) ∧ v = .nilIface)))) ∧ Below w.heap.size w w':=by
 have T0:=Bx1.start w 37 (.int .i64 d.sections) v1 v2 v3 (.int .i64 d.hold);obtain ⟨-,⟨a2,c2,rfl,-⟩,⟨a3,c3,rfl,hc3⟩⟩:=hp;obtain ⟨-,hs2,-,hs4,hs5⟩:=hs;have H3:=zaa hc3;have HS5:=zaa hs5;clear hc3 hs5;by_cases hlen:d.bars.length = d.ways.length
 case neg=>
  have hl':((d.bars.length:Int) != (d.ways.length:Int)) = true:=by simp; omega
  have Hl:=zaa hlen;clear hlen;go_enter Tryz.func222,Tryz.ntmps222;go_wp2;go_ret;exact ⟨_,rfl,.inl ⟨Hl.out,rfl⟩,T0.below⟩
 have hl':((d.bars.length:Int) != (d.ways.length:Int)) = false:=by simp; omega
 have Hl:=zaa hlen;clear hlen;go_enter Tryz.func222,Tryz.ntmps222;go_wp2
 go_loopw [17] (fun i wr=>∃ (k:Nat),k ≤ d.bars.length ∧ i = .int .i64 k ∧ (∀ j,j < k → ¬ zlv d j) ∧ Bx1 w 37 (zch (.int .i64 d.sections) v1 (.slice a2 d.ways.length c2) (.slice a3 d.bars.length c3) (.int .i64 d.hold)) wr) (fun i _=>d.bars.length - (intOf i).toNat)
 case atStart=>exact ⟨0,Nat.zero_le _,rfl,fun j hj=>by omega,T0⟩
 case round=>
  obtain ⟨k3,hk3,rfl,hok,T3⟩:=hrel;have HO:=zaa hok;clear hok T0;obtain ⟨b0,b1,b2,b3,b4⟩:=T3.cells;by_cases hlt3:k3 < d.bars.length
  ·obtain h0 | ⟨b,off,rfl,hb0,hc⟩:=H3.out
   ·omega
   obtain ⟨x,hx⟩:=zac d.bars (zaa rfl) hlt3;obtain ⟨u0,⟨p0,o0,rfl,-⟩,g0⟩:=hc k3 hlt3 x hx;rw [← T3.below.cell (p:=⟨b,_,none⟩) hb0] at g0;have Hx:=zaa hx;clear hx hc;by_cases hin:x.length = d.ways.length
   ·have hin':((x.length:Int) != (d.ways.length:Int)) = false:=by simp; omega
    have Hin:=zaa hin;clear hin;go_wp2;go_roundw
    case rel=>exact ⟨k3 + 1,by omega,by go_num,zcq HO.out fun h=>(zec Hx.out).1 h Hin.out,T3⟩
    case measure=>simp [intOf]; omega
   ·have hin':((x.length:Int) != (d.ways.length:Int)) = true:=by simp; omega
    have Hin:=zaa hin;clear hin;go_wp2;go_ret;exact ⟨_,rfl,.inr ⟨Hl.out,.inl ⟨k3,⟨(zec Hx.out).2 Hin.out,HO.out⟩,rfl⟩⟩,T3.below⟩
  ·go_wp2;go_ret;exact ⟨_,rfl,.inr ⟨Hl.out,.inr ⟨no4 HO.out (by omega),rfl⟩⟩,T3.below⟩
end Go.Proofs.YtdhinkgjiapigabGreatDoor
namespace Go.Proofs.YtdhinkgjiapigabGreatDoor
open Go.RowKit Go.Deep
open Classical
set_option maxRecDepth 100000 in
set_option maxHeartbeats 4000000 in
theorem zi0 (v1 v2 v3:Value) (d:PlanD) (w:World) (hp:PlanAt (In w) w v1 v2 v3 d) (hs:d.Small 1048576) (n1:¬ zmm d) (n3:∀ k,¬ zk1 d k) (hlen:d.bars.length = d.ways.length) (n4:∀ k,¬ zlv d k) :
  Calls Tryz.prog 223 #[.agg #[.int .i64 d.sections,v1,v2,v3,.int .i64 d.hold]] w fun e w'=>∃ v,e = .returned v ∧ ((∃ k:Nat,First (zhq d) k ∧ v = zqu 5 k) ∨ ((∀ k,¬ zhq d k) ∧ v = .nilIface)) ∧ Below w.heap.size w w':=by
 have T0:=Bx1.start w 37 (.int .i64 d.sections) v1 v2 v3 (.int .i64 d.hold);have hk:∀ W,Bx1 w 37 (zch (.int .i64 d.sections) v1 v2 v3 (.int .i64 d.hold)) W → PlanAt (In W) W v1 v2 v3 d:=fun W h=>hp.keep (In.keep h.below).1 (In.keep h.below).2;have HK:=zaa hk;obtain ⟨-,⟨a2,c2,rfl,-⟩,⟨a3,c3,rfl,hc3⟩⟩:=hp;obtain ⟨-,-,hs3,-,-⟩:=hs;have HS3:=zaa hs3;have H3:=zaa hc3;have Hl:=zaa hlen;have N4:=zaa n4;obtain ⟨⟨s1,s60⟩,-,q2,-⟩:=Classical.byContradiction fun h=>n1 h
 have HOK:Hid (∀ x ∈ d.ways,ListOk d.sections x.sections):=fun x hx=>by
  obtain ⟨i,hi⟩:=List.getElem?_of_mem hx;exact (Classical.byContradiction fun h=>n3 i ⟨x,hi,h⟩:WayOk d.sections d.switches x).2.1
 clear hk hc3 hs3 hlen n1 n3 n4;go_enter Tryz.func223,Tryz.ntmps223
 go_wp2_with fail
 refine (zlt d.sections v1 _ _ _ d.ways _ (HK.out _ T0).2.1 q2 HS3.out s60 HOK.out).mono ?_;rintro e w1 ⟨vs,rfl,hsets,hb1⟩;have T1:=T0.call hb1;have hsets1:=hsets.keep (zax _ _) (Q:=In w1) fun b hb=>hb.2;obtain ⟨asv,csv,rfl,hcs⟩:=hsets1;have HSE:=zaa hcs;clear T0 hb1 hsets hcs;obtain ⟨b0,b1,b2,b3,b4⟩:=T1.cells;go_wp2;clear b0 b1 b2 b3 b4;have W1:Hid (Below w1.heap.size w1 w1):=Below.refl _ _
 go_loopw [11] (fun i wr=>∃ (k:Nat),k ≤ d.ways.length ∧ i = .int .i64 k ∧ (∀ j,j < k → ¬ zhq d j) ∧ Below w1.heap.size w1 wr) (fun i _=>d.ways.length - (intOf i).toNat)
 case atStart=>exact ⟨0,Nat.zero_le _,rfl,fun j hj=>by omega,Below.refl _ _⟩
 case round=>
  obtain ⟨i,hi,rfl,hok,hb1⟩:=hrel;rename World=>wo;have HO:=zaa hok;have HB1:=zaa hb1;clear hok hb1;by_cases hlt:i < d.ways.length
  ·have hlti:i < d.bars.length:=by have:=Hl.out; omega
   obtain h0 | ⟨b,off,rfl,hb0,hc⟩:=H3.out
   ·omega
   obtain h0 | ⟨bs,os,rfl,hbs,hcs⟩:=HSE.out
   ·omega
   obtain ⟨ri,hri⟩:=zac d.bars (zaa rfl) hlti;have hril:ri.length = d.ways.length:=Classical.byContradiction fun h=>N4.out i ⟨ri,hri,h⟩;obtain ⟨u0,⟨p0,o0,rfl,hq0⟩,gi⟩:=hc i hlti ri hri;obtain h0 | ⟨bi,oi,rfl,hbi,hci⟩:=hq0
   ·omega
   obtain ⟨vi,hvi⟩:=zac d.ways (zaa rfl) hlt;obtain ⟨A,C,hset,ga,gc⟩:=hcs i hlt vi hvi;have HRI:=zaa hri;have HRL:=zaa hril;have HCI:=zaa hci;have HCC:=zaa hc;have HCS:=zaa hcs;have HVI:=zaa hvi;have HGI:=zaa gi;have HGA:=zaa (And.intro ga gc);clear hri hril hci hc hcs hvi gi ga gc;go_wp2
   go_loopw [5] (fun z wr=>∃ (k:Nat),i < k ∧ k ≤ d.ways.length ∧ z = .int .i64 k ∧ (∀ j,i < j → j < k → ¬ Pair d i j) ∧ Below w1.heap.size w1 wr) (fun z _=>d.ways.length - (intOf z).toNat)
   case atStart=>exact ⟨i + 1,by omega,by omega,by go_num,fun j hj=>by omega,HB1.out⟩
   case round=>
    obtain ⟨k,hik,hk,rfl,hok,hb2⟩:=hrel;rename World=>wp;have HN:=zaa hok;clear hok;have T2:=T1.call hb2;by_cases hltk:k < d.ways.length
    ·have hltkb:k < d.bars.length:=by have:=Hl.out; omega
     obtain ⟨rk,hrk⟩:=zac d.bars (zaa rfl) hltkb;have hrkl:rk.length = d.ways.length:=Classical.byContradiction fun h=>N4.out k ⟨rk,hrk,h⟩;obtain ⟨u1,⟨p1,o1,rfl,hq1⟩,gk⟩:=HCC.out k hltkb rk hrk;obtain h0 | ⟨bk,ok,rfl,hbk,hck⟩:=hq1
     ·omega
     obtain ⟨vk,hvk⟩:=zac d.ways (zaa rfl) hltk;obtain ⟨A2,C2,hset2,ga2,gc2⟩:=HCS.out k hltk vk hvk;obtain ⟨x,hx⟩:=zac ri (zaa rfl) (show k < ri.length by have:=HRL.out; omega);obtain ⟨y,hy⟩:=zac rk (zaa rfl) (show i < rk.length by omega);have gx:=HCI.out k (by have:=HRL.out; omega) x hx;have gy:=hck i (by omega) y hy;have gi:=HGI.out;obtain ⟨ga,gc⟩:=HGA.out;rw [← T2.below.cell (p:=⟨b,_,none⟩) hb0] at gi gk;rw [← T2.below.cell (p:=⟨bi,_,none⟩) hbi] at gx;rw [← T2.below.cell (p:=⟨bk,_,none⟩) hbk] at gy;rw [← hb2.cell (p:=⟨bs,_,none⟩) hbs] at ga gc ga2 gc2;obtain ⟨b0,b1,b2,b3,b4⟩:=T2.cells;have hne:=Ext.any wp;have E1:=Ext.cell gi;have E2:=Ext.cell gk;have E3:=Ext.cell gx;have E4:=Ext.cell gy;have E5:=Ext.cell ga;have E6:=Ext.cell gc;have E7:=Ext.cell ga2;have E8:=Ext.cell gc2;have E9:=Ext.cell b3;have hpair:=zmb (zh5 HRI.out hx) (zh5 hrk hy) HVI.out hvk;have HPA:=zaa hpair
     have hq:∀ W,Calls Tryz.prog 233 #[zko A C,zko A2 C2] W fun e w'=>e = .returned (.bool (B (Meet vi.sections vk.sections))) ∧ Below W.heap.size W w':=fun W=>
      zfc A C A2 C2 vi.sections vk.sections W hset hset2 (zf8 (HOK.out vi (List.mem_of_getElem? HVI.out)) s60)
     have HQ:=zaa hq
     have i1:(i:Int) < (d.bars.length:Int):=by omega
     have i2:(k:Int) < (d.bars.length:Int):=by omega
     have i3:(k:Int) < (ri.length:Int):=by have:=HRL.out; omega
     have i4:(i:Int) < (rk.length:Int):=by omega
     have i5:(i:Int) < (d.ways.length:Int):=by omega
     have i6:(k:Int) < (d.ways.length:Int):=by omega
     have HB2:=zaa hb2;have HT2:=zaa T2;clear hrk hrkl hvk hx hy hck hpair hq gi gk gx gy ga gc ga2 gc2 b0 b1 b3 b4 hset2 hb2 T2
     cases x <;> cases y
     case' true.true=>
      go_wp2;refine zaj (by kernel_rfl) (by kernel_rfl) ?_
      repeat (go_big_quiet_step ((go_at_call 233; exact zaz (HQ.out _))))
      refine wpQuiet_nil ?_;rintro _ ⟨nq,rfl⟩;go_wp2;go_roundw
      case rel=>exact ⟨k + 1,by omega,by omega,by go_num,fun j hj1 hj2 hp=>by
       by_cases e:j = k
       ·subst e;rcases HPA.out.1 hp with h | h
        ·exact h rfl
        ·exact Bool.noConfusion h.2.1
       ·exact HN.out j hj1 (by omega) hp,HB2.out.trans (nq.below.mono HB2.out.size)⟩
      case measure=>simp [intOf]; omega
     case' true.false=>
      go_wp2;refine zaj (by kernel_rfl) (by kernel_rfl) ?_
      repeat (go_big_quiet_step ((go_at_call 233; exact zaz (HQ.out _))))
      refine wpQuiet_nil ?_;rintro _ ⟨nq,rfl⟩;go_wp2;go_ret;exact ⟨_,rfl,.inl ⟨i,⟨⟨hlt,k,hik,hltk,HPA.out.2 (.inl (by decide))⟩,HO.out⟩,rfl⟩,(HT2.out.call nq.below).below⟩
     case' false.true=>
      go_wp2;refine zaj (by kernel_rfl) (by kernel_rfl) ?_
      repeat (go_big_quiet_step ((go_at_call 233; exact zaz (HQ.out _))))
      refine wpQuiet_nil ?_;rintro _ ⟨nq,rfl⟩;go_wp2;go_ret;exact ⟨_,rfl,.inl ⟨i,⟨⟨hlt,k,hik,hltk,HPA.out.2 (.inl (by decide))⟩,HO.out⟩,rfl⟩,(HT2.out.call nq.below).below⟩
     case' false.false=>
      by_cases hmt:Meet vi.sections vk.sections
      ·rw [zam hmt] at HQ;have HM:=zaa hmt;clear hmt;go_wp2;refine zaj (by kernel_rfl) (by kernel_rfl) ?_
       repeat (go_big_quiet_step ((go_at_call 233; exact zaz (HQ.out _))))
       refine wpQuiet_nil ?_;rintro _ ⟨nq,rfl⟩;go_wp2;go_ret;exact ⟨_,rfl,.inl ⟨i,⟨⟨hlt,k,hik,hltk,HPA.out.2 (.inr ⟨by omega,by first | trivial | rfl,HM.out⟩)⟩,HO.out⟩,rfl⟩,(HT2.out.call nq.below).below⟩
      ·rw [zae hmt] at HQ;have HM:=zaa hmt;clear hmt;go_wp2;refine zaj (by kernel_rfl) (by kernel_rfl) ?_
       repeat (go_big_quiet_step ((go_at_call 233; exact zaz (HQ.out _))))
       refine wpQuiet_nil ?_;rintro _ ⟨nq,rfl⟩;go_wp2;go_roundw
       case rel=>exact ⟨k + 1,by omega,by omega,by go_num,fun j hj1 hj2 hp=>by
        by_cases e:j = k
        ·subst e;rcases HPA.out.1 hp with h | h
         ·exact h rfl
         ·exact HM.out h.2.2
        ·exact HN.out j hj1 (by omega) hp,HB2.out.trans (nq.below.mono HB2.out.size)⟩
       case measure=>simp [intOf]; omega
    ·obtain ⟨b0,b1,b2,b3,b4⟩:=T2.cells;go_wp2;go_roundw
     case rel=>exact ⟨i + 1,by omega,by go_num,zcq HO.out fun hb=>by
      obtain ⟨-,q,hq1,hq2,hp⟩:=hb
      exact HN.out q hq1 (by omega) hp,hb2⟩
     case measure=>simp [intOf]; omega
  ·have T2:=T1.call HB1.out;go_wp2;go_ret;refine ⟨_,rfl,.inr ⟨fun k hb=>?_,rfl⟩,T2.below⟩;exact HO.out k (by have:=hb.1; omega) hb
end Go.Proofs.YtdhinkgjiapigabGreatDoor
namespace Go.Proofs.YtdhinkgjiapigabGreatDoor
open Go.RowKit Go.Deep
set_option maxHeartbeats 1000000 in
theorem zi1 (v1 v2 v3:Value) (d:PlanD) (w:World) (hp:PlanAt (In w) w v1 v2 v3 d) (hs:d.Small 1048576) :
  Calls Tryz.prog 177 #[.agg #[.int .i64 d.sections,v1,v2,v3,.int .i64 d.hold]] w fun e w'=>∃ v,e = .returned v ∧ ((∃ c a,v = zqu c a ∧ FaultBy (zhq d) d c a) ∨ (v = .nilIface ∧ FaultBy (zhq d) d 0 0)) ∧ Below w.heap.size w w':=by
 have T0:=Bx2.start w 37 207 (.int .i64 d.sections) v1 v2 v3 (.int .i64 d.hold) (.func (.func 219) #[] #[]) (.func (.func 220) #[] #[]) (.func (.func 221) #[] #[]) (.func (.func 222) #[] #[]) (.func (.func 223) #[] #[]);have hk:∀ W,Bx2 w 37 207 (zch (.int .i64 d.sections) v1 v2 v3 (.int .i64 d.hold)) (zch (.func (.func 219) #[] #[]) (.func (.func 220) #[] #[]) (.func (.func 221) #[] #[]) (.func (.func 222) #[] #[]) (.func (.func 223) #[] #[])) W → PlanAt (In W) W v1 v2 v3 d:=fun W h=>hp.keep (In.keep h.below).1 (In.keep h.below).2;have HK:=zaa hk;have HS:=zaa hs;clear hk hp hs;go_enter Tryz.func177,Tryz.ntmps177;go_wp2;refine wp_loop_rounds 6 ?_;rw [rounds_succ]
 go_wp2_with fail
 refine (zhs v1 v2 v3 d _ (HK.out _ T0) HS.out).mono ?_;rintro e w1 ⟨v,rfl,⟨hbad,rfl⟩ | ⟨n1,rfl⟩,hb⟩
 ·have HB:=zaa hbad;clear hbad;go_wp2;go_ret;exact ⟨_,rfl,.inl ⟨1,0,rfl,zj2 HB.out⟩,(T0.call hb).below⟩
 have N1:=zaa n1;have T1:=T0.call hb;clear n1 T0 hb;obtain ⟨⟨b0,b1,b2,b3,b4⟩,⟨z0,z1,z2,z3,z4⟩⟩:=T1.cells;go_wp2;rw [rounds_succ]
 go_wp2_with fail
 refine (zfr v1 v2 v3 d _ (HK.out _ T1) HS.out).mono ?_;clear b0 b1 b2 b3 b4 z0 z1 z2 z3 z4;rintro e w2 ⟨v,rfl,⟨k,hbad,rfl⟩ | ⟨n2,rfl⟩,hb⟩
 ·have HB:=zaa hbad;clear hbad;go_wp2;go_ret;exact ⟨_,rfl,.inl ⟨2,k,rfl,zqh N1.out HB.out⟩,(T1.call hb).below⟩
 have N2:=zaa n2;have T2:=T1.call hb;clear n2 T1 hb;obtain ⟨⟨b0,b1,b2,b3,b4⟩,⟨z0,z1,z2,z3,z4⟩⟩:=T2.cells;go_wp2;rw [rounds_succ]
 go_wp2_with fail
 refine (zi3 v1 v2 v3 d _ (HK.out _ T2) HS.out N1.out N2.out).mono ?_;clear b0 b1 b2 b3 b4 z0 z1 z2 z3 z4;rintro e w3 ⟨v,rfl,⟨k,hbad,rfl⟩ | ⟨n3,rfl⟩,hb⟩
 ·have HB:=zaa hbad;clear hbad;go_wp2;go_ret;exact ⟨_,rfl,.inl ⟨3,k,rfl,zqi N1.out N2.out HB.out⟩,(T2.call hb).below⟩
 have N3:=zaa n3;have T3:=T2.call hb;clear n3 T2 hb;obtain ⟨⟨b0,b1,b2,b3,b4⟩,⟨z0,z1,z2,z3,z4⟩⟩:=T3.cells;go_wp2;rw [rounds_succ]
 go_wp2_with fail
 refine (zi2 v1 v2 v3 d _ (HK.out _ T3) HS.out).mono ?_;clear b0 b1 b2 b3 b4 z0 z1 z2 z3 z4;rintro e w4 ⟨v,rfl,⟨hbad,rfl⟩ | ⟨hl,⟨k,hbad,rfl⟩ | ⟨n4,rfl⟩⟩,hb⟩
 ·have HB:=zaa hbad;clear hbad;go_wp2;go_ret;exact ⟨_,rfl,.inl ⟨4,0,rfl,zn6 N1.out N2.out N3.out HB.out⟩,(T3.call hb).below⟩
 ·have HB:=zaa hbad;have Hl:=zaa hl;clear hbad hl;go_wp2;go_ret;exact ⟨_,rfl,.inl ⟨4,k,rfl,zn7 N1.out N2.out N3.out Hl.out HB.out⟩,(T3.call hb).below⟩
 have N4:=zaa n4;have Hl:=zaa hl;have T4:=T3.call hb;clear n4 T3 hb hl;obtain ⟨⟨b0,b1,b2,b3,b4⟩,⟨z0,z1,z2,z3,z4⟩⟩:=T4.cells;go_wp2;rw [rounds_succ]
 go_wp2_with fail
 refine (zi0 v1 v2 v3 d _ (HK.out _ T4) HS.out N1.out N3.out Hl.out N4.out).mono ?_;clear b0 b1 b2 b3 b4 z0 z1 z2 z3 z4;rintro e w5 ⟨v,rfl,⟨k,hbad,rfl⟩ | ⟨n5,rfl⟩,hb⟩
 ·have HB:=zaa hbad;clear hbad;go_wp2;go_ret;exact ⟨_,rfl,.inl ⟨5,k,rfl,zef N1.out N2.out N3.out Hl.out N4.out HB.out⟩,(T4.call hb).below⟩
 have N5:=zaa n5;have T5:=T4.call hb;clear n5 T4 hb;go_wp2;rw [rounds_succ];go_wp2;go_ret;exact ⟨_,rfl,.inr ⟨rfl,zqg N1.out N2.out N3.out Hl.out N4.out N5.out⟩,T5.below⟩
end Go.Proofs.YtdhinkgjiapigabGreatDoor
namespace Go.Proofs.YtdhinkgjiapigabGreatDoor
open Go.RowKit Go.Deep
abbrev zrv:Value:=.iface 290 (.agg #[.pointer (some ⟨5,142,none⟩)])
theorem zii (u:World) (t n:Nat) (a b:Value) (h:u.heap.size = n):(u.alloc (.cells #[a,b] t)).rowIs n t 2 (two a b):=by
 subst h;exact zak u t #[a,b]
theorem zqs {w w1 w2:World} {t t':Nat} {g:Nat → Value} {o1 o2 o3 o4:Obj} {c a:Value} {f:Nat → Value} (B1:Below w.heap.size w w1) (R:w1.rowIs (w.heap.size + 1) t 2 g) (F:w1.rowIs (w.heap.size + 1 + 1) t' 2 f)
  (h:w2 = (((((w1.alloc o1).alloc o2).alloc o3).alloc o4).setCell ⟨w.heap.size + 1 + 1,0,none⟩ c).setCell ⟨w.heap.size + 1 + 1,1,none⟩ a) :
  Below w.heap.size w w2 ∧ w2.rowIs (w.heap.size + 1) t 2 g ∧ w2.cell? ⟨w.heap.size + 1 + 1,0,none⟩ = some c ∧ w2.cell? ⟨w.heap.size + 1 + 1,1,none⟩ = some a:=by
 have h4:Below w1.heap.size w1 ((((w1.alloc o1).alloc o2).alloc o3).alloc o4):=((((Below.refl _ _).alloc (Nat.le_refl _) _).alloc (by simp) _).alloc (by simp; omega) _).alloc (by simp; omega) _;have B4:=B1.trans (h4.mono B1.size);have R4:=zal R h4;have F4:=zal F h4;subst h;have F5:=(F4.set 0 c).set 1 a;refine ⟨(B4.setCell (by show w.heap.size ≤ w.heap.size + 1 + 1; omega) _).setCell (by show w.heap.size ≤ w.heap.size + 1 + 1; omega) _,(R4.setOther (by show w.heap.size + 1 ≠ w.heap.size + 1 + 1; omega) _).setOther (by show w.heap.size + 1 ≠ w.heap.size + 1 + 1; omega) _,?_,?_⟩
 ·simpa using F5.cell (i:=0) (by omega)
 ·simpa using F5.cell (i:=1) (by omega)
set_option maxHeartbeats 2000000 in
theorem zhv (v1 v2 v3:Value) (d:PlanD) (w:World) (hp:PlanAt (In w) w v1 v2 v3 d) (hs:d.Small 1048576) (hg:w.cell? ⟨1,0,none⟩ = some zrv) :
  Calls Tryz.prog 136 #[.agg #[.int .i64 d.sections,v1,v2,v3,.int .i64 d.hold]] w fun e w'=>∃ c a,e = .returned (.agg #[.int .i64 c,.int .i64 a]) ∧ FaultBy (zhq d) d c a ∧ Below w.heap.size w w':=by
 have T1:=Bx1.start w 37 (.int .i64 d.sections) v1 v2 v3 (.int .i64 d.hold);have hb1:=zab (w.alloc (.cells #[.int .i64 d.sections,v1,v2,v3,.int .i64 d.hold] 37)) (.cells #[.int .i64 0,.int .i64 0] 157);have hb2:=zab ((w.alloc (.cells #[.int .i64 d.sections,v1,v2,v3,.int .i64 d.hold] 37)).alloc (.cells #[.int .i64 0,.int .i64 0] 157)) (.cells #[.int .i64 0,.int .i64 0] 205);have R1:=zal (zii (w.alloc (.cells #[.int .i64 d.sections,v1,v2,v3,.int .i64 d.hold] 37)) 157 (w.heap.size + 1) (.int .i64 0) (.int .i64 0) (by simp)) hb2;have F1:=zii ((w.alloc (.cells #[.int .i64 d.sections,v1,v2,v3,.int .i64 d.hold] 37)).alloc (.cells #[.int .i64 0,.int .i64 0] 157)) 205 (w.heap.size + 1 + 1) (.int .i64 0) (.int .i64 0) (by simp);have T3:=(T1.call hb1).call hb2;have hpw:=hp.keep (In.keep T3.below).1 (In.keep T3.below).2;have hg3:=ck hg T3.below;clear T1 hb1 hb2 hp;go_enter Tryz.func136,Tryz.ntmps136
 go_wp2_with fail
 refine (zi1 v1 v2 v3 d _ hpw hs).mono ?_;rintro e w1 ⟨v,rfl,hv,hb⟩;have B1:Below w.heap.size w w1:=T3.below.trans (hb.mono T3.below.size);have R2:=zal R1 hb;have F2:=zal F1 hb;have hg4:=ck hg3 hb;clear T3 hpw hb R1 F1 hg3;have r0:=R2.cell (i:=0) (by omega);have r1:=R2.cell (i:=1) (by omega);have rf0:=R2.frozen 0;have rf1:=R2.frozen 1
 have f0:w1.cell? ⟨w.heap.size + 1 + 1,0,none⟩ = some (.int .i64 0):=by simpa [two] using F2.cell (i:=0) (by omega)
 have f1:w1.cell? ⟨w.heap.size + 1 + 1,1,none⟩ = some (.int .i64 0):=by simpa [two] using F2.cell (i:=1) (by omega)
 have ff0:=F2.frozen 0;have ff1:=F2.frozen 1;rcases hv with ⟨c,a,rfl,hf⟩ | ⟨rfl,hf⟩
 ·have HF:=zaa hf;clear hf
  go_wp2_with fail
  refine (zrc (w.heap.size + 1 + 1) c a 0 0 w1 hg4 f0 f1 ff0 ff1).mono ?_;rintro e w2 ⟨rfl,hw2⟩;obtain ⟨B2,R3,g0,g1⟩:=zqs B1 R2 F2 hw2;clear hw2 r0 r1 rf0 rf1 f0 f1 ff0 ff1 B1 R2 F2;have r0:=R3.cell (i:=0) (by omega);have r1:=R3.cell (i:=1) (by omega);have rf0:=R3.frozen 0;have rf1:=R3.frozen 1;go_wp2;exact bodyPost_ret (v:=.agg #[.int .i64 c,.int .i64 a]) (by simp [results,Tryz.results136,go_sem,r0,r1]) rfl ⟨c,a,rfl,HF.out,(B2.setCell (by show w.heap.size ≤ w.heap.size + 1; omega) _).setCell (by show w.heap.size ≤ w.heap.size + 1; omega) _⟩
 ·have HF:=zaa hf;clear hf
  go_wp2_with fail
  refine (zrd _ w1).mono ?_;rintro e w2 ⟨rfl,rfl⟩;go_wp2;exact bodyPost_ret (v:=.agg #[.int .i64 0,.int .i64 0]) (by simp [results,Tryz.results136,go_sem,r0,r1]) rfl ⟨0,0,rfl,HF.out,(B1.setCell (by show w.heap.size ≤ w.heap.size + 1; omega) _).setCell (by show w.heap.size ≤ w.heap.size + 1; omega) _⟩
end Go.Proofs.YtdhinkgjiapigabGreatDoor

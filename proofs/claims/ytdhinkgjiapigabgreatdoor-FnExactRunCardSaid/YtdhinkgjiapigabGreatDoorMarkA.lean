import Derived.Test.YtdhinkgjiapigabGreatDoorToA
import Derived.Test.YtdhinkgjiapigabGreatDoorBase
namespace Go.Proofs.YtdhinkgjiapigabGreatDoor
open Go.RowKit Go.Deep
def IntsS (P:Nat → Prop) (w:World) (v:Value) (n:Nat):Prop:=Sl P v n fun b off i=>∃ x,w.cell? ⟨b,off + i,none⟩ = some (.int .i64 x)
def BoolsS (P:Nat → Prop) (w:World) (v:Value) (n:Nat):Prop:=Sl P v n fun b off i=>∃ x,w.cell? ⟨b,off + i,none⟩ = some (.bool x)
def LiesS (P:Nat → Prop) (w:World) (v:Value) (n:Nat):Prop:=Sl P v n fun b off i=>∃ x y,w.cell? ⟨b,off + i * 2,none⟩ = some (.int .i64 x) ∧ w.cell? ⟨b,off + i * 2 + 1,none⟩ = some (.int .i64 y)
def WayS (P:Nat → Prop) (w:World) (v0 v1 v2 v3 v4:Value):Prop:=
 ∃ n0 n1 n2 n3 n4:Nat,(n0 ≤ 1048576 ∧ n1 ≤ 1048576 ∧ n2 ≤ 1048576 ∧ n3 ≤ 1048576 ∧ n4 ≤ 1048576) ∧ IntsS P w v0 n0 ∧ LiesS P w v1 n1 ∧ LiesS P w v2 n2 ∧ IntsS P w v3 n3 ∧ IntsS P w v4 n4
def WaysS (P:Nat → Prop) (w:World) (v:Value) (n:Nat):Prop:=
 Sl P v n fun b off i=>∃ v0 v1 v2 v3 v4,WayS P w v0 v1 v2 v3 v4 ∧
  w.cell? ⟨b,off + i * 5,none⟩ = some v0 ∧ w.cell? ⟨b,off + i * 5 + 1,none⟩ = some v1 ∧ w.cell? ⟨b,off + i * 5 + 2,none⟩ = some v2 ∧ w.cell? ⟨b,off + i * 5 + 3,none⟩ = some v3 ∧ w.cell? ⟨b,off + i * 5 + 4,none⟩ = some v4
def RowsS (P:Nat → Prop) (w:World) (v:Value) (n:Nat):Prop:=
 Sl P v n fun b off i=>∃ (v0:Value) (m:Nat),m ≤ 1048576 ∧ BoolsS P w v0 m ∧ w.cell? ⟨b,off + i,none⟩ = some v0
theorem lt_get {α:Type} (l:List α) {i:Nat} (h:i < l.length):∃ x,l[i]? = some x:=⟨l[i],List.getElem?_eq_getElem h⟩
theorem Ints.shape {P:Nat → Prop} {w:World} {v:Value} {l:List Int} (h:Ints P w v l):IntsS P w v l.length:=
 Sl.imp h (fun _ h=>h) fun b off i _ hi he=>by obtain ⟨x,hx⟩:=lt_get l hi; exact ⟨x,he x hx⟩
theorem Bools.shape {P:Nat → Prop} {w:World} {v:Value} {l:List Bool} (h:Bools P w v l):BoolsS P w v l.length:=
 Sl.imp h (fun _ h=>h) fun b off i _ hi he=>by obtain ⟨x,hx⟩:=lt_get l hi; exact ⟨x,he x hx⟩
theorem Lies.shape {P:Nat → Prop} {w:World} {v:Value} {l:List (Int × Int)} (h:Lies P w v l):LiesS P w v l.length:=
 Sl.imp h (fun _ h=>h) fun b off i _ hi he=>by obtain ⟨x,hx⟩:=lt_get l hi; exact ⟨x.1,x.2,he x hx⟩
theorem WayAt.shape {P:Nat → Prop} {w:World} {v0 v1 v2 v3 v4:Value} {d:WayD} (h:WayAt P w v0 v1 v2 v3 v4 d) (hs:d.Small 1048576):WayS P w v0 v1 v2 v3 v4:=
 ⟨_,_,_,_,_,hs,h.1.shape,h.2.1.shape,h.2.2.1.shape,h.2.2.2.1.shape,h.2.2.2.2.shape⟩
theorem Ways.shape {P:Nat → Prop} {w:World} {v:Value} {l:List WayD} (h:Ways P w v l) (hs:∀ x ∈ l,x.Small 1048576):WaysS P w v l.length:=
 Sl.imp h (fun _ h=>h) fun b off i _ hi he=>by
  obtain ⟨x,hx⟩:=lt_get l hi
  obtain ⟨v0,v1,v2,v3,v4,hw,hc⟩:=he x hx
  exact ⟨v0,v1,v2,v3,v4,hw.shape (hs x (List.mem_of_getElem? hx)),hc⟩
theorem Rows2.shape {P:Nat → Prop} {w:World} {v:Value} {l:List (List Bool)} (h:Rows2 P w v l) (hs:∀ x ∈ l,x.length ≤ 1048576):RowsS P w v l.length:=
 Sl.imp h (fun _ h=>h) fun b off i _ hi he=>by
  obtain ⟨x,hx⟩:=lt_get l hi
  obtain ⟨v0,hw,hc⟩:=he x hx
  exact ⟨v0,_,hs x (List.mem_of_getElem? hx),hw.shape,hc⟩
structure Marked (P:Nat → Prop) (w w':World):Prop where
 but:But (fun c=>¬ P c) w w'
 like:∀ b,b < w.heap.size → ∀ o,w'.cell? ⟨b,o,none⟩ = w.cell? ⟨b,o,none⟩ ∨ (∃ x y,w.cell? ⟨b,o,none⟩ = some (.int .i64 x) ∧ w'.cell? ⟨b,o,none⟩ = some (.int .i64 y)) ∨ ∃ x y,w.cell? ⟨b,o,none⟩ = some (.bool x) ∧ w'.cell? ⟨b,o,none⟩ = some (.bool y)
 thaw:∀ b,b < w.heap.size → Thaw w b → Thaw w' b
theorem Marked.of_calls {P:Nat → Prop} {w w':World} (h:Below w.heap.size w w'):Marked P w w':=
 ⟨But.of_calls h,fun b hb o=>.inl (h.cell (p:=⟨b,o,none⟩) hb),fun b hb k o=>(h.frozen (p:=⟨b,o,none⟩) hb).trans (k o)⟩
theorem Marked.refl (P:Nat → Prop) (w:World):Marked P w w:=Marked.of_calls (Below.refl _ _)
theorem Marked.trans {P:Nat → Prop} {a b c:World} (h:Marked P a b) (k:Marked P b c):Marked P a c:=by
 refine ⟨h.but.trans k.but,fun x hx o=>?_,fun x hx t=>k.thaw x (Nat.lt_of_lt_of_le hx h.but.size) (h.thaw x hx t)⟩
 rcases k.like x (Nat.lt_of_lt_of_le hx h.but.size) o with e | ⟨p,q,e1,e2⟩ | ⟨p,q,e1,e2⟩ <;> rcases h.like x hx o with g | ⟨r,s,g1,g2⟩ | ⟨r,s,g1,g2⟩
 ·exact .inl (e.trans g)
 ·exact .inr (.inl ⟨r,s,g1,e.trans g2⟩)
 ·exact .inr (.inr ⟨r,s,g1,e.trans g2⟩)
 ·exact .inr (.inl ⟨p,q,g.symm.trans e1,e2⟩)
 ·exact .inr (.inl ⟨r,q,g1,e2⟩)
 ·rw [g2] at e1; cases e1
 ·exact .inr (.inr ⟨p,q,g.symm.trans e1,e2⟩)
 ·rw [g2] at e1; cases e1
 ·exact .inr (.inr ⟨r,q,g1,e2⟩)
theorem Marked.setInt {P:Nat → Prop} {w w':World} (h:Marked P w w') {b o:Nat} {x:Int} (hc:w'.cell? ⟨b,o,none⟩ = some (.int .i64 x)) (hp:P b) (y:Int):Marked P w (w'.setCell ⟨b,o,none⟩ (.int .i64 y)):=by
 refine h.trans ⟨(But.refl _ _).setCell (fun z=>z hp) _,fun c hc2 q=>?_,fun c _ t q=>by rw [World.frozen?_setCell]; exact t q⟩
 by_cases e:c = b ∧ q = o
 ·obtain ⟨rfl,rfl⟩:=e
  exact .inr (.inl ⟨x,y,hc,World.cell?_setCell_same _ _ _ hc⟩)
 ·exact .inl (World.cell?_setCell_other _ _ _ _ (by rintro z; cases z; exact e ⟨rfl,rfl⟩))
theorem Marked.setBool {P:Nat → Prop} {w w':World} (h:Marked P w w') {b o:Nat} {x:Bool} (hc:w'.cell? ⟨b,o,none⟩ = some (.bool x)) (hp:P b) (y:Bool):Marked P w (w'.setCell ⟨b,o,none⟩ (.bool y)):=by
 refine h.trans ⟨(But.refl _ _).setCell (fun z=>z hp) _,fun c hc2 q=>?_,fun c _ t q=>by rw [World.frozen?_setCell]; exact t q⟩
 by_cases e:c = b ∧ q = o
 ·obtain ⟨rfl,rfl⟩:=e
  exact .inr (.inr ⟨x,y,hc,World.cell?_setCell_same _ _ _ hc⟩)
 ·exact .inl (World.cell?_setCell_other _ _ _ _ (by rintro z; cases z; exact e ⟨rfl,rfl⟩))
theorem Marked.int {P:Nat → Prop} {w w':World} (h:Marked P w w') {b o:Nat} (hb:∃ x,w.cell? ⟨b,o,none⟩ = some (.int .i64 x)):∃ x,w'.cell? ⟨b,o,none⟩ = some (.int .i64 x):=by
 obtain ⟨x,hx⟩:=hb
 rcases h.like b (World.block_lt_of_cell? _ _ hx) o with e | ⟨p,q,e1,e2⟩ | ⟨p,q,e1,e2⟩
 ·exact ⟨x,e.trans hx⟩
 ·exact ⟨q,e2⟩
 ·rw [hx] at e1; cases e1
theorem Marked.bool {P:Nat → Prop} {w w':World} (h:Marked P w w') {b o:Nat} (hb:∃ x,w.cell? ⟨b,o,none⟩ = some (.bool x)):∃ x,w'.cell? ⟨b,o,none⟩ = some (.bool x):=by
 obtain ⟨x,hx⟩:=hb
 rcases h.like b (World.block_lt_of_cell? _ _ hx) o with e | ⟨p,q,e1,e2⟩ | ⟨p,q,e1,e2⟩
 ·exact ⟨x,e.trans hx⟩
 ·rw [hx] at e1; cases e1
 ·exact ⟨q,e2⟩
theorem Marked.slice {P:Nat → Prop} {w w':World} (h:Marked P w w') {b o:Nat} {a:Option Addr} {n c:Nat} (hx:w.cell? ⟨b,o,none⟩ = some (.slice a n c)):w'.cell? ⟨b,o,none⟩ = some (.slice a n c):=by
 rcases h.like b (World.block_lt_of_cell? _ _ hx) o with e | ⟨p,q,e1,e2⟩ | ⟨p,q,e1,e2⟩
 ·exact e.trans hx
 ·rw [hx] at e1; cases e1
 ·rw [hx] at e1; cases e1
theorem IntsS.marked {P Q:Nat → Prop} {w w':World} {v:Value} {n:Nat} (h:IntsS P w v n) (k:Marked Q w w'):IntsS P w' v n:=Sl.imp h (fun _ h=>h) fun _ _ _ _ _ he=>k.int he
theorem BoolsS.marked {P Q:Nat → Prop} {w w':World} {v:Value} {n:Nat} (h:BoolsS P w v n) (k:Marked Q w w'):BoolsS P w' v n:=Sl.imp h (fun _ h=>h) fun _ _ _ _ _ he=>k.bool he
theorem LiesS.marked {P Q:Nat → Prop} {w w':World} {v:Value} {n:Nat} (h:LiesS P w v n) (k:Marked Q w w'):LiesS P w' v n:=Sl.imp h (fun _ h=>h) fun _ _ _ _ _ he=>by
 obtain ⟨x,y,h1,h2⟩:=he
 obtain ⟨p,hp⟩:=k.int ⟨x,h1⟩
 obtain ⟨q,hq⟩:=k.int ⟨y,h2⟩
 exact ⟨p,q,hp,hq⟩
theorem WayS.marked {P Q:Nat → Prop} {w w':World} {v0 v1 v2 v3 v4:Value} (h:WayS P w v0 v1 v2 v3 v4) (k:Marked Q w w'):WayS P w' v0 v1 v2 v3 v4:=by
 obtain ⟨n0,n1,n2,n3,n4,hn,h0,h1,h2,h3,h4⟩:=h
 exact ⟨n0,n1,n2,n3,n4,hn,h0.marked k,h1.marked k,h2.marked k,h3.marked k,h4.marked k⟩
theorem WaysS.marked {P Q:Nat → Prop} {w w':World} {v:Value} {n:Nat} (h:WaysS P w v n) (k:Marked Q w w'):WaysS P w' v n:=Sl.imp h (fun _ h=>h) fun _ _ _ _ _ he=>by
 obtain ⟨v0,v1,v2,v3,v4,hw,c0,c1,c2,c3,c4⟩:=he
 have hw':=hw.marked k
 obtain ⟨n0,n1,n2,n3,n4,-,⟨a0,z0,rfl,-⟩,⟨a1,z1,rfl,-⟩,⟨a2,z2,rfl,-⟩,⟨a3,z3,rfl,-⟩,⟨a4,z4,rfl,-⟩⟩:=hw
 exact ⟨_,_,_,_,_,hw',k.slice c0,k.slice c1,k.slice c2,k.slice c3,k.slice c4⟩
theorem RowsS.marked {P Q:Nat → Prop} {w w':World} {v:Value} {n:Nat} (h:RowsS P w v n) (k:Marked Q w w'):RowsS P w' v n:=Sl.imp h (fun _ h=>h) fun _ _ _ _ _ he=>by
 obtain ⟨v0,m,hm,hw,c0⟩:=he
 have hw':=hw.marked k
 obtain ⟨a0,z0,rfl,-⟩:=hw
 exact ⟨_,m,hm,hw',k.slice c0⟩
end Go.Proofs.YtdhinkgjiapigabGreatDoor
namespace Go.Proofs.YtdhinkgjiapigabGreatDoor
open Go.RowKit Go.Deep
structure May (P:Nat → Prop) (w:World):Prop where
 thaw:∀ b,P b → Thaw w b
 there:∀ b,P b → b < w.heap.size
theorem May.marked {P Q:Nat → Prop} {w w':World} (h:May P w) (k:Marked Q w w'):May P w':=⟨fun b hb=>k.thaw b (h.there b hb) (h.thaw b hb),fun b hb=>Nat.lt_of_lt_of_le (h.there b hb) k.but.size⟩
set_option maxHeartbeats 1000000 in
theorem markIntS_any (P:Nat → Prop) (v:Value) (n:Nat) (k:Int) (w:World) (hv:IntsS P w v n) (ht:May P w) (hn:n ≤ 1048576) (h0:0 ≤ k) (h1:k ≤ 1152921504606846976) :
  Calls Tryz.prog 45 #[v,.int .i64 k] w fun e w'=>e = .returned (.int .i64 (k + n)) ∧ Marked P w w':=by
 obtain ⟨a,cap,rfl,hc⟩:=hv
 have HC:=hide hc
 have HT:=hide ht
 clear hc ht
 go_enter Tryz.func45,Tryz.ntmps45
 go_wp2
 go_loopw [1,5] (fun kv i wr=>∃ (j:Nat) (q:Int),j ≤ n ∧ i = .int .i64 j ∧ q = k + j ∧ kv = .int .i64 q ∧ Marked P w wr) (fun _ i _=>n - (intOf i).toNat)
 case atStart=>exact ⟨0,_,Nat.zero_le _,rfl,by simp,rfl,Marked.refl _ _⟩
 case round=>
  obtain ⟨j,q,hj,rfl,hq,rfl,hm⟩:=hrel
  have HM:=hide hm
  clear hm
  by_cases hlt:j < n
  ·obtain z0 | ⟨b,off,rfl,hb0,hc⟩:=HC.out
   ·omega
   obtain ⟨x,g0⟩:=HM.out.int (hc j hlt)
   have hfr:=HM.out.thaw b (HT.out.there b hb0) (HT.out.thaw b hb0) (off + j)
   have Hb:=hide hb0
   clear hc hb0
   have Hq:=hide hq
   have hq2:q ≤ 1152921504606846976 + 4194304:=by omega
   have hq0:0 ≤ q:=by omega
   clear hq
   go_wp2
   go_roundw
   case rel=>exact ⟨j + 1,_,by omega,by go_num,by have:=Hq.out; omega,rfl,HM.out.setInt g0 Hb.out _⟩
   case measure=>simp [intOf]; omega
  ·have Hq:=hide hq
   clear hq
   go_wp2
   go_ret
   exact ⟨ret_int (by have:=Hq.out; omega),HM.out⟩
set_option maxHeartbeats 1000000 in
theorem markBoolS_any (P:Nat → Prop) (v:Value) (n:Nat) (k:Int) (w:World) (hv:BoolsS P w v n) (ht:May P w) (hn:n ≤ 1048576) (h0:0 ≤ k) (h1:k ≤ 1152921504606846976) :
  Calls Tryz.prog 95 #[v,.int .i64 k] w fun e w'=>e = .returned (.int .i64 (k + n)) ∧ Marked P w w':=by
 obtain ⟨a,cap,rfl,hc⟩:=hv
 have HC:=hide hc
 have HT:=hide ht
 clear hc ht
 go_enter Tryz.func95,Tryz.ntmps95
 go_wp2
 go_loopw [1,5] (fun kv i wr=>∃ (j:Nat) (q:Int),j ≤ n ∧ i = .int .i64 j ∧ q = k + j ∧ kv = .int .i64 q ∧ Marked P w wr) (fun _ i _=>n - (intOf i).toNat)
 case atStart=>exact ⟨0,_,Nat.zero_le _,rfl,by simp,rfl,Marked.refl _ _⟩
 case round=>
  obtain ⟨j,q,hj,rfl,hq,rfl,hm⟩:=hrel
  have HM:=hide hm
  clear hm
  by_cases hlt:j < n
  ·obtain z0 | ⟨b,off,rfl,hb0,hc⟩:=HC.out
   ·omega
   obtain ⟨x,g0⟩:=HM.out.bool (hc j hlt)
   have hfr:=HM.out.thaw b (HT.out.there b hb0) (HT.out.thaw b hb0) (off + j)
   have Hb:=hide hb0
   clear hc hb0
   have Hq:=hide hq
   have hq2:q ≤ 1152921504606846976 + 4194304:=by omega
   have hq0:0 ≤ q:=by omega
   clear hq
   go_wp2
   go_roundw
   case rel=>exact ⟨j + 1,_,by omega,by go_num,by have:=Hq.out; omega,rfl,HM.out.setBool g0 Hb.out _⟩
   case measure=>simp [intOf]; omega
  ·have Hq:=hide hq
   clear hq
   go_wp2
   go_ret
   exact ⟨ret_int (by have:=Hq.out; omega),HM.out⟩
set_option maxHeartbeats 1000000 in
theorem markLieS_any (P:Nat → Prop) (v:Value) (n:Nat) (k:Int) (w:World) (hv:LiesS P w v n) (ht:May P w) (hn:n ≤ 1048576) (h0:0 ≤ k) (h1:k ≤ 1152921504606846976) :
  Calls Tryz.prog 148 #[v,.int .i64 k] w fun e w'=>e = .returned (.int .i64 (k + 2 * n)) ∧ Marked P w w':=by
 obtain ⟨a,cap,rfl,hc⟩:=hv
 have HC:=hide hc
 have HT:=hide ht
 clear hc ht
 go_enter Tryz.func148,Tryz.ntmps148
 go_wp2
 go_loopw [1,5] (fun kv i wr=>∃ (j:Nat) (q:Int),j ≤ n ∧ i = .int .i64 j ∧ q = k + 2 * j ∧ kv = .int .i64 q ∧ Marked P w wr) (fun _ i _=>n - (intOf i).toNat)
 case atStart=>exact ⟨0,_,Nat.zero_le _,rfl,by simp,rfl,Marked.refl _ _⟩
 case round=>
  obtain ⟨j,q,hj,rfl,hq,rfl,hm⟩:=hrel
  have HM:=hide hm
  clear hm
  by_cases hlt:j < n
  ·obtain z0 | ⟨b,off,rfl,hb0,hc⟩:=HC.out
   ·omega
   obtain ⟨x,y,g0',g1'⟩:=hc j hlt
   obtain ⟨x0,g0⟩:=HM.out.int ⟨x,g0'⟩
   obtain ⟨y0,g1⟩:=HM.out.int ⟨y,g1'⟩
   have hfr:=HM.out.thaw b (HT.out.there b hb0) (HT.out.thaw b hb0) (off + j * 2)
   have hfr2:=HM.out.thaw b (HT.out.there b hb0) (HT.out.thaw b hb0) (off + j * 2 + 1)
   have G0:=hide g0
   have G1:=hide g1
   clear g0' g1'
   have Hb:=hide hb0
   clear hc hb0
   have Hq:=hide hq
   have hq2:q ≤ 1152921504606846976 + 4194304:=by omega
   have hq0:0 ≤ q:=by omega
   clear hq
   go_wp2
   go_roundw
   case rel=>exact ⟨j + 1,_,by omega,by go_num,by have:=Hq.out; omega,rfl,(HM.out.setInt G0.out Hb.out _).setInt (by rw [World.cell?_setCell_other _ _ _ _ (fun z=>by have:=congrArg Addr.off z; simp at this)]; exact G1.out) Hb.out _⟩
   case measure=>simp [intOf]; omega
  ·have Hq:=hide hq
   clear hq
   go_wp2
   go_ret
   exact ⟨ret_int (by have:=Hq.out; omega),HM.out⟩
set_option maxHeartbeats 4000000 in
theorem markWayS_any (P:Nat → Prop) (v:Value) (n:Nat) (k:Int) (w:World) (hv:WaysS P w v n) (ht:May P w) (hn:n ≤ 1048576) (h0:0 ≤ k) (h1:k ≤ 576460752303423488) :
  Calls Tryz.prog 93 #[v,.int .i64 k] w fun e w'=>∃ r:Int,e = .returned (.int .i64 r) ∧ k ≤ r ∧ r ≤ k + 7340032 * n ∧ Marked P w w':=by
 obtain ⟨a,cap,rfl,hc⟩:=hv
 have HC:=hide hc
 have HT:=hide ht
 clear hc ht
 go_enter Tryz.func93,Tryz.ntmps93
 go_wp2
 go_loopw [1,5] (fun kv i wr=>∃ (j:Nat) (q:Int),j ≤ n ∧ i = .int .i64 j ∧ k ≤ q ∧ q ≤ k + 7340032 * j ∧ kv = .int .i64 q ∧ Marked P w wr) (fun _ i _=>n - (intOf i).toNat)
 case atStart=>exact ⟨0,_,Nat.zero_le _,rfl,Int.le_refl _,by omega,rfl,Marked.refl _ _⟩
 case round=>
  obtain ⟨j,q,hj,rfl,hq1,hq2,rfl,hm⟩:=hrel
  have HM:=hide hm
  clear hm
  by_cases hlt:j < n
  ·obtain z0 | ⟨b,off,rfl,hb0,hc⟩:=HC.out
   ·omega
   obtain ⟨v0,v1,v2,v3,v4,⟨n0,n1,n2,n3,n4,hns,s0,s1,s2,s3,s4⟩,c0,c1,c2,c3,c4⟩:=hc j hlt
   obtain ⟨a0,z0,rfl,-⟩:=id s0
   obtain ⟨a1,z1,rfl,-⟩:=id s1
   obtain ⟨a2,z2,rfl,-⟩:=id s2
   obtain ⟨a3,z3,rfl,-⟩:=id s3
   obtain ⟨a4,z4,rfl,-⟩:=id s4
   replace c0:=HM.out.slice c0
   replace c1:=HM.out.slice c1
   replace c2:=HM.out.slice c2
   replace c3:=HM.out.slice c3
   replace c4:=HM.out.slice c4
   have S0:=hide s0
   have S1:=hide s1
   have S2:=hide s2
   have S3:=hide s3
   have S4:=hide s4
   obtain ⟨m0,m1,m2,m3,m4⟩:=hns
   clear hc hb0 s0 s1 s2 s3 s4
   have HT1:=hide (HT.out.marked HM.out)
   have b1:q ≤ 576460752303423488 + 7696581394432:=by omega
   go_wp2_with fail
   refine (markIntS_any P _ n0 q _ (S0.out.marked HM.out) HT1.out m0 (by omega) (by omega)).mono ?_
   rintro e w1 ⟨rfl,M1⟩
   have N1:=HM.out.trans M1
   replace c1:=M1.slice c1
   replace c2:=M1.slice c2
   replace c3:=M1.slice c3
   replace c4:=M1.slice c4
   clear c0 M1
   go_wp2_with fail
   refine (markLieS_any P _ n1 _ _ (S1.out.marked N1) (HT.out.marked N1) m1 (by omega) (by omega)).mono ?_
   rintro e w2 ⟨rfl,M1⟩
   have N2:=N1.trans M1
   replace c2:=M1.slice c2
   replace c3:=M1.slice c3
   replace c4:=M1.slice c4
   clear c1 M1 N1
   go_wp2_with fail
   refine (markLieS_any P _ n2 _ _ (S2.out.marked N2) (HT.out.marked N2) m2 (by omega) (by omega)).mono ?_
   rintro e w3 ⟨rfl,M1⟩
   have N3:=N2.trans M1
   replace c3:=M1.slice c3
   replace c4:=M1.slice c4
   clear c2 M1 N2
   go_wp2_with fail
   refine (markIntS_any P _ n3 _ _ (S3.out.marked N3) (HT.out.marked N3) m3 (by omega) (by omega)).mono ?_
   rintro e w4 ⟨rfl,M1⟩
   have N4:=N3.trans M1
   replace c4:=M1.slice c4
   clear c3 M1 N3
   go_wp2_with fail
   refine (markIntS_any P _ n4 _ _ (S4.out.marked N4) (HT.out.marked N4) m4 (by omega) (by omega)).mono ?_
   rintro e w5 ⟨rfl,M1⟩
   have N5:=N4.trans M1
   clear c4 M1 N4
   have NN:=hide N5
   clear N5
   go_wp2
   go_roundw
   case rel=>exact ⟨j + 1,_,by omega,by go_num,by omega,by omega,rfl,NN.out⟩
   case measure=>simp [intOf]; omega
  ·go_wp2
   go_ret
   exact ⟨q,rfl,hq1,by omega,HM.out⟩
set_option maxHeartbeats 2000000 in
theorem markBoolSS_any (P:Nat → Prop) (v:Value) (n:Nat) (k:Int) (w:World) (hv:RowsS P w v n) (ht:May P w) (hn:n ≤ 1048576) (h0:0 ≤ k) (h1:k ≤ 576460752303423488 + 7696581394432) :
  Calls Tryz.prog 94 #[v,.int .i64 k] w fun e w'=>∃ r:Int,e = .returned (.int .i64 r) ∧ k ≤ r ∧ r ≤ k + 1048576 * n ∧ Marked P w w':=by
 obtain ⟨a,cap,rfl,hc⟩:=hv
 have HC:=hide hc
 have HT:=hide ht
 clear hc ht
 go_enter Tryz.func94,Tryz.ntmps94
 go_wp2
 go_loopw [1,5] (fun kv i wr=>∃ (j:Nat) (q:Int),j ≤ n ∧ i = .int .i64 j ∧ k ≤ q ∧ q ≤ k + 1048576 * j ∧ kv = .int .i64 q ∧ Marked P w wr) (fun _ i _=>n - (intOf i).toNat)
 case atStart=>exact ⟨0,_,Nat.zero_le _,rfl,Int.le_refl _,by omega,rfl,Marked.refl _ _⟩
 case round=>
  obtain ⟨j,q,hj,rfl,hq1,hq2,rfl,hm⟩:=hrel
  have HM:=hide hm
  clear hm
  by_cases hlt:j < n
  ·obtain z0 | ⟨b,off,rfl,hb0,hc⟩:=HC.out
   ·omega
   obtain ⟨v0,m0,hm0,s0,c0⟩:=hc j hlt
   obtain ⟨a0,z0,rfl,-⟩:=id s0
   replace c0:=HM.out.slice c0
   have S0:=hide s0
   clear hc hb0 s0
   have HT1:=hide (HT.out.marked HM.out)
   have b1:q ≤ 576460752303423488 + 7696581394432 + 1099511627776:=by omega
   go_wp2_with fail
   refine (markBoolS_any P _ m0 q _ (S0.out.marked HM.out) HT1.out hm0 (by omega) (by omega)).mono ?_
   rintro e w1 ⟨rfl,M1⟩
   have N1:=HM.out.trans M1
   clear c0 M1
   have NN:=hide N1
   clear N1
   go_wp2
   go_roundw
   case rel=>exact ⟨j + 1,_,by omega,by go_num,by omega,by omega,rfl,NN.out⟩
   case measure=>simp [intOf]; omega
  ·go_wp2
   go_ret
   exact ⟨q,rfl,hq1,by omega,HM.out⟩
set_option maxHeartbeats 2000000 in
theorem markPlanB_any (P:Nat → Prop) (s h v1 v2 v3:Value) (d:PlanD) (w:World) (hp:PlanAt P w v1 v2 v3 d) (hs:d.Small 1048576) (ht:May P w) :
  Calls Tryz.prog 25 #[.agg #[s,v1,v2,v3,h],.int .i64 1] w fun e w'=>∃ r:Int,e = .returned (.int .i64 r) ∧ 0 ≤ r ∧ r ≤ 576460752303423488 ∧ Marked P w w':=by
 have T0:=boxes1 w 37 #[s,v1,v2,v3,h]
 have M0:Marked P w _:=Marked.of_calls T0.below
 have s1:=hp.1.shape.marked M0
 have s2:=(hp.2.1.shape hs.2.2.1).marked M0
 have s3:=(hp.2.2.shape hs.2.2.2.2).marked M0
 have hn1:=hs.1
 have hn2:=hs.2.1
 have hn3:=hs.2.2.2.1
 have HT:=hide (ht.marked M0)
 have b2:=T0.cell (j:=0) (i:=2) rfl rfl
 have b3:=T0.cell (j:=0) (i:=3) rfl rfl
 rw [Nat.add_zero] at b2 b3
 clear hp hs
 obtain ⟨a1,z1,rfl,-⟩:=id s1
 obtain ⟨a2,z2,rfl,-⟩:=id s2
 obtain ⟨a3,z3,rfl,-⟩:=id s3
 go_enter Tryz.func25,Tryz.ntmps25
 go_wp2_with fail
 refine (markIntS_any P _ _ 1 _ s1 HT.out hn1 (by omega) (by omega)).mono ?_
 rintro e w1 ⟨rfl,M1⟩
 replace b2:=M1.slice b2
 replace b3:=M1.slice b3
 have N1:=M0.trans M1
 replace s2:=s2.marked M1
 replace s3:=s3.marked M1
 have HT1:=hide (HT.out.marked M1)
 clear M0 M1 s1
 go_wp2_with fail
 refine (markWayS_any P _ _ _ _ s2 HT1.out hn2 (by omega) (by omega)).mono ?_
 rintro e w2 ⟨r2,rfl,hr1,hr2,M1⟩
 replace b3:=M1.slice b3
 have N2:=N1.trans M1
 replace s3:=s3.marked M1
 have HT2:=hide (HT1.out.marked M1)
 clear N1 M1 s2 b2
 go_wp2_with fail
 refine (markBoolSS_any P _ _ _ _ s3 HT2.out hn3 (by omega) (by omega)).mono ?_
 rintro e w3 ⟨r3,rfl,hr3,hr4,M1⟩
 have N3:=N2.trans M1
 clear N2 M1 s3 b3
 go_wp2
 go_ret
 exact ⟨r3,rfl,by omega,by omega,N3⟩
end Go.Proofs.YtdhinkgjiapigabGreatDoor
namespace Go.Proofs.YtdhinkgjiapigabGreatDoor
open Go.RowKit Go.Deep
def HeldsS (P:Nat → Prop) (w:World) (v:Value) (n:Nat):Prop:=
 Sl P v n fun b off i=>∃ (x0 x1 x4:Int) (x3:Bool) (v2:Value) (m:Nat),(m ≤ 1048576 ∧ BoolsS P w v2 m) ∧
  w.cell? ⟨b,off + i * 5,none⟩ = some (.int .i64 x0) ∧ w.cell? ⟨b,off + i * 5 + 1,none⟩ = some (.int .i64 x1) ∧ w.cell? ⟨b,off + i * 5 + 2,none⟩ = some v2 ∧ w.cell? ⟨b,off + i * 5 + 3,none⟩ = some (.bool x3) ∧ w.cell? ⟨b,off + i * 5 + 4,none⟩ = some (.int .i64 x4)
theorem Helds.shape {P:Nat → Prop} {w:World} {v:Value} {l:List HeldD} (h:Helds P w v l) (hs:∀ x ∈ l,x.been.length ≤ 1048576):HeldsS P w v l.length:=
 Sl.imp h (fun _ h=>h) fun b off i _ hi he=>by
  obtain ⟨x,hx⟩:=lt_get l hi
  obtain ⟨v2,hb,hc⟩:=he x hx
  exact ⟨_,_,_,_,v2,_,⟨hs x (List.mem_of_getElem? hx),hb.shape⟩,hc⟩
theorem HeldsS.marked {P Q:Nat → Prop} {w w':World} {v:Value} {n:Nat} (h:HeldsS P w v n) (k:Marked Q w w'):HeldsS P w' v n:=Sl.imp h (fun _ h=>h) fun b off i _ _ he=>by
 obtain ⟨x0,x1,x4,x3,v2,m,⟨hm,hb⟩,c0,c1,c2,c3,c4⟩:=he
 obtain ⟨y0,d0⟩:=k.int ⟨x0,c0⟩
 obtain ⟨y1,d1⟩:=k.int ⟨x1,c1⟩
 obtain ⟨y3,d3⟩:=k.bool ⟨x3,c3⟩
 obtain ⟨y4,d4⟩:=k.int ⟨x4,c4⟩
 obtain ⟨a,cap,rfl,-⟩:=id hb
 exact ⟨y0,y1,y4,y3,_,m,⟨hm,hb.marked k⟩,d0,d1,k.slice c2,d3,d4⟩
set_option maxHeartbeats 1000000 in
theorem markPointSS_any (P:Nat → Prop) (v:Value) (n:Nat) (k:Int) (w:World) (hv:LiesS P w v n) (ht:May P w) (hn:n ≤ 1048576) (h0:0 ≤ k) (h1:k ≤ 1152921504606846976) :
  Calls Tryz.prog 96 #[v,.int .i64 k] w fun e w'=>e = .returned (.int .i64 (k + 2 * n)) ∧ Marked P w w':=by
 obtain ⟨a,cap,rfl,hc⟩:=hv
 have HC:=hide hc
 have HT:=hide ht
 clear hc ht
 go_enter Tryz.func96,Tryz.ntmps96
 go_wp2
 go_loopw [1,5] (fun kv i wr=>∃ (j:Nat) (q:Int),j ≤ n ∧ i = .int .i64 j ∧ q = k + 2 * j ∧ kv = .int .i64 q ∧ Marked P w wr) (fun _ i _=>n - (intOf i).toNat)
 case atStart=>exact ⟨0,_,Nat.zero_le _,rfl,by simp,rfl,Marked.refl _ _⟩
 case round=>
  obtain ⟨j,q,hj,rfl,hq,rfl,hm⟩:=hrel
  have HM:=hide hm
  clear hm
  by_cases hlt:j < n
  ·obtain z0 | ⟨b,off,rfl,hb0,hc⟩:=HC.out
   ·omega
   obtain ⟨x,y,g0',g1'⟩:=hc j hlt
   obtain ⟨x0,g0⟩:=HM.out.int ⟨x,g0'⟩
   obtain ⟨y0,g1⟩:=HM.out.int ⟨y,g1'⟩
   have hfr:=HM.out.thaw b (HT.out.there b hb0) (HT.out.thaw b hb0) (off + j * 2)
   have hfr2:=HM.out.thaw b (HT.out.there b hb0) (HT.out.thaw b hb0) (off + j * 2 + 1)
   have G0:=hide g0
   have G1:=hide g1
   clear g0' g1'
   have Hb:=hide hb0
   clear hc hb0
   have Hq:=hide hq
   have hq2:q ≤ 1152921504606846976 + 4194304:=by omega
   have hq0:0 ≤ q:=by omega
   clear hq
   go_wp2
   go_roundw
   case rel=>exact ⟨j + 1,_,by omega,by go_num,by have:=Hq.out; omega,rfl,(HM.out.setInt G0.out Hb.out _).setInt (by rw [World.cell?_setCell_other _ _ _ _ (fun z=>by have:=congrArg Addr.off z; simp at this)]; exact G1.out) Hb.out _⟩
   case measure=>simp [intOf]; omega
  ·have Hq:=hide hq
   clear hq
   go_wp2
   go_ret
   exact ⟨ret_int (by have:=Hq.out; omega),HM.out⟩
set_option maxHeartbeats 4000000 in
theorem markHeldSS_any (P:Nat → Prop) (v:Value) (n:Nat) (k:Int) (w:World) (hv:HeldsS P w v n) (ht:May P w) (hn:n ≤ 1048576) (h0:0 ≤ k) (h1:k ≤ 576460752303423488 + 7696581394432) :
  Calls Tryz.prog 97 #[v,.int .i64 k] w fun e w'=>∃ r:Int,e = .returned (.int .i64 r) ∧ k ≤ r ∧ r ≤ k + 1048580 * n ∧ Marked P w w':=by
 obtain ⟨a,cap,rfl,hc⟩:=hv
 have HC:=hide hc
 have HT:=hide ht
 clear hc ht
 go_enter Tryz.func97,Tryz.ntmps97
 go_wp2
 go_loopw [1,5] (fun kv i wr=>∃ (j:Nat) (q:Int),j ≤ n ∧ i = .int .i64 j ∧ k ≤ q ∧ q ≤ k + 1048580 * j ∧ kv = .int .i64 q ∧ Marked P w wr) (fun _ i _=>n - (intOf i).toNat)
 case atStart=>exact ⟨0,_,Nat.zero_le _,rfl,Int.le_refl _,by omega,rfl,Marked.refl _ _⟩
 case round=>
  obtain ⟨j,q,hj,rfl,hq1,hq2,rfl,hm⟩:=hrel
  have HM:=hide hm
  clear hm
  by_cases hlt:j < n
  ·obtain z0 | ⟨b,off,rfl,hb0,hc⟩:=HC.out
   ·omega
   obtain ⟨x0,x1,x4,x3,v2,m,⟨hm,hbs⟩,c0,c1,c2,c3,c4⟩:=hc j hlt
   obtain ⟨a0,z0,rfl,-⟩:=id hbs
   obtain ⟨y0,g0⟩:=HM.out.int ⟨x0,c0⟩
   obtain ⟨y1,g1⟩:=HM.out.int ⟨x1,c1⟩
   have g2:=HM.out.slice c2
   have hth:∀ W,Marked P w W → ∀ o,W.frozen? ⟨b,o,none⟩ = false:=fun W hW o=>hW.thaw b (HT.out.there b hb0) (HT.out.thaw b hb0) o
   have HTH:=hide hth
   have r0:=hth _ HM.out (off + j * 5)
   have r1:=hth _ HM.out (off + j * 5 + 1)
   have b1:q ≤ 576460752303423488 + 7696581394432 + 1099515822080:=by omega
   have hq0:0 ≤ q:=by omega
   obtain ⟨W1,hW1⟩:∃ W1,W1 = (wr.setCell ⟨b,off + j * 5,none⟩ (.int .i64 q)).setCell ⟨b,off + j * 5 + 1,none⟩ (.int .i64 (q + 1)):=⟨_,rfl⟩
   have N1:Marked P w W1:=by
    rw [hW1]
    exact (HM.out.setInt g0 hb0 _).setInt (by rw [World.cell?_setCell_other _ _ _ _ (fun z=>by have:=congrArg Addr.off z; simp at this)]; exact g1) hb0 _
   have g2':W1.cell? ⟨b,off + j * 5 + 2,none⟩ = some (.slice a0 m z0):=N1.slice c2
   have hcall:=markBoolS_any P _ m (q + 1 + 1) W1 (hbs.marked N1) (HT.out.marked N1) hm (by omega) (by omega)
   obtain ⟨y3,k3⟩:=N1.bool ⟨x3,c3⟩
   have HCALL:=hide hcall
   have HN1:=hide N1
   have HC3:=hide c3
   have HC4:=hide c4
   have Hb:=hide hb0
   clear hc hb0 hbs c0 c1 c2 c3 c4 hth N1 hcall k3
   have HW1:=hide hW1
   clear hW1
   go_wp2_with fail
   rw [← HW1.out]
   refine HCALL.out.mono ?_
   rintro e w2 ⟨rfl,M1⟩
   have N2:=HN1.out.trans M1
   obtain ⟨y3,k3⟩:=N2.bool ⟨x3,HC3.out⟩
   obtain ⟨y4,k4⟩:=N2.int ⟨x4,HC4.out⟩
   have r3:=HTH.out _ N2 (off + j * 5 + 3)
   have r4:=HTH.out _ N2 (off + j * 5 + 4)
   have K3:=hide k3
   have K4:=hide k4
   have HN2:=hide N2
   obtain ⟨q2,hq2'⟩:∃ q2,q2 = q + 1 + 1 + (m:Int):=⟨_,rfl⟩
   rw [← hq2']
   have HQ2:=hide hq2'
   have hb2:q2 ≤ 576460752303423488 + 7696581394432 + 1099515822080 + 1048578:=by omega
   have hb20:0 ≤ q2:=by omega
   clear N2 M1 HCALL HN1 g0 g1 g2 r0 r1 g2' hq2'
   go_wp2
   go_roundw
   case rel=>exact ⟨j + 1,q2 + 1 + 1,by omega,by go_num,by have:=HQ2.out; omega,by have:=HQ2.out; omega,by go_num,(HN2.out.setBool K3.out Hb.out _).setInt (by rw [World.cell?_setCell_other _ _ _ _ (fun z=>by have:=congrArg Addr.off z; simp at this)]; exact K4.out) Hb.out _⟩
   case measure=>simp [intOf]; omega
  ·go_wp2
   go_ret
   exact ⟨q,rfl,hq1,by omega,HM.out⟩
set_option maxHeartbeats 2000000 in
theorem markFrameS_any (P:Nat → Prop) (ok v1 v2 v3:Value) (d:FrameD) (k:Int) (w:World) (hf:FrameAt P w v1 v2 v3 d) (hs:d.Small 1048576) (ht:May P w) (h0:0 ≤ k) (h1:k ≤ 576460752303423488) :
  Calls Tryz.prog 26 #[.agg #[ok,v1,v2,v3],.int .i64 k] w fun e w'=>∃ r:Int,e = .returned (.int .i64 r) ∧ 0 ≤ r ∧ Marked P w w':=by
 have T0:=boxes1 w 42 #[ok,v1,v2,v3]
 have M0:Marked P w _:=Marked.of_calls T0.below
 have s1:=hf.1.shape.marked M0
 have s2:=hf.2.1.shape.marked M0
 have s3:=(hf.2.2.shape hs.2.2.2).marked M0
 have hn1:=hs.1
 have hn2:=hs.2.1
 have hn3:=hs.2.2.1
 have HT:=hide (ht.marked M0)
 have b2:=T0.cell (j:=0) (i:=2) rfl rfl
 have b3:=T0.cell (j:=0) (i:=3) rfl rfl
 rw [Nat.add_zero] at b2 b3
 clear hf hs
 obtain ⟨a1,z1,rfl,-⟩:=id s1
 obtain ⟨a2,z2,rfl,-⟩:=id s2
 obtain ⟨a3,z3,rfl,-⟩:=id s3
 go_enter Tryz.func26,Tryz.ntmps26
 go_wp2_with fail
 refine (markBoolS_any P _ _ k _ s1 HT.out hn1 (by omega) (by omega)).mono ?_
 rintro e w1 ⟨rfl,M1⟩
 replace b2:=M1.slice b2
 replace b3:=M1.slice b3
 have N1:=M0.trans M1
 replace s2:=s2.marked M1
 replace s3:=s3.marked M1
 have HT1:=hide (HT.out.marked M1)
 clear M0 M1 s1
 go_wp2_with fail
 refine (markPointSS_any P _ _ _ _ s2 HT1.out hn2 (by omega) (by omega)).mono ?_
 rintro e w2 ⟨rfl,M1⟩
 replace b3:=M1.slice b3
 have N2:=N1.trans M1
 replace s3:=s3.marked M1
 have HT2:=hide (HT1.out.marked M1)
 clear N1 M1 s2 b2
 go_wp2_with fail
 refine (markHeldSS_any P _ _ _ _ s3 HT2.out hn3 (by omega) (by omega)).mono ?_
 rintro e w3 ⟨r3,rfl,hr3,-,M1⟩
 have N3:=N2.trans M1
 clear N2 M1 s3 b3
 go_wp2
 go_ret
 exact ⟨r3,rfl,by omega,N3⟩
end Go.Proofs.YtdhinkgjiapigabGreatDoor

import Derived.Test.YtdhinkgjiapigabGreatDoorProg
import Derived.Test.YtdhinkgjiapigabGreatDoorBase
namespace Go.Proofs.YtdhinkgjiapigabGreatDoor
open Go.RowKit
def SzOk (left r:Int) (small:Prop):Prop:=r = -1 ∨ (0 ≤ r ∧ r ≤ left ∧ small)
set_option maxHeartbeats 400000 in
theorem szIntS_any (a:Option Addr) (n cap:Nat) (left:Int) (w:World) (hn:n ≤ 9223372036854775807) (h0:0 ≤ left) (h1:left ≤ 1048576) :
  Calls Tryz.prog 58 #[.slice a n cap,.int .i64 left] w fun e w'=>∃ r,e = .returned (.int .i64 r) ∧ w' = w ∧ SzOk left r (n ≤ 1048576):=by
 go_enter Tryz.func58,Tryz.ntmps58
 go_wp2
 ·go_ret
  exact ⟨_,rfl,rfl,.inl rfl⟩
 ·go_ret
  exact ⟨_,rfl,rfl,.inr ⟨by omega,by omega,by omega⟩⟩
set_option maxHeartbeats 400000 in
theorem szLieS_any (a:Option Addr) (n cap:Nat) (left:Int) (w:World) (hn:n ≤ 9223372036854775807) (h0:0 ≤ left) (h1:left ≤ 1048576) :
  Calls Tryz.prog 173 #[.slice a n cap,.int .i64 left] w fun e w'=>∃ r,e = .returned (.int .i64 r) ∧ w' = w ∧ SzOk left r (n ≤ 1048576):=by
 go_enter Tryz.func173,Tryz.ntmps173
 go_wp2
 ·go_ret
  exact ⟨_,rfl,rfl,.inl rfl⟩
 ·go_ret
  exact ⟨_,rfl,rfl,.inr ⟨by omega,by omega,by omega⟩⟩
set_option maxHeartbeats 400000 in
theorem szBoolS_any (a:Option Addr) (n cap:Nat) (left:Int) (w:World) (hn:n ≤ 9223372036854775807) (h0:0 ≤ left) (h1:left ≤ 1048576) :
  Calls Tryz.prog 61 #[.slice a n cap,.int .i64 left] w fun e w'=>∃ r,e = .returned (.int .i64 r) ∧ w' = w ∧ SzOk left r (n ≤ 1048576):=by
 go_enter Tryz.func61,Tryz.ntmps61
 go_wp2
 ·go_ret
  exact ⟨_,rfl,rfl,.inl rfl⟩
 ·go_ret
  exact ⟨_,rfl,rfl,.inr ⟨by omega,by omega,by omega⟩⟩
set_option maxHeartbeats 400000 in
theorem szWay_any (a0 a1 a2 a3 a4:Option Addr) (n0 n1 n2 n3 n4 c0 c1 c2 c3 c4:Nat) (left:Int) (w:World)
  (k0:n0 ≤ 9223372036854775807) (k1:n1 ≤ 9223372036854775807) (k2:n2 ≤ 9223372036854775807) (k3:n3 ≤ 9223372036854775807) (k4:n4 ≤ 9223372036854775807) (h0:0 ≤ left) (h1:left ≤ 1048576) :
  Calls Tryz.prog 129 #[.agg #[.slice a0 n0 c0,.slice a1 n1 c1,.slice a2 n2 c2,.slice a3 n3 c3,.slice a4 n4 c4],.int .i64 left] w
   fun e w'=>∃ r,e = .returned (.int .i64 r) ∧ Below w.heap.size w w' ∧ SzOk left r (n0 ≤ 1048576 ∧ n1 ≤ 1048576 ∧ n2 ≤ 1048576 ∧ n3 ≤ 1048576 ∧ n4 ≤ 1048576):=by
 have hb:∀ o,Below w.heap.size w (w.alloc o):=fun o=>(Below.refl _ _).alloc (Nat.le_refl _) _
 go_enter Tryz.func129,Tryz.ntmps129
 go_wp2_with fail
 refine (szIntS_any _ _ _ _ _ k0 h0 h1).mono ?_
 rintro e w' ⟨r0,rfl,rfl,hr0 | ⟨p0,q0,s0⟩⟩
 ·subst hr0
  go_wp2
  go_ret
  exact ⟨_,rfl,hb _,.inl rfl⟩
 go_wp2_with fail
 refine (szLieS_any _ _ _ _ _ k1 p0 (by omega)).mono ?_
 rintro e w' ⟨r1,rfl,rfl,hr0 | ⟨p1,q1,s1⟩⟩
 ·subst hr0
  go_wp2
  go_ret
  exact ⟨_,rfl,hb _,.inl rfl⟩
 go_wp2_with fail
 refine (szLieS_any _ _ _ _ _ k2 p1 (by omega)).mono ?_
 rintro e w' ⟨r2,rfl,rfl,hr0 | ⟨p2,q2,s2⟩⟩
 ·subst hr0
  go_wp2
  go_ret
  exact ⟨_,rfl,hb _,.inl rfl⟩
 go_wp2_with fail
 refine (szIntS_any _ _ _ _ _ k3 p2 (by omega)).mono ?_
 rintro e w' ⟨r3,rfl,rfl,hr0 | ⟨p3,q3,s3⟩⟩
 ·subst hr0
  go_wp2
  go_ret
  exact ⟨_,rfl,hb _,.inl rfl⟩
 go_wp2_with fail
 refine (szIntS_any _ _ _ _ _ k4 p3 (by omega)).mono ?_
 rintro e w' ⟨r4,rfl,rfl,hr0 | ⟨p4,q4,s4⟩⟩
 ·subst hr0
  go_wp2
  go_ret
  exact ⟨_,rfl,hb _,.inl rfl⟩
 go_wp2
 go_ret
 exact ⟨_,rfl,hb _,.inr ⟨p4,by omega,s0,s1,s2,s3,s4⟩⟩
end Go.Proofs.YtdhinkgjiapigabGreatDoor
namespace Go.Proofs.YtdhinkgjiapigabGreatDoor
open Go.RowKit
theorem small_snoc {α:Type} {l:List α} {k:Nat} {x:α} {S:α → Prop} (h:∀ j y,j < k → l[j]? = some y → S y) (hx:l[k]? = some x) (hs:S x):∀ j y,j < k + 1 → l[j]? = some y → S y:=by
 intro j y hj hy
 by_cases e:j = k
 ·subst e; rw [hx] at hy; exact Option.some.inj hy ▸ hs
 ·exact h j y (by omega) hy
theorem small_all {α:Type} {l:List α} {k n:Nat} {S:α → Prop} (h:∀ j y,j < k → l[j]? = some y → S y) (hn:l.length = n) (hk:n ≤ k):∀ x ∈ l,S x:=by
 intro x hx
 obtain ⟨j,hj,rfl⟩:=List.getElem_of_mem hx
 exact h j _ (by omega) (List.getElem?_eq_getElem hj)
set_option maxHeartbeats 1000000 in
theorem szWayS_any (v:Value) (l:List WayD) (left:Int) (w:World) (hv:Ways (In w) w v l)
  (hn:l.length ≤ 9223372036854775807) (hl:∀ x ∈ l,x.Small 9223372036854775807) (h0:0 ≤ left) (h1:left ≤ 1048576) :
  Calls Tryz.prog 59 #[v,.int .i64 left] w fun e w'=>∃ r,e = .returned (.int .i64 r) ∧ Below w.heap.size w w' ∧ SzOk left r (l.length ≤ 1048576 ∧ ∀ x ∈ l,x.Small 1048576):=by
 have HL:=hide hl
 clear hl
 obtain ⟨a,cap,rfl,hz | ⟨b,off,rfl,hb0,hc⟩⟩:=hv
 ·have hl0:l = []:=List.length_eq_zero_iff.1 hz
  subst hl0
  go_enter Tryz.func59,Tryz.ntmps59
  go_wp2
  go_loopw [1,5] (fun lf i wr=>i = .int .i64 0 ∧ lf = .int .i64 left ∧ wr = w) (fun _ i _=>0)
  case atStart=>exact ⟨rfl,by simp,rfl⟩
  case round=>
   obtain ⟨rfl,rfl,rfl⟩:=hrel
   go_wp2
   go_ret
   exact ⟨_,rfl,Below.refl _ _,.inr ⟨h0,Int.le_refl _,by simp⟩⟩
 generalize hn':l.length = n at *
 have Hn:Hid (l.length = n):=hn'
 have HC:=hide hc
 clear hc hn'
 go_enter Tryz.func59,Tryz.ntmps59
 go_wp2
 ·go_ret
  exact ⟨_,rfl,Below.refl _ _,.inl rfl⟩
 go_loopw [1,5] (fun lf i wr=>∃ (k:Nat) (r:Int),k ≤ n ∧ i = .int .i64 k ∧ lf = .int .i64 r ∧ 0 ≤ r ∧ r ≤ left ∧ (∀ j x,j < k → l[j]? = some x → x.Small 1048576) ∧ Below w.heap.size w wr) (fun _ i _=>n - (intOf i).toNat)
 case atStart=>exact ⟨0,_,Nat.zero_le _,rfl,rfl,by omega,by omega,fun j x hj=>by omega,Below.refl _ _⟩
 case round=>
  obtain ⟨k,r,hk,rfl,rfl,hr0,hr1,hsm,hbl⟩:=hrel
  have HS:=hide hsm
  clear hsm
  by_cases hlt:k < n
  ·obtain ⟨x,hx⟩:=get_some l Hn hlt
   obtain ⟨v0,v1,v2,v3,v4,hw,g0,g1,g2,g3,g4⟩:=HC.out k hlt x hx
   obtain ⟨⟨a0,c0,e0,-⟩,⟨a1,c1,e1,-⟩,⟨a2,c2,e2,-⟩,⟨a3,c3,e3,-⟩,⟨a4,c4,e4,-⟩⟩:=hw
   subst e0 e1 e2 e3 e4
   obtain ⟨s0,s1,s2,s3,s4⟩:=HL.out x (List.mem_of_getElem? hx)
   rw [← hbl.cell (p:=⟨b,_,none⟩) hb0] at g0 g1 g2 g3 g4
   have Hx:=hide hx
   clear hx
   go_wp2_with fail
   refine (szWay_any _ _ _ _ _ _ _ _ _ _ _ _ _ _ _ r wr (by omega) (by omega) (by omega) (by omega) (by omega) hr0 (by omega)).mono ?_
   rintro e w' ⟨r',rfl,hb',hr | ⟨p,q,sm⟩⟩
   ·subst hr
    go_wp2
    go_ret
    exact ⟨_,rfl,hbl.trans (hb'.mono hbl.size),.inl rfl⟩
   ·have Hsm:=hide sm
    clear sm
    go_wp2
    go_roundw
    case rel=>exact ⟨k + 1,r',by omega,by go_num,rfl,p,by omega,small_snoc HS.out Hx.out Hsm.out,hbl.trans (hb'.mono hbl.size)⟩
    case measure=>simp [intOf]; omega
  ·go_wp2
   go_ret
   exact ⟨_,rfl,hbl,.inr ⟨hr0,hr1,by omega,small_all HS.out Hn.out (by omega)⟩⟩
set_option maxHeartbeats 1000000 in
theorem szBoolSS_any (v:Value) (l:List (List Bool)) (left:Int) (w:World) (hv:Rows2 (In w) w v l)
  (hn:l.length ≤ 9223372036854775807) (hl:∀ x ∈ l,x.length ≤ 9223372036854775807) (h0:0 ≤ left) (h1:left ≤ 1048576) :
  Calls Tryz.prog 60 #[v,.int .i64 left] w fun e w'=>∃ r,e = .returned (.int .i64 r) ∧ w' = w ∧ SzOk left r (l.length ≤ 1048576 ∧ ∀ x ∈ l,x.length ≤ 1048576):=by
 have HL:=hide hl
 clear hl
 obtain ⟨a,cap,rfl,hz | ⟨b,off,rfl,hb0,hc⟩⟩:=hv
 ·have hl0:l = []:=List.length_eq_zero_iff.1 hz
  subst hl0
  go_enter Tryz.func60,Tryz.ntmps60
  go_wp2
  go_loop [1,5] (fun lf i=>i = .int .i64 0 ∧ lf = .int .i64 left) (fun _ i=>0)
  case atStart=>trivial
  case round=>
   obtain ⟨rfl,rfl⟩:=hrel
   go_wp2
   go_ret
   exact ⟨_,rfl,rfl,.inr ⟨h0,Int.le_refl _,by simp⟩⟩
 generalize hn':l.length = n at *
 have Hn:Hid (l.length = n):=hn'
 have HC:=hide hc
 clear hc hn'
 go_enter Tryz.func60,Tryz.ntmps60
 go_wp2
 ·go_ret
  exact ⟨_,rfl,rfl,.inl rfl⟩
 go_loop [1,5] (fun lf i=>∃ (k:Nat) (r:Int),k ≤ n ∧ i = .int .i64 k ∧ lf = .int .i64 r ∧ 0 ≤ r ∧ r ≤ left ∧ (∀ j x,j < k → l[j]? = some x → x.length ≤ 1048576)) (fun _ i=>n - (intOf i).toNat)
 case atStart=>exact ⟨0,_,Nat.zero_le _,rfl,rfl,by omega,by omega,fun j x hj=>by omega⟩
 case round=>
  obtain ⟨k,r,hk,rfl,rfl,hr0,hr1,hsm⟩:=hrel
  have HS:=hide hsm
  clear hsm
  by_cases hlt:k < n
  ·obtain ⟨x,hx⟩:=get_some l Hn hlt
   obtain ⟨v0,⟨a0,c0,e0,-⟩,g0⟩:=HC.out k hlt x hx
   subst e0
   have s0:=HL.out x (List.mem_of_getElem? hx)
   have Hx:=hide hx
   clear hx
   go_wp2_with fail
   refine (szBoolS_any _ _ _ r w (by omega) hr0 (by omega)).mono ?_
   rintro e w' ⟨r',rfl,rfl,hr | ⟨p,q,sm⟩⟩
   ·subst hr
    go_wp2
    go_ret
    exact ⟨_,rfl,rfl,.inl rfl⟩
   ·have Hsm:=hide sm
    clear sm
    go_wp2
    go_round
    case rel=>exact ⟨k + 1,r',by omega,by go_num,rfl,p,by omega,small_snoc (S:=fun x=>x.length ≤ 1048576) HS.out Hx.out Hsm.out⟩
    case measure=>simp [intOf]; omega
  ·go_wp2
   go_ret
   exact ⟨_,rfl,rfl,.inr ⟨hr0,hr1,by omega,small_all HS.out Hn.out (by omega)⟩⟩
set_option maxHeartbeats 1000000 in
theorem szPlan_any (s h:Int) (v1 v2 v3:Value) (d:PlanD) (left:Int) (w:World) (hp:PlanAt (In w) w v1 v2 v3 d)
  (hs:d.Small 9223372036854775807) (h0:0 ≤ left) (h1:left ≤ 1048576) :
  Calls Tryz.prog 13 #[.agg #[.int .i64 s,v1,v2,v3,.int .i64 h],.int .i64 left] w fun e w'=>∃ r,e = .returned (.int .i64 r) ∧ Below w.heap.size w w' ∧ SzOk left r (d.Small 1048576):=by
 obtain ⟨hs1,hs2,hs3,hs4,hs5⟩:=hs
 obtain ⟨p1,p2,p3⟩:=hp
 have hb1:∀ o,Below w.heap.size w (w.alloc o):=fun o=>(Below.refl _ _).alloc (Nat.le_refl _) _
 obtain ⟨a1,c1,rfl⟩:=Sl.size p1
 have H3:=hide hs3
 have H5:=hide hs5
 clear hs3 hs5
 go_enter Tryz.func13,Tryz.ntmps13
 go_wp2_with fail
 refine (szIntS_any _ _ _ _ _ (by omega) h0 h1).mono ?_
 rintro e w' ⟨r0,rfl,rfl,hr0 | ⟨p0,q0,s0⟩⟩
 ·subst hr0
  go_wp2
  go_ret
  exact ⟨_,rfl,hb1 _,.inl rfl⟩
 go_wp2_with fail
 refine (szWayS_any v2 d.ways r0 _ (p2.keep (In.keep (hb1 _)).1 (In.keep (hb1 _)).2) (by omega) H3.out p0 (by omega)).mono ?_
 rintro e w1 ⟨r1,rfl,hb2,hr0 | ⟨p4,q1,s1⟩⟩
 ·subst hr0
  go_wp2
  go_ret
  exact ⟨_,rfl,(hb1 _).trans (hb2.mono (by simp)),.inl rfl⟩
 have hc3:=hb2.cell (p:=⟨w.heap.size,3,none⟩) (by simp)
 have Hs1:=hide s1
 clear s1
 simp at hc3
 have hb3:Below w.heap.size w w1:=(hb1 _).trans (hb2.mono (by simp))
 go_wp2_with fail
 refine (szBoolSS_any v3 d.bars r1 _ (p3.keep (In.keep hb3).1 (In.keep hb3).2) (by omega) H5.out p4 (by omega)).mono ?_
 rintro e w2 ⟨r2,rfl,rfl,hr0 | ⟨p5,q2,s2⟩⟩
 ·subst hr0
  go_wp2
  go_ret
  exact ⟨_,rfl,hb3,.inl rfl⟩
 have Hs2:=hide s2
 clear s2
 go_wp2
 go_ret
 exact ⟨_,rfl,hb3,.inr ⟨p5,by omega,s0,Hs1.out.1,Hs1.out.2,Hs2.out.1,Hs2.out.2⟩⟩
end Go.Proofs.YtdhinkgjiapigabGreatDoor
namespace Go.Proofs.YtdhinkgjiapigabGreatDoor
open Go.RowKit
end Go.Proofs.YtdhinkgjiapigabGreatDoor

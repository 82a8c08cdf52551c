import Derived.Test.YtdhinkgjiapigabGreatDoorProg
import Derived.Test.YtdhinkgjiapigabGreatDoorBase
import Derived.Deep.QuietTactic
import Derived.BigQuiet
import Derived.Deep.RegionWith
import Derived.WalkSmall
import Derived.Test.YtdhinkgjiapigabGreatDoorToA
namespace Go.Proofs.YtdhinkgjiapigabGreatDoor
open Go.RowKit
theorem drewN_add (w:World) (m n:Nat):(w.drewN m).drewN n = w.drewN (m + n):=by
 simp [World.drewN,Nat.add_assoc]
set_option maxHeartbeats 1000000 in
theorem eqIntS_any (u v:Value) (l:List Int) (w:World) (hu:Ints (In w) w u l) (hv:Ints (In w) w v l) (hn:l.length ≤ 1048576) :
  Calls Tryz.prog 44 #[u,v] w fun e w'=>e = .returned (.bool true) ∧ ∃ m,w' = w.drewN m:=by
 obtain ⟨a,cap,rfl,hc⟩:=hu
 obtain ⟨a2,cap2,rfl,hc2⟩:=hv
 generalize hn':l.length = n at *
 have Hn:Hid (l.length = n):=hn'
 have HC:=hide hc
 have HD:=hide hc2
 clear hc hc2 hn'
 go_enter Tryz.func44,Tryz.ntmps44
 go_wp2
 go_loopw [5] (fun i wr=>∃ (k m:Nat),k ≤ n ∧ i = .int .i64 k ∧ wr = w.drewN m) (fun i _=>n - (intOf i).toNat)
 case atStart=>exact ⟨0,0,Nat.zero_le _,rfl,rfl⟩
 case round=>
  obtain ⟨k,m,hk,rfl,rfl⟩:=hrel
  by_cases hlt:k < n
  ·obtain h0 | ⟨b,off,rfl,hb0,hc⟩:=HC.out
   ·omega
   obtain h0 | ⟨b2,off2,rfl,hb2,hc2⟩:=HD.out
   ·omega
   obtain ⟨x,hx⟩:=get_some l Hn hlt
   have g0:=hc k hlt x hx
   have g1:=hc2 k hlt x hx
   have hlt':(k:Int) < (n:Int):=by omega
   clear hx hc hc2
   go_wp2
   go_quiet (fail)
   go_wp2
   go_roundw
   case rel=>exact ⟨k + 1,_,by omega,by go_num,rfl⟩
   case measure=>simp [intOf]; omega
  ·go_wp2
   go_ret
   exact ⟨rfl,m,rfl⟩
set_option maxHeartbeats 1000000 in
theorem eqBoolS_any (u v:Value) (l:List Bool) (w:World) (hu:Bools (In w) w u l) (hv:Bools (In w) w v l) (hn:l.length ≤ 1048576) :
  Calls Tryz.prog 82 #[u,v] w fun e w'=>e = .returned (.bool true) ∧ ∃ m,w' = w.drewN m:=by
 obtain ⟨a,cap,rfl,hc⟩:=hu
 obtain ⟨a2,cap2,rfl,hc2⟩:=hv
 generalize hn':l.length = n at *
 have Hn:Hid (l.length = n):=hn'
 have HC:=hide hc
 have HD:=hide hc2
 clear hc hc2 hn'
 go_enter Tryz.func82,Tryz.ntmps82
 go_wp2
 go_loopw [5] (fun i wr=>∃ (k m:Nat),k ≤ n ∧ i = .int .i64 k ∧ wr = w.drewN m) (fun i _=>n - (intOf i).toNat)
 case atStart=>exact ⟨0,0,Nat.zero_le _,rfl,rfl⟩
 case round=>
  obtain ⟨k,m,hk,rfl,rfl⟩:=hrel
  by_cases hlt:k < n
  ·obtain h0 | ⟨b,off,rfl,hb0,hc⟩:=HC.out
   ·omega
   obtain h0 | ⟨b2,off2,rfl,hb2,hc2⟩:=HD.out
   ·omega
   obtain ⟨x,hx⟩:=get_some l Hn hlt
   have g0:=hc k hlt x hx
   have g1:=hc2 k hlt x hx
   have hlt':(k:Int) < (n:Int):=by omega
   clear hx hc hc2
   go_wp2
   go_quiet (fail)
   go_wp2
   go_roundw
   case rel=>exact ⟨k + 1,_,by omega,by go_num,rfl⟩
   case measure=>simp [intOf]; omega
  ·go_wp2
   go_ret
   exact ⟨rfl,m,rfl⟩
set_option maxHeartbeats 1000000 in
theorem eqBoolSS_any (u v:Value) (l:List (List Bool)) (w:World) (hu:Rows2 (In w) w u l) (hv:Rows2 (In w) w v l) (hn:l.length ≤ 1048576) (hl:∀ x ∈ l,x.length ≤ 1048576) :
  Calls Tryz.prog 81 #[u,v] w fun e w'=>e = .returned (.bool true) ∧ ∃ m,w' = w.drewN m:=by
 obtain ⟨a,cap,rfl,hc⟩:=hu
 obtain ⟨a2,cap2,rfl,hc2⟩:=hv
 generalize hn':l.length = n at *
 have Hn:Hid (l.length = n):=hn'
 have HC:=hide hc
 have HD:=hide hc2
 have HL:=hide hl
 clear hc hc2 hn' hl
 go_enter Tryz.func81,Tryz.ntmps81
 go_wp2
 go_loopw [5] (fun i wr=>∃ (k m:Nat),k ≤ n ∧ i = .int .i64 k ∧ wr = w.drewN m) (fun i _=>n - (intOf i).toNat)
 case atStart=>exact ⟨0,0,Nat.zero_le _,rfl,rfl⟩
 case round=>
  obtain ⟨k,m,hk,rfl,hwr⟩:=hrel
  have HW:=hide hwr
  by_cases hlt:k < n
  ·obtain h0 | ⟨b,off,rfl,hb0,hc⟩:=HC.out
   ·omega
   obtain h0 | ⟨b2,off2,rfl,hb2,hc2⟩:=HD.out
   ·omega
   obtain ⟨x,hx⟩:=get_some l Hn hlt
   obtain ⟨v0,q0,g0⟩:=hc k hlt x hx
   obtain ⟨v1,q1,g1⟩:=hc2 k hlt x hx
   have hlt':(k:Int) < (n:Int):=by omega
   have hsx:=HL.out x (List.mem_of_getElem? hx)
   have hq:∀ j,Calls Tryz.prog 82 #[v0,v1] (wr.drewN j) fun e w'=>e = .returned (.bool true) ∧ ∃ m,w' = (wr.drewN j).drewN m:=fun j=>by
    subst hwr
    exact eqBoolS_any v0 v1 x ((w.drewN m).drewN j) (q0.keep (w':=(w.drewN m).drewN j) (fun _ _ _=>rfl) fun _ h=>h) (q1.keep (w':=(w.drewN m).drewN j) (fun _ _ _=>rfl) fun _ h=>h) hsx
   have g0:wr.cell? ⟨b,off + k,none⟩ = some v0:=by subst hwr; exact g0
   have g1:wr.cell? ⟨b2,off2 + k,none⟩ = some v1:=by subst hwr; exact g1
   have HQ:=hide hq
   clear hx hc hc2 hq q0 q1 hwr
   go_wp2
   go_quiet ((go_at_call 82; exact Calls.quiet_of (HQ.out _)))
   go_wp2
   go_roundw
   case rel=>exact ⟨k + 1,_,by omega,by go_num,by rw [HW.out]; exact drewN_add _ _ _⟩
   case measure=>simp [intOf]; omega
  ·go_wp2
   go_ret
   exact ⟨rfl,m,rfl⟩
set_option maxHeartbeats 400000 in
theorem eqLie_any (x y:Int) (w:World) :
  Calls Tryz.prog 224 #[.agg #[.int .i64 x,.int .i64 y],.agg #[.int .i64 x,.int .i64 y]] w fun e w'=>e = .returned (.bool true) ∧ Below w.heap.size w w':=by
 go_enter Tryz.func224,Tryz.ntmps224
 go_wp2
 go_ret
 exact ⟨rfl,(((Below.refl _ _).alloc (Nat.le_refl _) _).alloc (by simp) _)⟩
set_option maxHeartbeats 1000000 in
theorem eqLieS_any (u v:Value) (l:List (Int × Int)) (w:World) (hu:Lies (In w) w u l) (hv:Lies (In w) w v l) (hn:l.length ≤ 1048576) :
  Calls Tryz.prog 183 #[u,v] w fun e w'=>e = .returned (.bool true) ∧ Below w.heap.size w w':=by
 obtain ⟨a,cap,rfl,hc⟩:=hu
 obtain ⟨a2,cap2,rfl,hc2⟩:=hv
 generalize hn':l.length = n at *
 have Hn:Hid (l.length = n):=hn'
 have HC:=hide hc
 have HD:=hide hc2
 clear hc hc2 hn'
 go_enter Tryz.func183,Tryz.ntmps183
 go_wp2
 go_loopw [5] (fun i wr=>∃ (k:Nat),k ≤ n ∧ i = .int .i64 k ∧ Below w.heap.size w wr) (fun i _=>n - (intOf i).toNat)
 case atStart=>exact ⟨0,Nat.zero_le _,rfl,Below.refl _ _⟩
 case round=>
  obtain ⟨k,hk,rfl,hbl⟩:=hrel
  by_cases hlt:k < n
  ·obtain h0 | ⟨b,off,rfl,hb0,hc⟩:=HC.out
   ·omega
   obtain h0 | ⟨b2,off2,rfl,hb2,hc2⟩:=HD.out
   ·omega
   obtain ⟨x,hx⟩:=get_some l Hn hlt
   obtain ⟨g0,g1⟩:=hc k hlt x hx
   obtain ⟨g2,g3⟩:=hc2 k hlt x hx
   rw [← hbl.cell (p:=⟨b,_,none⟩) hb0] at g0 g1
   rw [← hbl.cell (p:=⟨b2,_,none⟩) hb2] at g2 g3
   have hlt':(k:Int) < (n:Int):=by omega
   have hs:=hbl.size
   have HB:=hide hbl
   clear hx hc hc2 hbl
   go_wp2
   go_region_with (go_at_call 224; refine (eqLie_any _ _ _).mono ?_; rintro e w1 ⟨rfl,hb1⟩)
   all_goals
    go_wp2
    go_roundw
    case rel=>exact ⟨k + 1,by omega,by go_num,(below_drewN HB.out _).trans (hb1.mono hs)⟩
    case measure=>simp [intOf]; omega
  ·go_wp2
   go_ret
   exact ⟨rfl,hbl⟩
end Go.Proofs.YtdhinkgjiapigabGreatDoor
namespace Go.Proofs.YtdhinkgjiapigabGreatDoor
open Go.RowKit Go.Deep
structure Two (w:World) (t:TypeId) (f g:Nat → Value) (W:World):Prop where
 below:Below w.heap.size w W
 one:W.rowIs w.heap.size t 5 f
 two:W.rowIs (w.heap.size + 1) t 5 g
theorem Two.call {w:World} {t:TypeId} {f g:Nat → Value} {W W':World} (h:Two w t f g W) (hb:Below W.heap.size W W'):Two w t f g W':=
 ⟨h.below.trans (hb.mono h.below.size),rowIs_keep h.one hb,rowIs_keep h.two hb⟩
theorem Two.start (w:World) (t:TypeId) (b0 b1 b2 b3 b4 z0 z1 z2 z3 z4:Value) :
  Two w t (fun i=>(#[b0,b1,b2,b3,b4]:Array Value)[i]!) (fun i=>(#[z0,z1,z2,z3,z4]:Array Value)[i]!) ((w.alloc (.cells #[b0,b1,b2,b3,b4] t)).alloc (.cells #[z0,z1,z2,z3,z4] t)):=by
 have hr:∀ (u:World) (t:TypeId) (c:Array Value),(u.alloc (.cells c t)).rowIs u.heap.size t c.size (fun i=>c[i]!):=fun u t c=>
  World.rowIs_alloc u c t _ fun i hi=>by rw [getElem!_pos _ i hi]; exact Array.getElem?_eq_getElem hi
 refine ⟨(((Below.refl _ _).alloc (Nat.le_refl _) _).alloc (by simp) _),(hr _ _ _).alloc _,?_⟩
 have:=hr (w.alloc (.cells #[b0,b1,b2,b3,b4] t)) t #[z0,z1,z2,z3,z4]
 simpa using this
theorem Two.cells {w:World} {t:TypeId} {b0 b1 b2 b3 b4 z0 z1 z2 z3 z4:Value} {W:World} (h:Two w t (fun i=>(#[b0,b1,b2,b3,b4]:Array Value)[i]!) (fun i=>(#[z0,z1,z2,z3,z4]:Array Value)[i]!) W) :
  (W.cell? ⟨w.heap.size,0,none⟩ = some b0 ∧ W.cell? ⟨w.heap.size,1,none⟩ = some b1 ∧ W.cell? ⟨w.heap.size,2,none⟩ = some b2 ∧ W.cell? ⟨w.heap.size,3,none⟩ = some b3 ∧ W.cell? ⟨w.heap.size,4,none⟩ = some b4) ∧
  (W.cell? ⟨w.heap.size + 1,0,none⟩ = some z0 ∧ W.cell? ⟨w.heap.size + 1,1,none⟩ = some z1 ∧ W.cell? ⟨w.heap.size + 1,2,none⟩ = some z2 ∧ W.cell? ⟨w.heap.size + 1,3,none⟩ = some z3 ∧ W.cell? ⟨w.heap.size + 1,4,none⟩ = some z4):=
 ⟨⟨by simpa using h.one.cell (i:=0) (by omega),by simpa using h.one.cell (i:=1) (by omega),by simpa using h.one.cell (i:=2) (by omega),by simpa using h.one.cell (i:=3) (by omega),by simpa using h.one.cell (i:=4) (by omega)⟩,
  ⟨by simpa using h.two.cell (i:=0) (by omega),by simpa using h.two.cell (i:=1) (by omega),by simpa using h.two.cell (i:=2) (by omega),by simpa using h.two.cell (i:=3) (by omega),by simpa using h.two.cell (i:=4) (by omega)⟩⟩
theorem below_draws (w:World) (m:Nat):Below w.heap.size w (w.drewN m):=below_drewN (Below.refl _ _) m
set_option maxHeartbeats 2000000 in
theorem eqWay_any (u0 u1 u2 u3 u4 v0 v1 v2 v3 v4:Value) (d:WayD) (w:World) (hu:WayAt (In w) w u0 u1 u2 u3 u4 d) (hv:WayAt (In w) w v0 v1 v2 v3 v4 d) (hs:d.Small 1048576) :
  Calls Tryz.prog 140 #[.agg #[u0,u1,u2,u3,u4],.agg #[v0,v1,v2,v3,v4]] w fun e w'=>e = .returned (.bool true) ∧ Below w.heap.size w w':=by
 have T0:=Two.start w 122 u0 u1 u2 u3 u4 v0 v1 v2 v3 v4
 have hk:∀ {W},Two w 122 (fun i=>(#[u0,u1,u2,u3,u4]:Array Value)[i]!) (fun i=>(#[v0,v1,v2,v3,v4]:Array Value)[i]!) W → WayAt (In W) W u0 u1 u2 u3 u4 d:=fun h=>hu.keep (In.keep h.below).1 (In.keep h.below).2
 have hj:∀ {W},Two w 122 (fun i=>(#[u0,u1,u2,u3,u4]:Array Value)[i]!) (fun i=>(#[v0,v1,v2,v3,v4]:Array Value)[i]!) W → WayAt (In W) W v0 v1 v2 v3 v4 d:=fun h=>hv.keep (In.keep h.below).1 (In.keep h.below).2
 clear hu hv
 go_enter Tryz.func140,Tryz.ntmps140
 go_wp2_with fail
 refine (eqIntS_any u0 v0 d.sections _ (hk T0).1 (hj T0).1 hs.1).mono ?_
 rintro e w1 ⟨rfl,m,hm⟩
 have T1:=T0.call (hm ▸ below_draws _ m)
 clear T0 hm
 obtain ⟨⟨-,c1,c2,c3,c4⟩,⟨-,e1,e2,e3,e4⟩⟩:=T1.cells
 go_wp2_with fail
 refine (eqLieS_any u1 v1 d.lies _ (hk T1).2.1 (hj T1).2.1 hs.2.1).mono ?_
 clear c1 c2 c3 c4 e1 e2 e3 e4
 rintro e w2 ⟨rfl,hb⟩
 have T2:=T1.call hb
 clear T1 hb
 obtain ⟨⟨-,c1,c2,c3,c4⟩,⟨-,e1,e2,e3,e4⟩⟩:=T2.cells
 go_wp2_with fail
 refine (eqLieS_any u2 v2 d.flanks _ (hk T2).2.2.1 (hj T2).2.2.1 hs.2.2.1).mono ?_
 clear c1 c2 c3 c4 e1 e2 e3 e4
 rintro e w3 ⟨rfl,hb⟩
 have T3:=T2.call hb
 clear T2 hb
 obtain ⟨⟨-,c1,c2,c3,c4⟩,⟨-,e1,e2,e3,e4⟩⟩:=T3.cells
 go_wp2_with fail
 refine (eqIntS_any u3 v3 d.over _ (hk T3).2.2.2.1 (hj T3).2.2.2.1 hs.2.2.2.1).mono ?_
 clear c1 c2 c3 c4 e1 e2 e3 e4
 rintro e w4 ⟨rfl,m,hm⟩
 have T4:=T3.call (hm ▸ below_draws _ m)
 clear T3 hm
 obtain ⟨⟨-,c1,c2,c3,c4⟩,⟨-,e1,e2,e3,e4⟩⟩:=T4.cells
 go_wp2_with fail
 refine (eqIntS_any u4 v4 d.near _ (hk T4).2.2.2.2 (hj T4).2.2.2.2 hs.2.2.2.2).mono ?_
 clear c1 c2 c3 c4 e1 e2 e3 e4
 rintro e w5 ⟨rfl,m,hm⟩
 have T5:=T4.call (hm ▸ below_draws _ m)
 clear T4 hm
 go_wp2
 go_ret
 exact ⟨rfl,T5.below⟩
set_option maxHeartbeats 1000000 in
theorem eqWayS_any (u v:Value) (l:List WayD) (w:World) (hu:Ways (In w) w u l) (hv:Ways (In w) w v l) (hn:l.length ≤ 1048576) (hl:∀ x ∈ l,x.Small 1048576) :
  Calls Tryz.prog 80 #[u,v] w fun e w'=>e = .returned (.bool true) ∧ Below w.heap.size w w':=by
 obtain ⟨a,cap,rfl,hc⟩:=hu
 obtain ⟨a2,cap2,rfl,hc2⟩:=hv
 generalize hn':l.length = n at *
 have Hn:Hid (l.length = n):=hn'
 have HC:=hide hc
 have HD:=hide hc2
 have HL:=hide hl
 clear hc hc2 hn' hl
 go_enter Tryz.func80,Tryz.ntmps80
 go_wp2
 go_loopw [5] (fun i wr=>∃ (k:Nat),k ≤ n ∧ i = .int .i64 k ∧ Below w.heap.size w wr) (fun i _=>n - (intOf i).toNat)
 case atStart=>exact ⟨0,Nat.zero_le _,rfl,Below.refl _ _⟩
 case round=>
  obtain ⟨k,hk,rfl,hbl⟩:=hrel
  by_cases hlt:k < n
  ·obtain h0 | ⟨b,off,rfl,hb0,hc⟩:=HC.out
   ·omega
   obtain h0 | ⟨b2,off2,rfl,hb2,hc2⟩:=HD.out
   ·omega
   obtain ⟨x,hx⟩:=get_some l Hn hlt
   obtain ⟨u0,u1,u2,u3,u4,hw,g0,g1,g2,g3,g4⟩:=hc k hlt x hx
   obtain ⟨v0,v1,v2,v3,v4,hw2,j0,j1,j2,j3,j4⟩:=hc2 k hlt x hx
   rw [← hbl.cell (p:=⟨b,_,none⟩) hb0] at g0 g1 g2 g3 g4
   rw [← hbl.cell (p:=⟨b2,_,none⟩) hb2] at j0 j1 j2 j3 j4
   have hsx:=HL.out x (List.mem_of_getElem? hx)
   have hq:Calls Tryz.prog 140 #[.agg #[u0,u1,u2,u3,u4],.agg #[v0,v1,v2,v3,v4]] wr.drew fun e w'=>e = .returned (.bool true) ∧ Below w.heap.size w w':=by
    have hb2:Below w.heap.size w wr.drew:=hbl.drew
    refine (eqWay_any u0 u1 u2 u3 u4 v0 v1 v2 v3 v4 x wr.drew (hw.keep (In.keep hb2).1 (In.keep hb2).2) (hw2.keep (In.keep hb2).1 (In.keep hb2).2) hsx).mono ?_
    rintro e w1 ⟨rfl,h⟩
    exact ⟨rfl,hb2.trans (h.mono hb2.size)⟩
   have HQ:=hide hq
   have hlt':(k:Int) < (n:Int):=by omega
   clear hx hc hc2 hbl hq hw hw2 hsx
   go_wp2
   go_region_with (go_at_call 140; refine HQ.out.mono ?_; rintro e w1 ⟨rfl,hb1⟩)
   all_goals
    go_wp2
    go_roundw
    case rel=>exact ⟨k + 1,by omega,by go_num,hb1⟩
    case measure=>simp [intOf]; omega
  ·go_wp2
   go_ret
   exact ⟨rfl,hbl⟩
set_option maxHeartbeats 2000000 in
theorem eqPlan_any (s h:Int) (u1 u2 u3 v1 v2 v3:Value) (d:PlanD) (w:World) (hu:PlanAt (In w) w u1 u2 u3 d) (hv:PlanAt (In w) w v1 v2 v3 d) (hs:d.Small 1048576) :
  Calls Tryz.prog 19 #[.agg #[.int .i64 s,u1,u2,u3,.int .i64 h],.agg #[.int .i64 s,v1,v2,v3,.int .i64 h]] w fun e w'=>e = .returned (.bool true) ∧ Below w.heap.size w w':=by
 have T0:=Two.start w 37 (.int .i64 s) u1 u2 u3 (.int .i64 h) (.int .i64 s) v1 v2 v3 (.int .i64 h)
 have hk:∀ {W},Two w 37 (fun i=>(#[.int .i64 s,u1,u2,u3,.int .i64 h]:Array Value)[i]!) (fun i=>(#[.int .i64 s,v1,v2,v3,.int .i64 h]:Array Value)[i]!) W → PlanAt (In W) W u1 u2 u3 d:=fun h=>hu.keep (In.keep h.below).1 (In.keep h.below).2
 have hj:∀ {W},Two w 37 (fun i=>(#[.int .i64 s,u1,u2,u3,.int .i64 h]:Array Value)[i]!) (fun i=>(#[.int .i64 s,v1,v2,v3,.int .i64 h]:Array Value)[i]!) W → PlanAt (In W) W v1 v2 v3 d:=fun h=>hv.keep (In.keep h.below).1 (In.keep h.below).2
 obtain ⟨hs1,hs2,hs3,hs4,hs5⟩:=hs
 have H3:=hide hs3
 have H5:=hide hs5
 clear hu hv hs3 hs5
 go_enter Tryz.func19,Tryz.ntmps19
 go_wp2_with fail
 refine (eqIntS_any u1 v1 d.switches _ (hk T0).1 (hj T0).1 hs1).mono ?_
 rintro e w1 ⟨rfl,m,hm⟩
 have T1:=T0.call (hm ▸ below_draws _ m)
 clear T0 hm
 obtain ⟨⟨-,c1,c2,c3,c4⟩,⟨-,e1,e2,e3,e4⟩⟩:=T1.cells
 go_wp2_with fail
 refine (eqWayS_any u2 v2 d.ways _ (hk T1).2.1 (hj T1).2.1 hs2 H3.out).mono ?_
 clear c1 c2 c3 c4 e1 e2 e3 e4
 rintro e w2 ⟨rfl,hb⟩
 have T2:=T1.call hb
 clear T1 hb
 obtain ⟨⟨-,c1,c2,c3,c4⟩,⟨-,e1,e2,e3,e4⟩⟩:=T2.cells
 go_wp2_with fail
 refine (eqBoolSS_any u3 v3 d.bars _ (hk T2).2.2 (hj T2).2.2 hs4 H5.out).mono ?_
 clear c1 c2 c3 c4 e1 e2 e3 e4
 rintro e w3 ⟨rfl,m,hm⟩
 have T3:=T2.call (hm ▸ below_draws _ m)
 clear T2 hm
 obtain ⟨⟨-,c1,c2,c3,c4⟩,⟨-,e1,e2,e3,e4⟩⟩:=T3.cells
 go_wp2
 go_ret
 exact ⟨rfl,T3.below⟩
end Go.Proofs.YtdhinkgjiapigabGreatDoor
namespace Go.Proofs.YtdhinkgjiapigabGreatDoor
open Go.RowKit Go.Deep
set_option maxHeartbeats 400000 in
theorem eqPoint_any (x y:Int) (w:World) :
  Calls Tryz.prog 141 #[.agg #[.int .i64 x,.int .i64 y],.agg #[.int .i64 x,.int .i64 y]] w fun e w'=>e = .returned (.bool true) ∧ Below w.heap.size w w':=by
 go_enter Tryz.func141,Tryz.ntmps141
 go_wp2
 go_ret
 exact ⟨rfl,(((Below.refl _ _).alloc (Nat.le_refl _) _).alloc (by simp) _)⟩
set_option maxHeartbeats 1000000 in
theorem eqPointS_any (u v:Value) (l:List (Int × Int)) (w:World) (hu:Lies (In w) w u l) (hv:Lies (In w) w v l) (hn:l.length ≤ 1048576) :
  Calls Tryz.prog 83 #[u,v] w fun e w'=>e = .returned (.bool true) ∧ Below w.heap.size w w':=by
 obtain ⟨a,cap,rfl,hc⟩:=hu
 obtain ⟨a2,cap2,rfl,hc2⟩:=hv
 generalize hn':l.length = n at *
 have Hn:Hid (l.length = n):=hn'
 have HC:=hide hc
 have HD:=hide hc2
 clear hc hc2 hn'
 go_enter Tryz.func83,Tryz.ntmps83
 go_wp2
 go_loopw [5] (fun i wr=>∃ (k:Nat),k ≤ n ∧ i = .int .i64 k ∧ Below w.heap.size w wr) (fun i _=>n - (intOf i).toNat)
 case atStart=>exact ⟨0,Nat.zero_le _,rfl,Below.refl _ _⟩
 case round=>
  obtain ⟨k,hk,rfl,hbl⟩:=hrel
  by_cases hlt:k < n
  ·obtain h0 | ⟨b,off,rfl,hb0,hc⟩:=HC.out
   ·omega
   obtain h0 | ⟨b2,off2,rfl,hb2,hc2⟩:=HD.out
   ·omega
   obtain ⟨x,hx⟩:=get_some l Hn hlt
   obtain ⟨g0,g1⟩:=hc k hlt x hx
   obtain ⟨g2,g3⟩:=hc2 k hlt x hx
   rw [← hbl.cell (p:=⟨b,_,none⟩) hb0] at g0 g1
   rw [← hbl.cell (p:=⟨b2,_,none⟩) hb2] at g2 g3
   have hlt':(k:Int) < (n:Int):=by omega
   have hne:=Ext.any wr
   have E0:=Ext.cell g0
   have E1:=Ext.cell g1
   have E2:=Ext.cell g2
   have E3:=Ext.cell g3
   have HB:=hide hbl
   clear hx hc hc2 hbl g0 g1 g2 g3
   go_wp2
   refine wp_region_ext (by kernel_rfl) (by kernel_rfl) ?_
   repeat (go_big_quiet_step ((go_at_call 141; exact ext_of (eqPoint_any _ _ _))))
   refine wpQuiet_nil ?_
   rintro _ ⟨nq,rfl⟩
   go_wp2
   go_roundw
   case rel=>exact ⟨k + 1,by omega,by go_num,HB.out.trans (nq.below.mono HB.out.size)⟩
   case measure=>simp [intOf]; omega
  ·go_wp2
   go_ret
   exact ⟨rfl,hbl⟩
set_option maxHeartbeats 1000000 in
theorem eqHeld_any (x:HeldD) (u v:Value) (w:World) (hu:Bools (In w) w u x.been) (hv:Bools (In w) w v x.been) (hs:x.been.length ≤ 1048576) :
  Calls Tryz.prog 142 #[.agg #[.int .i64 x.state,.int .i64 x.gone,u,.bool x.shown,.int .i64 x.timer],.agg #[.int .i64 x.state,.int .i64 x.gone,v,.bool x.shown,.int .i64 x.timer]] w fun e w'=>e = .returned (.bool true) ∧ Below w.heap.size w w':=by
 have T0:=boxes2 w 93 93 #[.int .i64 x.state,.int .i64 x.gone,u,.bool x.shown,.int .i64 x.timer] #[.int .i64 x.state,.int .i64 x.gone,v,.bool x.shown,.int .i64 x.timer]
 have hu0:=hu.keep (In.keep T0.below).1 (In.keep T0.below).2
 have hv0:=hv.keep (In.keep T0.below).1 (In.keep T0.below).2
 clear hu hv
 go_enter Tryz.func142,Tryz.ntmps142
 go_wp2_with fail
 refine (eqBoolS_any u v x.been _ hu0 hv0 hs).mono ?_
 rintro e w1 ⟨rfl,m,hm⟩
 have T1:=T0.call (hm ▸ below_draws _ m)
 clear T0 hm hu0 hv0
 have c3:w1.cell? ⟨w.heap.size,3,none⟩ = some (.bool x.shown):=T1.cell (j:=0) (i:=3) rfl rfl
 have c4:w1.cell? ⟨w.heap.size,4,none⟩ = some (.int .i64 x.timer):=T1.cell (j:=0) (i:=4) rfl rfl
 have d3:w1.cell? ⟨w.heap.size + 1,3,none⟩ = some (.bool x.shown):=T1.cell (j:=1) (i:=3) rfl rfl
 have d4:w1.cell? ⟨w.heap.size + 1,4,none⟩ = some (.int .i64 x.timer):=T1.cell (j:=1) (i:=4) rfl rfl
 go_wp2
 go_ret
 exact ⟨rfl,T1.below⟩
set_option maxHeartbeats 1000000 in
theorem eqHeldS_any (u v:Value) (l:List HeldD) (w:World) (hu:Helds (In w) w u l) (hv:Helds (In w) w v l) (hn:l.length ≤ 1048576) (hl:∀ x ∈ l,x.been.length ≤ 1048576) :
  Calls Tryz.prog 84 #[u,v] w fun e w'=>e = .returned (.bool true) ∧ Below w.heap.size w w':=by
 obtain ⟨a,cap,rfl,hc⟩:=hu
 obtain ⟨a2,cap2,rfl,hc2⟩:=hv
 generalize hn':l.length = n at *
 have Hn:Hid (l.length = n):=hn'
 have HC:=hide hc
 have HD:=hide hc2
 have HL:=hide hl
 clear hc hc2 hn' hl
 go_enter Tryz.func84,Tryz.ntmps84
 go_wp2
 go_loopw [5] (fun i wr=>∃ (k:Nat),k ≤ n ∧ i = .int .i64 k ∧ Below w.heap.size w wr) (fun i _=>n - (intOf i).toNat)
 case atStart=>exact ⟨0,Nat.zero_le _,rfl,Below.refl _ _⟩
 case round=>
  obtain ⟨k,hk,rfl,hbl⟩:=hrel
  by_cases hlt:k < n
  ·obtain h0 | ⟨b,off,rfl,hb0,hc⟩:=HC.out
   ·omega
   obtain h0 | ⟨b2,off2,rfl,hb2,hc2⟩:=HD.out
   ·omega
   obtain ⟨x,hx⟩:=get_some l Hn hlt
   obtain ⟨p2,hw,g0,g1,g2,g3,g4⟩:=hc k hlt x hx
   obtain ⟨q2,hw2,j0,j1,j2,j3,j4⟩:=hc2 k hlt x hx
   rw [← hbl.cell (p:=⟨b,_,none⟩) hb0] at g0 g1 g2 g3 g4
   rw [← hbl.cell (p:=⟨b2,_,none⟩) hb2] at j0 j1 j2 j3 j4
   have hsx:=HL.out x (List.mem_of_getElem? hx)
   have hq:∀ m:Ext wr,Calls Tryz.prog 142 #[.agg #[.int .i64 x.state,.int .i64 x.gone,p2,.bool x.shown,.int .i64 x.timer],.agg #[.int .i64 x.state,.int .i64 x.gone,q2,.bool x.shown,.int .i64 x.timer]] m.w fun e w'=>e = .returned (.bool true) ∧ Below m.w.heap.size m.w w':=fun m=>by
    have hb2:Below w.heap.size w m.w:=hbl.trans (m.below.mono hbl.size)
    exact eqHeld_any x p2 q2 m.w (hw.keep (In.keep hb2).1 (In.keep hb2).2) (hw2.keep (In.keep hb2).1 (In.keep hb2).2) hsx
   have HQ:=hide hq
   have hlt':(k:Int) < (n:Int):=by omega
   have hne:=Ext.any wr
   have E0:=Ext.cell g0
   have E1:=Ext.cell g1
   have E2:=Ext.cell g2
   have E3:=Ext.cell g3
   have E4:=Ext.cell g4
   have F0:=Ext.cell j0
   have F1:=Ext.cell j1
   have F2:=Ext.cell j2
   have F3:=Ext.cell j3
   have F4:=Ext.cell j4
   have HB:=hide hbl
   clear hx hc hc2 hbl hq hw hw2 hsx g0 g1 g2 g3 g4 j0 j1 j2 j3 j4
   go_wp2
   refine wp_region_ext (by kernel_rfl) (by kernel_rfl) ?_
   repeat (go_big_quiet_step ((go_at_call 142; exact ext_of (HQ.out _))))
   refine wpQuiet_nil ?_
   rintro _ ⟨nq,rfl⟩
   go_wp2
   go_roundw
   case rel=>exact ⟨k + 1,by omega,by go_num,HB.out.trans (nq.below.mono HB.out.size)⟩
   case measure=>simp [intOf]; omega
  ·go_wp2
   go_ret
   exact ⟨rfl,hbl⟩
set_option maxHeartbeats 1000000 in
theorem eqFrame_any (ok:Bool) (u1 u2 u3 v1 v2 v3:Value) (d:FrameD) (w:World) (hu:FrameAt (In w) w u1 u2 u3 d) (hv:FrameAt (In w) w v1 v2 v3 d) (hs:d.Small 1048576) :
  Calls Tryz.prog 20 #[.agg #[.bool ok,u1,u2,u3],.agg #[.bool ok,v1,v2,v3]] w fun e w'=>e = .returned (.bool true) ∧ Below w.heap.size w w':=by
 have T0:=boxes2 w 42 42 #[.bool ok,u1,u2,u3] #[.bool ok,v1,v2,v3]
 have hk:∀ {W},Boxes w [(42,#[.bool ok,u1,u2,u3]),(42,#[.bool ok,v1,v2,v3])] W → FrameAt (In W) W u1 u2 u3 d ∧ FrameAt (In W) W v1 v2 v3 d:=fun h=>⟨hu.keep (In.keep h.below).1 (In.keep h.below).2,hv.keep (In.keep h.below).1 (In.keep h.below).2⟩
 obtain ⟨hs1,hs2,hs3,hs4⟩:=hs
 have H4:=hide hs4
 clear hu hv hs4
 go_enter Tryz.func20,Tryz.ntmps20
 go_wp2_with fail
 refine (eqBoolS_any u1 v1 d.occ _ (hk T0).1.1 (hk T0).2.1 hs1).mono ?_
 rintro e w1 ⟨rfl,m,hm⟩
 have T1:=T0.call (hm ▸ below_draws _ m)
 clear T0 hm
 have c2:w1.cell? ⟨w.heap.size,2,none⟩ = some u2:=T1.cell (j:=0) (i:=2) rfl rfl
 have d2:w1.cell? ⟨w.heap.size + 1,2,none⟩ = some v2:=T1.cell (j:=1) (i:=2) rfl rfl
 go_wp2_with fail
 refine (eqPointS_any u2 v2 d.points _ (hk T1).1.2.1 (hk T1).2.2.1 hs2).mono ?_
 clear c2 d2
 rintro e w2 ⟨rfl,hb⟩
 have T2:=T1.call hb
 clear T1 hb
 have c2:w2.cell? ⟨w.heap.size,3,none⟩ = some u3:=T2.cell (j:=0) (i:=3) rfl rfl
 have d2:w2.cell? ⟨w.heap.size + 1,3,none⟩ = some v3:=T2.cell (j:=1) (i:=3) rfl rfl
 go_wp2_with fail
 refine (eqHeldS_any u3 v3 d.ways _ (hk T2).1.2.2 (hk T2).2.2.2 hs3 H4.out).mono ?_
 clear c2 d2
 rintro e w3 ⟨rfl,hb⟩
 have T3:=T2.call hb
 clear T2 hb
 go_wp2
 go_ret
 exact ⟨rfl,T3.below⟩
end Go.Proofs.YtdhinkgjiapigabGreatDoor

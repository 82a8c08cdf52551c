import Derived.Test.YtdhinkgjiapigabGreatDoorToA
import Derived.Test.YtdhinkgjiapigabGreatDoorBase
namespace Go.Proofs.YtdhinkgjiapigabGreatDoor
open Go.RowKit Go.Deep
theorem WayAt.call {m:Nat} {W W':World} {v0 v1 v2 v3 v4:Value} {d:WayD} (h:WayAt (Above m W) W v0 v1 v2 v3 v4 d) (hb:Below W.heap.size W W'):WayAt (Above m W') W' v0 v1 v2 v3 v4 d:=
 h.keep (same_below hb fun _ hb=>hb.2.1) fun _ hx=>hx.call hb
theorem WayAt.store {m:Nat} {W:World} {v0 v1 v2 v3 v4:Value} {d:WayD} (h:WayAt (Above m W) W v0 v1 v2 v3 v4 d) (a:Addr) (v:Value) (ha:a.block < m):WayAt (Above m (W.setCell a v)) (W.setCell a v) v0 v1 v2 v3 v4 d:=
 h.keep (same_set _ _ _ fun b hb=>by have:=hb.1; omega) fun _ hx=>hx.store _ _ ha
theorem Bools.call {m:Nat} {W W':World} {v0:Value} {d:List Bool} (h:Bools (Above m W) W v0 d) (hb:Below W.heap.size W W'):Bools (Above m W') W' v0 d:=
 h.keep (same_below hb fun _ hb=>hb.2.1) fun _ hx=>hx.call hb
theorem Bools.store {m:Nat} {W:World} {v0:Value} {d:List Bool} (h:Bools (Above m W) W v0 d) (a:Addr) (v:Value) (ha:a.block < m):Bools (Above m (W.setCell a v)) (W.setCell a v) v0 d:=
 h.keep (same_set _ _ _ fun b hb=>by have:=hb.1; omega) fun _ hx=>hx.store _ _ ha
def WayC (P:Nat → Prop) (w:World) (v0 v1 v2 v3 v4:Value) (d:WayD):Prop:=WayAt P w v0 v1 v2 v3 v4 d ∧ Capped v0
theorem WayC.call {m:Nat} {W W':World} {v0 v1 v2 v3 v4:Value} {d:WayD} (h:WayC (Above m W) W v0 v1 v2 v3 v4 d) (hb:Below W.heap.size W W'):WayC (Above m W') W' v0 v1 v2 v3 v4 d:=⟨h.1.call hb,h.2⟩
theorem WayC.store {m:Nat} {W:World} {v0 v1 v2 v3 v4:Value} {d:WayD} (h:WayC (Above m W) W v0 v1 v2 v3 v4 d) (a:Addr) (v:Value) (ha:a.block < m):WayC (Above m (W.setCell a v)) (W.setCell a v) v0 v1 v2 v3 v4 d:=⟨h.1.store a v ha,h.2⟩
theorem WaysC.made {w wr:World} {l:List WayD} {n:Nat} {t:TypeId} {f:Nat → Value} (hn:l.length = n) (hrow:wr.rowIs w.heap.size t (n * 5) f)
  (hf:∀ j x,j < n → l[j]? = some x → WayC (Above (w.heap.size + 1) wr) wr (f (j * 5)) (f (j * 5 + 1)) (f (j * 5 + 2)) (f (j * 5 + 3)) (f (j * 5 + 4)) x) (hlt:w.heap.size < wr.heap.size):WaysC (Fresh w wr) wr (.slice (some ⟨w.heap.size,0,none⟩) n n) l:=by
 subst hn
 refine ⟨_,_,rfl,.inr ⟨w.heap.size,0,rfl,⟨Nat.le_refl _,hlt,hrow.frozen⟩,fun i hi x hx=>?_⟩⟩
 rw [Nat.zero_add,hrow.cell (by omega),hrow.cell (by omega),hrow.cell (by omega),hrow.cell (by omega),hrow.cell (by omega)]
 exact ⟨_,_,_,_,_,⟨(hf i x hi hx).1.keep (same_refl _ _) fun b hb=>⟨by have:=hb.1; omega,hb.2⟩,(hf i x hi hx).2⟩,rfl,rfl,rfl,rfl,rfl⟩
theorem Rows2.made {w wr:World} {l:List (List Bool)} {n:Nat} {t:TypeId} {f:Nat → Value} (hn:l.length = n) (hrow:wr.rowIs w.heap.size t n f)
  (hf:∀ j x,j < n → l[j]? = some x → Bools (Above (w.heap.size + 1) wr) wr (f j) x) (hlt:w.heap.size < wr.heap.size):Rows2 (Fresh w wr) wr (.slice (some ⟨w.heap.size,0,none⟩) n n) l:=by
 subst hn
 refine ⟨_,_,rfl,.inr ⟨w.heap.size,0,rfl,⟨Nat.le_refl _,hlt,hrow.frozen⟩,fun i hi x hx=>?_⟩⟩
 rw [Nat.zero_add,hrow.cell hi]
 exact ⟨_,(hf i x hi hx).keep (same_refl _ _) fun b hb=>⟨by have:=hb.1; omega,hb.2⟩,rfl⟩
theorem ways_step {w W:World} {l:List WayD} {n k:Nat} {t:TypeId} {f:Nat → Value} {x:WayD} {u0 u1 u2 u3 u4:Value} (hbl:Below w.heap.size w W) (hrow:W.rowIs w.heap.size t (n * 5) f) (hsz:w.heap.size < W.heap.size)
  (hf:∀ j y,j < k → l[j]? = some y → WayC (Above (w.heap.size + 1) W) W (f (j * 5)) (f (j * 5 + 1)) (f (j * 5 + 2)) (f (j * 5 + 3)) (f (j * 5 + 4)) y)
  (hu:WayC (Above (w.heap.size + 1) W) W u0 u1 u2 u3 u4 x) (hx:l[k]? = some x) (W':World)
  (hW':W' = ((((W.setCell ⟨w.heap.size,k * 5,none⟩ u0).setCell ⟨w.heap.size,k * 5 + 1,none⟩ u1).setCell ⟨w.heap.size,k * 5 + 2,none⟩ u2).setCell ⟨w.heap.size,k * 5 + 3,none⟩ u3).setCell ⟨w.heap.size,k * 5 + 4,none⟩ u4) :
  ∃ f',Below w.heap.size w W' ∧ W'.rowIs w.heap.size t (n * 5) f' ∧ w.heap.size < W'.heap.size ∧ ∀ j y,j < k + 1 → l[j]? = some y → WayC (Above (w.heap.size + 1) W') W' (f' (j * 5)) (f' (j * 5 + 1)) (f' (j * 5 + 2)) (f' (j * 5 + 3)) (f' (j * 5 + 4)) y:=by
 subst hW'
 refine ⟨_,((((hbl.setCell (Nat.le_refl _) _).setCell (Nat.le_refl _) _).setCell (Nat.le_refl _) _).setCell (Nat.le_refl _) _).setCell (Nat.le_refl _) _,((((hrow.set (k * 5) _).set (k * 5 + 1) _).set (k * 5 + 2) _).set (k * 5 + 3) _).set (k * 5 + 4) _,by simpa [World.setCell] using hsz,fun j y hj hy=>?_⟩
 have hlt:∀ o:Nat,(⟨w.heap.size,o,none⟩:Addr).block < w.heap.size + 1:=fun o=>Nat.lt_succ_self _
 have key:WayC (Above (w.heap.size + 1) W) W (if j * 5 = k * 5 then u0 else f (j * 5)) (if j * 5 = k * 5 then u1 else f (j * 5 + 1)) (if j * 5 = k * 5 then u2 else f (j * 5 + 2)) (if j * 5 = k * 5 then u3 else f (j * 5 + 3)) (if j * 5 = k * 5 then u4 else f (j * 5 + 4)) y:=by
  by_cases e:j = k
  ·subst e; rw [hx] at hy; cases hy
   simpa using hu
  ·have e':¬ j * 5 = k * 5:=by omega
   simp only [if_neg e']
   exact hf j y (by omega) hy
 have key5:=((((key.store ⟨w.heap.size,k * 5,none⟩ u0 (hlt _)).store ⟨w.heap.size,k * 5 + 1,none⟩ u1 (hlt _)).store ⟨w.heap.size,k * 5 + 2,none⟩ u2 (hlt _)).store ⟨w.heap.size,k * 5 + 3,none⟩ u3 (hlt _)).store ⟨w.heap.size,k * 5 + 4,none⟩ u4 (hlt _)
 have a0:¬ j * 5 = k * 5 + 1:=by omega
 have a1:¬ j * 5 = k * 5 + 2:=by omega
 have a2:¬ j * 5 = k * 5 + 3:=by omega
 have a3:¬ j * 5 = k * 5 + 4:=by omega
 have b0:¬ j * 5 + 1 = k * 5:=by omega
 have b1:¬ j * 5 + 1 = k * 5 + 2:=by omega
 have b2:¬ j * 5 + 1 = k * 5 + 3:=by omega
 have b3:¬ j * 5 + 1 = k * 5 + 4:=by omega
 have c0:¬ j * 5 + 2 = k * 5:=by omega
 have c1:¬ j * 5 + 2 = k * 5 + 1:=by omega
 have c2:¬ j * 5 + 2 = k * 5 + 3:=by omega
 have c3:¬ j * 5 + 2 = k * 5 + 4:=by omega
 have d0:¬ j * 5 + 3 = k * 5:=by omega
 have d1:¬ j * 5 + 3 = k * 5 + 1:=by omega
 have d2:¬ j * 5 + 3 = k * 5 + 2:=by omega
 have d3:¬ j * 5 + 3 = k * 5 + 4:=by omega
 have g0:¬ j * 5 + 4 = k * 5:=by omega
 have g1:¬ j * 5 + 4 = k * 5 + 1:=by omega
 have g2:¬ j * 5 + 4 = k * 5 + 2:=by omega
 have g3:¬ j * 5 + 4 = k * 5 + 3:=by omega
 have p1:(j * 5 + 1 = k * 5 + 1) = (j * 5 = k * 5):=by simp
 have p2:(j * 5 + 2 = k * 5 + 2) = (j * 5 = k * 5):=by simp
 have p3:(j * 5 + 3 = k * 5 + 3) = (j * 5 = k * 5):=by simp
 have p4:(j * 5 + 4 = k * 5 + 4) = (j * 5 = k * 5):=by simp
 simp only [if_neg a0,if_neg a1,if_neg a2,if_neg a3,if_neg b0,if_neg b1,if_neg b2,if_neg b3,if_neg c0,if_neg c1,if_neg c2,if_neg c3,if_neg d0,if_neg d1,if_neg d2,if_neg d3,if_neg g0,if_neg g1,if_neg g2,if_neg g3,p1,p2,p3,p4]
 exact key5
set_option maxHeartbeats 1000000 in
theorem toWaySC_any (v:Value) (l:List WayD) (w:World) (hv:Ways (In w) w v l) (hn:l.length ≤ 1048576) (hl:∀ x ∈ l,x.Small 1048576) :
  Calls Tryz.prog 71 #[v] w fun e w'=>∃ v',e = .returned v' ∧ Below w.heap.size w w' ∧ WaysC (Fresh w w') w' v' l:=by
 obtain ⟨a,cap,rfl,hc⟩:=hv
 generalize hn':l.length = n at *
 have Hn:Hid (l.length = n):=hn'
 have HC:=hide hc
 have HL:=hide hl
 clear hc hn' hl
 have hmk:=run_make_cells (P:=Tryz.prog) 35 122 _ 5 120 Tryz.underlying35 Tryz.infoWay n (by omega) (by omega)
 go_enter Tryz.func71,Tryz.ntmps71
 go_wp2
 go_loopw [4] (fun i wr=>∃ (k:Nat) (f:Nat → Value),k ≤ n ∧ i = .int .i64 k ∧ Below w.heap.size w wr ∧ wr.rowIs w.heap.size 122 (n * 5) f ∧ w.heap.size < wr.heap.size ∧ (∀ j x,j < k → l[j]? = some x → WayC (Above (w.heap.size + 1) wr) wr (f (j * 5)) (f (j * 5 + 1)) (f (j * 5 + 2)) (f (j * 5 + 3)) (f (j * 5 + 4)) x)) (fun i _=>n - (intOf i).toNat)
 case atStart=>exact ⟨0,_,Nat.zero_le _,rfl,(Below.refl _ _).alloc (Nat.le_refl _) _,rowIs_made_any w _ (n * 5) _,by simp,fun j x hj=>by omega⟩
 case round=>
  obtain ⟨k,f,hk,rfl,hbl,hrow,hsz,hf⟩:=hrel
  have HF:=hide hf
  clear hf hmk
  by_cases hlt:k < n
  ·obtain h0 | ⟨b,off,rfl,hb0,hc⟩:=HC.out
   ·omega
   obtain ⟨x,hx⟩:=get_some l Hn hlt
   obtain ⟨v0,v1,v2,v3,v4,hw,g0,g1,g2,g3,g4⟩:=hc k hlt x hx
   have hw2:=hw.keep (In.keep hbl).1 (In.keep hbl).2
   rw [← hbl.cell (p:=⟨b,_,none⟩) hb0] at g0 g1 g2 g3 g4
   have hsx:=HL.out x (List.mem_of_getElem? hx)
   have Hx:=hide hx
   clear hx hc hw
   go_wp2_with fail
   refine (toWayC_any _ _ _ _ _ x wr hw2 hsx).mono ?_
   rintro e w1 ⟨u0,u1,u2,u3,u4,rfl,hb1,hu,ncap⟩
   have hu2:WayC (Above (w.heap.size + 1) w1) w1 u0 u1 u2 u3 u4 x:=⟨hu.keep (same_refl _ _) fun y hy=>⟨by have:=hy.1; omega,hy.2⟩,ncap⟩
   clear ncap
   obtain ⟨⟨a0,c0,rfl,-⟩,⟨a1,c1,rfl,-⟩,⟨a2,c2,rfl,-⟩,⟨a3,c3,rfl,-⟩,⟨a4,c4,rfl,-⟩⟩:=hu
   have hbl1:Below w.heap.size w w1:=hbl.trans (hb1.mono hbl.size)
   have hrow1:=rowIs_keep hrow hb1
   have q0:=hrow1.cell (i:=k * 5) (by omega)
   have q1:=hrow1.cell (i:=k * 5 + 1) (by omega)
   have q2:=hrow1.cell (i:=k * 5 + 2) (by omega)
   have q3:=hrow1.cell (i:=k * 5 + 3) (by omega)
   have q4:=hrow1.cell (i:=k * 5 + 4) (by omega)
   have r0:=hrow1.frozen (k * 5)
   have r1:=hrow1.frozen (k * 5 + 1)
   have r2:=hrow1.frozen (k * 5 + 2)
   have r3:=hrow1.frozen (k * 5 + 3)
   have r4:=hrow1.frozen (k * 5 + 4)
   have hsz1:w.heap.size < w1.heap.size:=Nat.lt_of_lt_of_le hsz hb1.size
   clear g0 g1 g2 g3 g4 hw2 hsx
   have hfin:∀ j y,j < k → l[j]? = some y → WayC (Above (w.heap.size + 1) w1) w1 (f (j * 5)) (f (j * 5 + 1)) (f (j * 5 + 2)) (f (j * 5 + 3)) (f (j * 5 + 4)) y:=fun j y hj hy=>(HF.out j y hj hy).call hb1
   have HF2:=hide hfin
   clear hfin HF
   go_wp2
   go_roundw
   case rel=>
    obtain ⟨f',t1,t2,t3,t4⟩:=ways_step hbl1 hrow1 hsz1 HF2.out hu2 Hx.out _ rfl
    exact ⟨k + 1,f',by omega,by go_num,t1,t2,t3,t4⟩
   case measure=>simp [intOf]; omega
  ·go_wp2
   go_ret
   exact ⟨.slice (some ⟨w.heap.size,0,none⟩) n n,rfl,hbl,WaysC.made Hn.out hrow (fun j x hj=>HF.out j x (by omega)) hsz⟩
set_option maxHeartbeats 1000000 in
theorem toBoolSS_any (v:Value) (l:List (List Bool)) (w:World) (hv:Rows2 (In w) w v l) (hn:l.length ≤ 1048576) (hl:∀ x ∈ l,x.length ≤ 1048576) :
  Calls Tryz.prog 72 #[v] w fun e w'=>∃ v',e = .returned v' ∧ Below w.heap.size w w' ∧ Rows2 (Fresh w w') w' v' l:=by
 obtain ⟨a,cap,rfl,hc⟩:=hv
 generalize hn':l.length = n at *
 have Hn:Hid (l.length = n):=hn'
 have HC:=hide hc
 have HL:=hide hl
 clear hc hn' hl
 have hmk:=run_make_row' (P:=Tryz.prog) 24 27 (.slice none 0 0) 24 Tryz.underlying24 Tryz.infoBools rfl .i64 .i64 n (by omega) (by omega)
 go_enter Tryz.func72,Tryz.ntmps72
 go_wp2
 go_loopw [4] (fun i wr=>∃ (k:Nat) (f:Nat → Value),k ≤ n ∧ i = .int .i64 k ∧ Below w.heap.size w wr ∧ wr.rowIs w.heap.size 27 n f ∧ w.heap.size < wr.heap.size ∧ (∀ j x,j < k → l[j]? = some x → Bools (Above (w.heap.size + 1) wr) wr (f j) x)) (fun i _=>n - (intOf i).toNat)
 case atStart=>exact ⟨0,_,Nat.zero_le _,rfl,(Below.refl _ _).alloc (Nat.le_refl _) _,World.rowIs_made w _ n _,by simp,fun j x hj=>by omega⟩
 case round=>
  obtain ⟨k,f,hk,rfl,hbl,hrow,hsz,hf⟩:=hrel
  have HF:=hide hf
  clear hf hmk
  by_cases hlt:k < n
  ·obtain h0 | ⟨b,off,rfl,hb0,hc⟩:=HC.out
   ·omega
   obtain ⟨x,hx⟩:=get_some l Hn hlt
   obtain ⟨v0,hw,g0⟩:=hc k hlt x hx
   have hw2:=hw.keep (In.keep hbl).1 (In.keep hbl).2
   rw [← hbl.cell (p:=⟨b,_,none⟩) hb0] at g0
   have hsx:=HL.out x (List.mem_of_getElem? hx)
   have Hx:=hide hx
   clear hx hc hw
   go_wp2_with fail
   refine (toBoolS_any _ x wr hw2 hsx).mono ?_
   rintro e w1 ⟨u0,rfl,hb1,hu⟩
   have hu2:Bools (Above (w.heap.size + 1) w1) w1 u0 x:=hu.keep (same_refl _ _) fun y hy=>⟨by have:=hy.1; omega,hy.2⟩
   obtain ⟨a0,c0,rfl,-⟩:=hu
   have hbl1:Below w.heap.size w w1:=hbl.trans (hb1.mono hbl.size)
   have hrow1:=rowIs_keep hrow hb1
   have q0:=hrow1.cell (i:=k) (by omega)
   have r0:=hrow1.frozen k
   have hsz1:w.heap.size < w1.heap.size:=Nat.lt_of_lt_of_le hsz hb1.size
   clear g0 hw2 hsx
   have hfin:∀ j y,j < k → l[j]? = some y → Bools (Above (w.heap.size + 1) w1) w1 (f j) y:=fun j y hj hy=>(HF.out j y hj hy).call hb1
   have HF2:=hide hfin
   clear hfin HF
   go_wp2
   go_roundw
   case rel=>
    refine ⟨k + 1,_,by omega,by go_num,hbl1.setCell (Nat.le_refl _) _,hrow1.set k _,by simpa [World.setCell] using hsz1,fun j y hj hy=>?_⟩
    refine Bools.store ?_ _ _ (Nat.lt_succ_self _)
    by_cases e:j = k
    ·subst e; rw [Hx.out] at hy; cases hy
     rw [if_pos rfl]
     exact hu2
    ·rw [if_neg e]
     exact HF2.out j y (by omega) hy
   case measure=>simp [intOf]; omega
  ·go_wp2
   go_ret
   exact ⟨.slice (some ⟨w.heap.size,0,none⟩) n n,rfl,hbl,Rows2.made Hn.out hrow (fun j x hj=>HF.out j x (by omega)) hsz⟩
set_option maxHeartbeats 2000000 in
theorem toPlanC_any (s h:Int) (v1 v2 v3:Value) (d:PlanD) (w:World) (hv:PlanAt (In w) w v1 v2 v3 d) (hs:d.Small 1048576) :
  Calls Tryz.prog 16 #[.agg #[.int .i64 s,v1,v2,v3,.int .i64 h]] w fun e w'=>∃ u1 u2 u3,e = .returned (.agg #[.int .i64 s,u1,u2,u3,.int .i64 h]) ∧ Below w.heap.size w w' ∧ PlanAt (Fresh w w') w' u1 u2 u3 d ∧ WaysC (Fresh w w') w' u2 d.ways:=by
 have C0:=Copy.start w 26 37 (.int .i64 s) v1 v2 v3 (.int .i64 h) (.int .i64 0) (.slice none 0 0) (.slice none 0 0) (.slice none 0 0) (.int .i64 0) (.int .i64 s) (.slice none 0 0) (.slice none 0 0) (.slice none 0 0) (.int .i64 0)
 have hk:∀ {W D f g},Copy w 26 37 (fun i=>(#[.int .i64 s,v1,v2,v3,.int .i64 h]:Array Value)[i]!) D W f g → PlanAt (In W) W v1 v2 v3 d:=fun h=>hv.keep (In.keep h.below).1 (In.keep h.below).2
 obtain ⟨hs1,hs2,hs3,hs4,hs5⟩:=hs
 have H3:=hide hs3
 have H5:=hide hs5
 clear hv hs3 hs5
 go_enter Tryz.func16,Tryz.ntmps16
 go_wp2_with fail
 refine (toIntS_any v1 d.switches _ (hk C0).1 hs1).mono ?_
 rintro e w1 ⟨u0,rfl,hb1,n1⟩
 obtain ⟨a1,p1,rfl⟩:=Sl.size n1
 have C1:=(C0.call hb1).add C0 (keep_ints _ _) n1
 clear C0 n1 hb1
 obtain ⟨-,-,c1,-,-⟩:=C1.boxes
 have o1:=C1.out.cell (i:=1) (by omega)
 have f1:=C1.out.frozen 1
 have S1:=C1.store 1 (.slice a1 d.switches.length p1)
 go_wp2_with fail
 refine (toWaySC_any v2 d.ways _ (hk S1).2.1 hs2 H3.out).mono ?_
 clear c1 o1 f1 C1
 rintro e w2 ⟨u1,rfl,hb2,n2⟩
 obtain ⟨a2,p2,rfl⟩:=Sl.size n2
 have C2:=(S1.call hb2).add S1 (keep_waysC _ _) n2
 clear S1 n2 hb2
 obtain ⟨-,-,-,c1,-⟩:=C2.boxes
 have o1:=C2.out.cell (i:=2) (by omega)
 have f1:=C2.out.frozen 2
 have S2:=C2.store 2 (.slice a2 d.ways.length p2)
 go_wp2_with fail
 refine (toBoolSS_any v3 d.bars _ (hk S2).2.2 hs4 H5.out).mono ?_
 clear c1 o1 f1 C2
 rintro e w3 ⟨u2,rfl,hb3,n3⟩
 obtain ⟨a3,p3,rfl⟩:=Sl.size n3
 have C5:=(S2.call hb3).add S2 (keep_rows _ _) n3
 clear S2 n3 hb3
 obtain ⟨-,-,-,-,c1⟩:=C5.boxes
 have o0:w3.cell? ⟨w.heap.size + 1 + 1,0,none⟩ = some (.int .i64 s):=by simpa using C5.out.cell (i:=0) (by omega)
 have o1:w3.cell? ⟨w.heap.size + 1 + 1,1,none⟩ = some (.slice a1 d.switches.length p1):=by simpa using C5.out.cell (i:=1) (by omega)
 have o2:w3.cell? ⟨w.heap.size + 1 + 1,2,none⟩ = some (.slice a2 d.ways.length p2):=by simpa using C5.out.cell (i:=2) (by omega)
 have o3:=C5.out.cell (i:=3) (by omega)
 have f3:=C5.out.frozen 3
 have o4:=C5.out.cell (i:=4) (by omega)
 have f4:=C5.out.frozen 4
 have r0:=C5.res.cell (i:=0) (by omega)
 have r1:=C5.res.cell (i:=1) (by omega)
 have r2:=C5.res.cell (i:=2) (by omega)
 have r3:=C5.res.cell (i:=3) (by omega)
 have r4:=C5.res.cell (i:=4) (by omega)
 have k0:=C5.res.frozen 0
 have k1:=C5.res.frozen 1
 have k2:=C5.res.frozen 2
 have k3:=C5.res.frozen 3
 have k4:=C5.res.frozen 4
 have F:=((((((C5.store 3 (.slice a3 d.bars.length p3)).store 4 (.int .i64 h)).storeRes 0 (.int .i64 s)).storeRes 1 (.slice a1 d.switches.length p1)).storeRes 2 (.slice a2 d.ways.length p2)).storeRes 3 (.slice a3 d.bars.length p3)).storeRes 4 (.int .i64 h)
 have FF:=hide F
 clear C5 F
 go_wp2
 refine bodyPost_ret (v:=.agg #[.int .i64 s,.slice a1 d.switches.length p1,.slice a2 d.ways.length p2,.slice a3 d.bars.length p3,.int .i64 h]) (by simp [results,Tryz.results16,go_sem,r0,r1,r2,r3,r4]) rfl ⟨_,_,_,rfl,FF.out.below,?_⟩
 obtain ⟨⟨⟨-,m1⟩,m2⟩,m3⟩:=FF.out.made
 have hq:∀ W b,Above (w.heap.size + 1 + 1 + 1) W b → Fresh w W b:=fun W b hb=>⟨by have:=hb.1; omega,hb.2⟩
 exact ⟨⟨m1.keep (same_refl _ _) (hq _),m2.ways.keep (same_refl _ _) (hq _),m3.keep (same_refl _ _) (hq _)⟩,m2.keep (same_refl _ _) (hq _)⟩
theorem toPlan_any (s h:Int) (v1 v2 v3:Value) (d:PlanD) (w:World) (hv:PlanAt (In w) w v1 v2 v3 d) (hs:d.Small 1048576) :
  Calls Tryz.prog 16 #[.agg #[.int .i64 s,v1,v2,v3,.int .i64 h]] w fun e w'=>∃ u1 u2 u3,e = .returned (.agg #[.int .i64 s,u1,u2,u3,.int .i64 h]) ∧ Below w.heap.size w w' ∧ PlanAt (Fresh w w') w' u1 u2 u3 d:=
 (toPlanC_any s h v1 v2 v3 d w hv hs).mono fun _ _ ⟨u1,u2,u3,h1,h2,h3,_⟩=>⟨u1,u2,u3,h1,h2,h3⟩
end Go.Proofs.YtdhinkgjiapigabGreatDoor
namespace Go.Proofs.YtdhinkgjiapigabGreatDoor
open Go.RowKit Go.Deep
structure CopyK (w:World) (tb tr:TypeId) (k:Nat) (box:Nat → Value) (D:Dat) (W:World) (f g:Nat → Value):Prop where
 below:Below w.heap.size w W
 box:W.rowIs w.heap.size tb k box
 res:W.rowIs (w.heap.size + 1) tr k g
 out:W.rowIs (w.heap.size + 1 + 1) tr k f
 keep:Keepable D
 made:D (Above (w.heap.size + 1 + 1 + 1) W) W
theorem CopyK.call {w:World} {tb tr:TypeId} {k:Nat} {box:Nat → Value} {D:Dat} {W W':World} {f g:Nat → Value} (h:CopyK w tb tr k box D W f g) (hb:Below W.heap.size W W'):CopyK w tb tr k box D W' f g:=
 ⟨h.below.trans (hb.mono h.below.size),rowIs_keep h.box hb,rowIs_keep h.res hb,rowIs_keep h.out hb,h.keep,h.keep _ _ _ _ h.made (same_below hb fun _ hb=>hb.2.1) fun _ hx=>hx.call hb⟩
theorem CopyK.add {w:World} {tb tr:TypeId} {k:Nat} {box:Nat → Value} {D E:Dat} {V W:World} {f g f' g':Nat → Value} (h:CopyK w tb tr k box D W f g) (hV:CopyK w tb tr k box D V f' g') (hk:Keepable E) (he:E (Fresh V W) W):CopyK w tb tr k box (fun P W=>D P W ∧ E P W) W f g:=
 ⟨h.below,h.box,h.res,h.out,h.keep.and hk,h.made,hk _ _ _ _ he (same_refl _ _) fun b hb=>⟨by have:=hV.out.lt; have:=hb.1; omega,hb.2⟩⟩
theorem CopyK.start (w:World) (tb tr:TypeId) (k:Nat) (bs zs ys:Array Value) (hb:bs.size = k) (hz:zs.size = k) (hy:ys.size = k) :
  CopyK w tb tr k (fun i=>bs[i]!) (fun _ _=>True) (((w.alloc (.cells bs tb)).alloc (.cells zs tr)).alloc (.cells ys tr)) (fun i=>ys[i]!) (fun i=>zs[i]!):=by
 have B:=boxes3 w tb tr tr bs zs ys
 have r0:=B.row 0 tb bs rfl
 have r1:=B.row 1 tr zs rfl
 have r2:=B.row 2 tr ys rfl
 rw [hb] at r0
 rw [hz] at r1
 rw [hy] at r2
 exact ⟨B.below,r0,r1,r2,keep_true,trivial⟩
end Go.Proofs.YtdhinkgjiapigabGreatDoor
namespace Go.Proofs.YtdhinkgjiapigabGreatDoor
open Go.RowKit Go.Deep
def HeldIn (m:Nat) (W:World) (f:Nat → Value) (j:Nat) (x:HeldD):Prop:=
 f (j * 5) = .int .i64 x.state ∧ f (j * 5 + 1) = .int .i64 x.gone ∧ Bools (Above m W) W (f (j * 5 + 2)) x.been ∧ f (j * 5 + 3) = .bool x.shown ∧ f (j * 5 + 4) = .int .i64 x.timer
theorem HeldIn.call {m:Nat} {W W':World} {f:Nat → Value} {j:Nat} {x:HeldD} (h:HeldIn m W f j x) (hb:Below W.heap.size W W'):HeldIn m W' f j x:=
 ⟨h.1,h.2.1,h.2.2.1.call hb,h.2.2.2⟩
theorem Helds.made {w wr:World} {l:List HeldD} {n:Nat} {t:TypeId} {f:Nat → Value} (hn:l.length = n) (hrow:wr.rowIs w.heap.size t (n * 5) f)
  (hf:∀ j x,j < n → l[j]? = some x → HeldIn (w.heap.size + 1) wr f j x) (hlt:w.heap.size < wr.heap.size):Helds (Fresh w wr) wr (.slice (some ⟨w.heap.size,0,none⟩) n n) l:=by
 subst hn
 refine ⟨_,_,rfl,.inr ⟨w.heap.size,0,rfl,⟨Nat.le_refl _,hlt,hrow.frozen⟩,fun i hi x hx=>?_⟩⟩
 obtain ⟨h0,h1,h2,h3,h4⟩:=hf i x hi hx
 rw [Nat.zero_add,hrow.cell (by omega),hrow.cell (by omega),hrow.cell (by omega),hrow.cell (by omega),hrow.cell (by omega),h0,h1,h3,h4]
 exact ⟨_,h2.keep (same_refl _ _) fun b hb=>⟨by have:=hb.1; omega,hb.2⟩,rfl,rfl,rfl,rfl,rfl⟩
end Go.Proofs.YtdhinkgjiapigabGreatDoor

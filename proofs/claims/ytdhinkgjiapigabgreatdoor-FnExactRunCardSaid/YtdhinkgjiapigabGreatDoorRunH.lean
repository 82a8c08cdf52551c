import Derived.Test.YtdhinkgjiapigabGreatDoorMark6
import Derived.Test.YtdhinkgjiapigabGreatDoorEqG
import Derived.Test.YtdhinkgjiapigabGreatDoorDoS3
import Derived.Test.YtdhinkgjiapigabGreatDoorDoS3x
import Derived.Test.YtdhinkgjiapigabGreatDoorToA
import Derived.Test.YtdhinkgjiapigabGreatDoorRunD
import Derived.Test.YtdhinkgjiapigabGreatDoorToCr
import Derived.Test.YtdhinkgjiapigabGreatDoorSzAr
import Derived.Test.YtdhinkgjiapigabGreatDoorMarkA
import Derived.Test.YtdhinkgjiapigabGreatDoorRunJ
namespace Go.Proofs.YtdhinkgjiapigabGreatDoor
open Go.RowKit Go.Deep
open Classical
set_option maxHeartbeats 1000000 in
theorem toEvent_do (op of lie:Int) (w:World) :
  Calls Tryz.prog 22 #[.agg #[.int .i64 op,.int .i64 of,.int .i64 lie]] w fun e w'=>e = .returned (.agg #[.int .i64 op,.int .i64 of,.int .i64 lie]) ∧ Below w.heap.size w w':=by
 go_enter Tryz.func22,Tryz.ntmps22
 go_wp2
 exact bodyPost_ret (v:=.agg #[.int .i64 op,.int .i64 of,.int .i64 lie]) (by simp [results,Tryz.results22,go_sem]) rfl ⟨rfl,(((Below.refl _ _).alloc (Nat.le_refl _) _).alloc (by simp) _).alloc (by simp; omega) _⟩
theorem FrameM.off {B0 bn T N:Nat} {w:World} {v1 v2 v3:Value} {d:FrameD} {f:Nat → Value} (h:FrameM B0 w v1 v2 v3 d) (hr:w.rowIs bn T N f) (h1:T ≠ 4) (h2:T ≠ 90) (h3:T ≠ 93):FrameP (fun c=>B0 ≤ c ∧ c ≠ bn) w v1 v2 v3 d:=by
 rcases h with ⟨bo,bp,bw,bb,h⟩ | h
 ·refine .inl ⟨bo,bp,bw,bb,h.occ,h.points,h.ways,⟨h.po,?_⟩,fun z=>⟨h.pp z,?_⟩,fun z=>⟨h.pw z,?_⟩,fun i hi=>⟨h.pb i hi,?_⟩,h.inj,h.off⟩
  ·obtain ⟨_,_,hq⟩:=h.occ.row
   exact rowIs_ne hq hr h1.symm
  ·obtain ⟨_,_,hq⟩:=h.points.row z
   exact rowIs_ne hq hr h2.symm
  ·obtain ⟨_,_,hq⟩:=h.ways.row z
   exact rowIs_ne hq hr h3.symm
  ·obtain ⟨_,_,hq⟩:=h.ways.been hi
   exact rowIs_ne hq hr h1.symm
 ·exact .inr h
set_option maxHeartbeats 1000000 in
theorem eqDone_any (c:Int) (ok:Bool) (u1 u2 u3 v1 v2 v3:Value) (d:FrameD) (w:World) (hu:FrameAt (In w) w u1 u2 u3 d) (hv:FrameAt (In w) w v1 v2 v3 d) (hs:d.Small 1048576) :
  Calls Tryz.prog 24 #[.agg #[.int .i64 c,.bool ok,u1,u2,u3],.agg #[.int .i64 c,.bool ok,v1,v2,v3]] w fun e w'=>e = .returned (.bool true) ∧ Below w.heap.size w w':=by
 have T0:=boxes2 w 50 50 #[.int .i64 c,.bool ok,u1,u2,u3] #[.int .i64 c,.bool ok,v1,v2,v3]
 have HQ:=hide (eqFrame_any ok u1 u2 u3 v1 v2 v3 d _ (hu.keep (In.keep T0.below).1 (In.keep T0.below).2) (hv.keep (In.keep T0.below).1 (In.keep T0.below).2) hs)
 obtain ⟨a1,c1,rfl⟩:=hu.1.size
 obtain ⟨a2,c2,rfl⟩:=hu.2.1.size
 obtain ⟨a3,c3,rfl⟩:=hu.2.2.size
 obtain ⟨b1,e1,rfl⟩:=hv.1.size
 obtain ⟨b2,e2,rfl⟩:=hv.2.1.size
 obtain ⟨b3,e3,rfl⟩:=hv.2.2.size
 clear hu hv hs
 go_enter Tryz.func24,Tryz.ntmps24
 go_wp2_with fail
 refine HQ.out.mono ?_
 rintro e w1 ⟨rfl,hb⟩
 have T1:=T0.call hb
 clear HQ T0 hb
 go_wp2
 go_ret
 exact ⟨rfl,T1.below⟩
end Go.Proofs.YtdhinkgjiapigabGreatDoor
namespace Go.Proofs.YtdhinkgjiapigabGreatDoor
open Go.RowKit Go.Deep
def Rows (rs:List (Nat × TypeId × Array Value)) (W:World):Prop:=∀ r ∈ rs,W.rowIs r.1 r.2.1 r.2.2.size (fun i=>r.2.2[i]!)
theorem Rows.but {rs:List (Nat × TypeId × Array Value)} {W W':World} {K:Nat → Prop} (h:Rows rs W) (hB:But K W W') (hk:∀ r ∈ rs,K r.1):Rows rs W':=fun r hr=>hB.row (h r hr) (hk r hr)
theorem Rows.call {rs:List (Nat × TypeId × Array Value)} {W W':World} (h:Rows rs W) (hB:Below W.heap.size W W'):Rows rs W':=h.but (K:=fun _=>True) (But.of_calls hB) fun _ _=>trivial
theorem Rows.snoc {rs:List (Nat × TypeId × Array Value)} {W:World} (h:Rows rs W) {b:Nat} {t:TypeId} {c:Array Value} (hr:W.rowIs b t c.size (fun i=>c[i]!)):Rows (rs ++ [(b,t,c)]) W:=fun r hm=>by
 rcases List.mem_append.1 hm with z | z
 ·exact h r z
 ·obtain rfl:=List.mem_singleton.1 z
  exact hr
theorem Rows.cell {rs:List (Nat × TypeId × Array Value)} {W:World} (h:Rows rs W) {j b i:Nat} {t:TypeId} {c:Array Value} {v:Value} (hj:rs[j]? = some (b,t,c)) (hi:c[i]? = some v):W.cell? ⟨b,i,none⟩ = some v:=by
 have hr:=h _ (List.mem_of_getElem? hj)
 obtain ⟨hl,e⟩:=Array.getElem?_eq_some_iff.1 hi
 rw [hr.cell (i:=i) hl]
 show some c[i]! = some v
 rw [getElem!_pos c i hl,e]
theorem Rows.cells5 {rs:List (Nat × TypeId × Array Value)} {W:World} (h:Rows rs W) {j b:Nat} {t:TypeId} {x0 x1 x2 x3 x4:Value} (hj:rs[j]? = some (b,t,#[x0,x1,x2,x3,x4])):W.cell? ⟨b,0,none⟩ = some x0 ∧ W.cell? ⟨b,1,none⟩ = some x1 ∧ W.cell? ⟨b,2,none⟩ = some x2 ∧ W.cell? ⟨b,3,none⟩ = some x3 ∧ W.cell? ⟨b,4,none⟩ = some x4:=⟨h.cell hj rfl,h.cell hj rfl,h.cell hj rfl,h.cell hj rfl,h.cell hj rfl⟩
end Go.Proofs.YtdhinkgjiapigabGreatDoor
namespace Go.Proofs.YtdhinkgjiapigabGreatDoor
open Go.RowKit Go.Deep
open Classical
theorem Tryz.infoEvent:(Tryz.prog.info? 52).map (fun i=>(i.zero,i.size,i.bytes)) = some (some (.agg #[.int .i64 0,.int .i64 0,.int .i64 0]),3,24):=by kernel_rfl
theorem Evs.made {w wr:World} {l:List (Int × Int × Int)} {n:Nat} {t:TypeId} {f:Nat → Value} (hn:l.length = n) (hrow:wr.rowIs w.heap.size t (n * 3) f)
  (hf:∀ j x,j < n → l[j]? = some x → f (j * 3) = .int .i64 x.1 ∧ f (j * 3 + 1) = .int .i64 x.2.1 ∧ f (j * 3 + 2) = .int .i64 x.2.2):Evs (Fresh w wr) wr (.slice (some ⟨w.heap.size,0,none⟩) n n) l:=by
 subst hn
 refine ⟨_,_,rfl,.inr ⟨w.heap.size,0,rfl,⟨Nat.le_refl _,hrow.lt,hrow.frozen⟩,fun i hi x hx=>?_⟩⟩
 rw [Nat.zero_add,hrow.cell (by omega),hrow.cell (by omega),hrow.cell (by omega),(hf i x hi hx).1,(hf i x hi hx).2.1,(hf i x hi hx).2.2]
 exact ⟨rfl,rfl,rfl⟩
set_option maxHeartbeats 1000000 in
theorem toEventS_any (v:Value) (l:List (Int × Int × Int)) (w:World) (hv:Evs (In w) w v l) (hn:l.length ≤ 1048576) :
  Calls Tryz.prog 31 #[v] w fun e w'=>∃ v',e = .returned v' ∧ Below w.heap.size w w' ∧ Evs (Fresh w w') w' v' l:=by
 obtain ⟨a,cap,rfl,hc⟩:=hv
 generalize hn':l.length = n at *
 have Hn:Hid (l.length = n):=hn'
 have HC:=hide hc
 clear hc hn'
 have hmk:=run_make_cells (P:=Tryz.prog) 63 52 _ 3 24 Tryz.underlying63 Tryz.infoEvent n (by omega) (by omega)
 go_enter Tryz.func31,Tryz.ntmps31
 go_wp2
 go_loopw [4] (fun i wr=>∃ (k:Nat) (f:Nat → Value),k ≤ n ∧ i = .int .i64 k ∧ Below w.heap.size w wr ∧ wr.rowIs w.heap.size 52 (n * 3) f ∧ (∀ j x,j < k → l[j]? = some x → f (j * 3) = .int .i64 x.1 ∧ f (j * 3 + 1) = .int .i64 x.2.1 ∧ f (j * 3 + 2) = .int .i64 x.2.2)) (fun i _=>n - (intOf i).toNat)
 case atStart=>exact ⟨0,_,Nat.zero_le _,rfl,(Below.refl _ _).alloc (Nat.le_refl _) _,rowIs_made_any w _ (n * 3) _,fun j x hj=>by omega⟩
 case round=>
  obtain ⟨k,f,hk,rfl,hbl,hrow,hf⟩:=hrel
  have HF:=hide hf
  clear hf hmk
  by_cases hlt:k < n
  ·obtain h0 | ⟨b,off,rfl,hb0,hc⟩:=HC.out
   ·omega
   obtain ⟨x,hx⟩:=get_some l Hn hlt
   obtain ⟨g0,g1,g2⟩:=hc k hlt x hx
   rw [← hbl.cell (p:=⟨b,_,none⟩) hb0] at g0 g1 g2
   have Hx:=hide hx
   clear hx hc
   go_wp2_with fail
   refine (toEvent_do x.1 x.2.1 x.2.2 wr).mono ?_
   rintro e w1 ⟨rfl,hb1⟩
   have hbl1:Below w.heap.size w w1:=hbl.trans (hb1.mono hbl.size)
   have hrow1:=rowIs_keep hrow hb1
   have q0:=hrow1.cell (i:=k * 3) (by omega)
   have q1:=hrow1.cell (i:=k * 3 + 1) (by omega)
   have q2:=hrow1.cell (i:=k * 3 + 2) (by omega)
   have r0:=hrow1.frozen (k * 3)
   have r1:=hrow1.frozen (k * 3 + 1)
   have r2:=hrow1.frozen (k * 3 + 2)
   clear g0 g1 g2
   go_wp2
   go_roundw
   case rel=>exact ⟨k + 1,_,by omega,by go_num,((hbl1.setCell (Nat.le_refl _) _).setCell (Nat.le_refl _) _).setCell (Nat.le_refl _) _,((hrow1.set (k * 3) _).set (k * 3 + 1) _).set (k * 3 + 2) _,fun j y hj hy=>by
    by_cases e:j = k
    ·subst e; rw [Hx.out] at hy; cases hy; rw [if_neg (by omega),if_neg (by omega),if_pos rfl,if_neg (by omega),if_pos rfl,if_pos rfl]; exact ⟨rfl,rfl,rfl⟩
    ·rw [if_neg (by omega),if_neg (by omega),if_neg (by omega),if_neg (by omega),if_neg (by omega),if_neg (by omega),if_neg (by omega),if_neg (by omega),if_neg (by omega)]; exact HF.out j y (by omega) hy⟩
   case measure=>simp [intOf]; omega
  ·go_wp2
   go_ret
   exact ⟨.slice (some ⟨w.heap.size,0,none⟩) n n,rfl,hbl,Evs.made Hn.out hrow fun j x hj=>HF.out j x (by omega)⟩
set_option maxHeartbeats 1000000 in
theorem szEventS_any (a:Option Addr) (n cap:Nat) (left:Int) (w:World) (hn:n ≤ 9223372036854775807) (h0:0 ≤ left) (h1:left ≤ 1048576) :
  Calls Tryz.prog 29 #[.slice a n cap,.int .i64 left] w fun e w'=>∃ r,e = .returned (.int .i64 r) ∧ w' = w ∧ SzOk left r (n ≤ 1048576):=by
 go_enter Tryz.func29,Tryz.ntmps29
 go_wp2
 ·go_ret
  exact ⟨_,rfl,rfl,.inl rfl⟩
 ·go_ret
  exact ⟨_,rfl,rfl,.inr ⟨by omega,by omega,by omega⟩⟩
set_option maxHeartbeats 1000000 in
theorem eqEvent_any (x y z:Int) (w:World) :
  Calls Tryz.prog 102 #[.agg #[.int .i64 x,.int .i64 y,.int .i64 z],.agg #[.int .i64 x,.int .i64 y,.int .i64 z]] w fun e w'=>e = .returned (.bool true) ∧ Below w.heap.size w w':=by
 go_enter Tryz.func102,Tryz.ntmps102
 go_wp2
 go_ret
 exact ⟨rfl,(((Below.refl _ _).alloc (Nat.le_refl _) _).alloc (by simp) _)⟩
set_option maxHeartbeats 1000000 in
theorem eqEventS_any (u v:Value) (l:List (Int × Int × Int)) (w:World) (hu:Evs (In w) w u l) (hv:Evs (In w) w v l) (hn:l.length ≤ 1048576) :
  Calls Tryz.prog 34 #[u,v] w fun e w'=>e = .returned (.bool true) ∧ Below w.heap.size w w':=by
 obtain ⟨a,cap,rfl,hc⟩:=hu
 obtain ⟨a2,cap2,rfl,hc2⟩:=hv
 generalize hn':l.length = n at *
 have Hn:Hid (l.length = n):=hn'
 have HC:=hide hc
 have HD:=hide hc2
 clear hc hc2 hn'
 go_enter Tryz.func34,Tryz.ntmps34
 go_wp2
 go_loopw [5] (fun i wr=>∃ (k:Nat),k ≤ n ∧ i = .int .i64 k ∧ Below w.heap.size w wr) (fun i _=>n - (intOf i).toNat)
 case atStart=>exact ⟨0,Nat.zero_le _,rfl,Below.refl _ _⟩
 case round=>
  obtain ⟨k,hk,rfl,hbl⟩:=hrel
  by_cases hlt:k < n
  ·obtain h0 | ⟨b,off,rfl,hb0,hc⟩:=HC.out
   ·omega
   obtain h0 | ⟨b2,off2,rfl,hb2,hc2⟩:=HD.out
   ·omega
   obtain ⟨x,hx⟩:=get_some l Hn hlt
   obtain ⟨g0,g1,g4⟩:=hc k hlt x hx
   obtain ⟨g2,g3,g5⟩:=hc2 k hlt x hx
   rw [← hbl.cell (p:=⟨b,_,none⟩) hb0] at g0 g1 g4
   rw [← hbl.cell (p:=⟨b2,_,none⟩) hb2] at g2 g3 g5
   have hlt':(k:Int) < (n:Int):=by omega
   have hne:=Ext.any wr
   have E0:=Ext.cell g0
   have E1:=Ext.cell g1
   have E2:=Ext.cell g2
   have E3:=Ext.cell g3
   have E4:=Ext.cell g4
   have E5:=Ext.cell g5
   have HB:=hide hbl
   clear hx hc hc2 hbl g0 g1 g2 g3 g4 g5
   go_wp2
   refine wp_region_ext (by kernel_rfl) (by kernel_rfl) ?_
   repeat (go_big_quiet_step ((go_at_call 102; exact ext_of (eqEvent_any _ _ _ _))))
   refine wpQuiet_nil ?_
   rintro _ ⟨nq,rfl⟩
   go_wp2
   go_roundw
   case rel=>exact ⟨k + 1,by omega,by go_num,HB.out.trans (nq.below.mono HB.out.size)⟩
   case measure=>simp [intOf]; omega
  ·go_wp2
   go_ret
   exact ⟨rfl,hbl⟩
def EvsS (P:Nat → Prop) (w:World) (v:Value) (n:Nat):Prop:=Sl P v n fun b off i=>∃ x y z,w.cell? ⟨b,off + i * 3,none⟩ = some (.int .i64 x) ∧ w.cell? ⟨b,off + i * 3 + 1,none⟩ = some (.int .i64 y) ∧ w.cell? ⟨b,off + i * 3 + 2,none⟩ = some (.int .i64 z)
theorem Evs.shape {P:Nat → Prop} {w:World} {v:Value} {l:List (Int × Int × Int)} (h:Evs P w v l):EvsS P w v l.length:=
 Sl.imp h (fun _ h=>h) fun b off i _ hi he=>by obtain ⟨x,hx⟩:=lt_get l hi; exact ⟨x.1,x.2.1,x.2.2,he x hx⟩
set_option maxHeartbeats 1000000 in
theorem markEventS_any (P:Nat → Prop) (v:Value) (n:Nat) (k:Int) (w:World) (hv:EvsS P w v n) (ht:May P w) (hn:n ≤ 1048576) (h0:0 ≤ k) (h1:k ≤ 1152921504606846976) :
  Calls Tryz.prog 35 #[v,.int .i64 k] w fun e w'=>e = .returned (.int .i64 (k + 3 * n)) ∧ Marked P w w':=by
 obtain ⟨a,cap,rfl,hc⟩:=hv
 have HC:=hide hc
 have HT:=hide ht
 clear hc ht
 go_enter Tryz.func35,Tryz.ntmps35
 go_wp2
 go_loopw [1,5] (fun kv i wr=>∃ (j:Nat) (q:Int),j ≤ n ∧ i = .int .i64 j ∧ q = k + 3 * j ∧ kv = .int .i64 q ∧ Marked P w wr) (fun _ i _=>n - (intOf i).toNat)
 case atStart=>exact ⟨0,_,Nat.zero_le _,rfl,by simp,rfl,Marked.refl _ _⟩
 case round=>
  obtain ⟨j,q,hj,rfl,hq,rfl,hm⟩:=hrel
  have HM:=hide hm
  clear hm
  by_cases hlt:j < n
  ·obtain z0 | ⟨b,off,rfl,hb0,hc⟩:=HC.out
   ·omega
   obtain ⟨x,y,z,g0',g1',g2'⟩:=hc j hlt
   obtain ⟨x0,g0⟩:=HM.out.int ⟨x,g0'⟩
   obtain ⟨y0,g1⟩:=HM.out.int ⟨y,g1'⟩
   obtain ⟨z0,g2⟩:=HM.out.int ⟨z,g2'⟩
   have hfr:=HM.out.thaw b (HT.out.there b hb0) (HT.out.thaw b hb0) (off + j * 3)
   have hfr2:=HM.out.thaw b (HT.out.there b hb0) (HT.out.thaw b hb0) (off + j * 3 + 1)
   have hfr3:=HM.out.thaw b (HT.out.there b hb0) (HT.out.thaw b hb0) (off + j * 3 + 2)
   have G0:=hide g0
   have G1:=hide g1
   have G2:=hide g2
   clear g0' g1' g2'
   have Hb:=hide hb0
   clear hc hb0
   have Hq:=hide hq
   have hq2:q ≤ 1152921504606846976 + 4194304:=by omega
   have hq0:0 ≤ q:=by omega
   clear hq
   go_wp2
   go_roundw
   case rel=>exact ⟨j + 1,_,by omega,by go_num,by have:=Hq.out; omega,rfl,((HM.out.setInt G0.out Hb.out _).setInt (by rw [World.cell?_setCell_other _ _ _ _ (fun z=>by have:=congrArg Addr.off z; simp at this)]; exact G1.out) Hb.out _).setInt (by rw [World.cell?_setCell_other _ _ _ _ (fun z=>by have:=congrArg Addr.off z; simp at this),World.cell?_setCell_other _ _ _ _ (fun z=>by have:=congrArg Addr.off z; simp at this)]; exact G2.out) Hb.out _⟩
   case measure=>simp [intOf]; omega
  ·have Hq:=hide hq
   clear hq
   go_wp2
   go_ret
   exact ⟨ret_int (by have:=Hq.out; omega),HM.out⟩
end Go.Proofs.YtdhinkgjiapigabGreatDoor
namespace Go.Proofs.YtdhinkgjiapigabGreatDoor
open Go.RowKit Go.Deep
open Classical
def DonesA (P:Nat → Prop) (w:World) (v:Value) (l:List (Int × FrameD)):Prop:=
 Sl P v l.length fun b off i=>∀ x,l[i]? = some x → ∃ u1 u2 u3,FrameAt P w u1 u2 u3 x.2 ∧ w.cell? ⟨b,off + i * 5,none⟩ = some (.int .i64 x.1) ∧ w.cell? ⟨b,off + i * 5 + 1,none⟩ = some (.bool x.2.ok) ∧ w.cell? ⟨b,off + i * 5 + 2,none⟩ = some u1 ∧ w.cell? ⟨b,off + i * 5 + 3,none⟩ = some u2 ∧ w.cell? ⟨b,off + i * 5 + 4,none⟩ = some u3
theorem DonesA.keep {P Q:Nat → Prop} {w w':World} {v:Value} {l:List (Int × FrameD)} (h:DonesA P w v l) (hs:Same P w w') (hP:∀ b,P b → Q b):DonesA Q w' v l:=
 Sl.imp h hP fun b off i hb _ he x hx=>by
  obtain ⟨u1,u2,u3,hf,hc⟩:=he x hx
  refine ⟨u1,u2,u3,hf.keep hs hP,?_⟩
  rw [hs b hb,hs b hb,hs b hb,hs b hb,hs b hb]; exact hc
theorem DonesR.read {w w':World} {v:Value} {l:List (Int × FrameD)} (h:DonesR w w' v l):DonesA (fun c=>w.heap.size ≤ c ∧ c < w'.heap.size) w' v l:=by
 obtain ⟨xs,lo,hown,hd,htop,hlow,hst⟩:=h
 have hle:∀ j,j ≤ l.length → lo j ≤ w'.heap.size:=fun j hj=>by
  have:∀ n,j + n = l.length → lo j ≤ w'.heap.size:=fun n=>by
   induction n generalizing j with
   | zero=>intro e; rw [show j = l.length by omega]; exact htop
   | succ n ih=>intro e; exact Nat.le_trans (hst j (by omega)) (ih (j + 1) (by omega) (by omega))
  exact this (l.length - j) (by omega)
 rcases Nat.eq_zero_or_pos l.length with z | z
 ·obtain ⟨a,c,rfl⟩:=own_slice hown
  exact ⟨a,c,rfl,.inl z⟩
 ·obtain ⟨g,cap,f,rfl,hb,hr,hN,hf⟩:=own_row hown z
  refine ⟨_,cap,rfl,.inr ⟨g,0,rfl,⟨hb,hr.lt⟩,fun i hi x hx=>?_⟩⟩
  obtain ⟨u1,u2,u3,bo,bp,bw,bb,h0,h1,h2,h3,h4,h5⟩:=hd i x hx
  refine ⟨u1,u2,u3,(h5.bound fun c hc hl=>⟨Nat.le_trans (hlow i) hc.1,hl⟩).read,?_⟩
  rw [Nat.zero_add,hr.cell (by omega),hr.cell (by omega),hr.cell (by omega),hr.cell (by omega),hr.cell (by omega),hf _ _ h0,hf _ _ h1,hf _ _ h2,hf _ _ h3,hf _ _ h4]
  exact ⟨rfl,rfl,rfl,rfl,rfl⟩
set_option maxHeartbeats 2000000 in
theorem eqDoneS_any (u v:Value) (l:List (Int × FrameD)) (w:World) (hu:DonesA (In w) w u l) (hv:DonesA (In w) w v l) (hn:l.length ≤ 1048576) (hs:∀ x ∈ l,x.2.Small 1048576) :
  Calls Tryz.prog 33 #[u,v] w fun e w'=>e = .returned (.bool true) ∧ Below w.heap.size w w':=by
 obtain ⟨a,cap,rfl,hc⟩:=hu
 obtain ⟨a2,cap2,rfl,hc2⟩:=hv
 generalize hn':l.length = n at *
 have Hn:Hid (l.length = n):=hn'
 have HC:=hide hc
 have HD:=hide hc2
 have HS:=hide hs
 clear hc hc2 hn' hs
 go_enter Tryz.func33,Tryz.ntmps33
 go_wp2
 go_loopw [5] (fun i wr=>∃ (k:Nat),k ≤ n ∧ i = .int .i64 k ∧ Below w.heap.size w wr) (fun i _=>n - (intOf i).toNat)
 case atStart=>exact ⟨0,Nat.zero_le _,rfl,Below.refl _ _⟩
 case round=>
  obtain ⟨k,hk,rfl,hbl⟩:=hrel
  rename World=>wr
  by_cases hlt:k < n
  ·obtain h0 | ⟨b,off,rfl,hb0,hc⟩:=HC.out
   ·omega
   obtain h0 | ⟨b2,off2,rfl,hb2,hc2⟩:=HD.out
   ·omega
   obtain ⟨x,hx⟩:=get_some l Hn hlt
   obtain ⟨u1,u2,u3,hfu,g0,g1,g2,g3,g4⟩:=hc k hlt x hx
   obtain ⟨v1,v2,v3,hfv,e0,e1,e2,e3,e4⟩:=hc2 k hlt x hx
   rw [← hbl.cell (p:=⟨b,_,none⟩) hb0] at g0 g1 g2 g3 g4
   rw [← hbl.cell (p:=⟨b2,_,none⟩) hb2] at e0 e1 e2 e3 e4
   have hlt':(k:Int) < (n:Int):=by omega
   have KU:=hide fun (W:World) (h:Below wr.heap.size wr W)=>(hfu.keep (Q:=In wr) (In.keep hbl).1 (In.keep hbl).2).keep (Q:=In W) (In.keep h).1 (In.keep h).2
   have KV:=hide fun (W:World) (h:Below wr.heap.size wr W)=>(hfv.keep (Q:=In wr) (In.keep hbl).1 (In.keep hbl).2).keep (Q:=In W) (In.keep h).1 (In.keep h).2
   obtain ⟨a1,c1,rfl⟩:=hfu.1.size
   obtain ⟨a4,c4,rfl⟩:=hfu.2.1.size
   obtain ⟨a5,c5,rfl⟩:=hfu.2.2.size
   obtain ⟨a6,c6,rfl⟩:=hfv.1.size
   obtain ⟨a7,c7,rfl⟩:=hfv.2.1.size
   obtain ⟨a8,c8,rfl⟩:=hfv.2.2.size
   have hsx:=HS.out x (List.mem_of_getElem? hx)
   have HSX:=hide hsx
   have hne:=Ext.any wr
   have E0:=Ext.cell g0
   have E1:=Ext.cell g1
   have E2:=Ext.cell g2
   have E3:=Ext.cell g3
   have E4:=Ext.cell g4
   have F0:=Ext.cell e0
   have F1:=Ext.cell e1
   have F2:=Ext.cell e2
   have F3:=Ext.cell e3
   have F4:=Ext.cell e4
   have HB:=hide hbl
   clear hx hc hc2 hbl g0 g1 g2 g3 g4 e0 e1 e2 e3 e4 hfu hfv hsx
   go_wp2
   refine wp_region_ext (by kernel_rfl) (by kernel_rfl) ?_
   repeat (go_big_quiet_step ((go_at_call 24; exact ext_of (eqDone_any _ _ _ _ _ _ _ _ x.2 _ (KU.out _ (Ext.below _)) (KV.out _ (Ext.below _)) HSX.out))))
   refine wpQuiet_nil ?_
   rintro _ ⟨nq,rfl⟩
   go_wp2
   go_roundw
   case rel=>exact ⟨k + 1,by omega,by go_num,HB.out.trans (nq.below.mono HB.out.size)⟩
   case measure=>simp [intOf]; omega
  ·go_wp2
   go_ret
   exact ⟨rfl,hbl⟩
end Go.Proofs.YtdhinkgjiapigabGreatDoor
namespace Go.Proofs.YtdhinkgjiapigabGreatDoor
open Go.RowKit Go.Deep
open Classical
def cntL (l:List (Int × FrameD)):Int:=(l.map fun x=>2 + cntF x.2).sum
def posL (k:Int) (l:List (Int × FrameD)) (j:Nat):Int:=k + cntL (l.take j)
def markE (q:Int) (x:Int × FrameD):Int × FrameD:=(q,{ markF (q + 1 + 1) x.2 with ok:=m3 (q + 1) })
def markL (k:Int) (l:List (Int × FrameD)):List (Int × FrameD):=l.mapIdx fun i x=>markE (posL k l i) x
theorem markL_length (k:Int) (l:List (Int × FrameD)):(markL k l).length = l.length:=by simp [markL]
theorem markL_get {k:Int} {l:List (Int × FrameD)} {i:Nat} {x:Int × FrameD} (h:l[i]? = some x):(markL k l)[i]? = some (markE (posL k l i) x):=by simp [markL,h]
theorem posL_zero (k:Int) (l:List (Int × FrameD)):posL k l 0 = k:=by simp [posL,cntL]
theorem posL_succ {k:Int} {l:List (Int × FrameD)} {j:Nat} {x:Int × FrameD} (h:l[j]? = some x):posL k l (j + 1) = posL k l j + (2 + cntF x.2):=by
 unfold posL cntL
 rw [List.take_add_one,h]
 simp only [List.map_append,List.sum_append,Option.toList_some,List.map_cons,List.map_nil,List.sum_cons,List.sum_nil]
 omega
theorem posL_bound {k:Int} {l:List (Int × FrameD)} (h:∀ x ∈ l,cntF x.2 ≤ 1048576) (j:Nat):k ≤ posL k l j ∧ posL k l j ≤ k + 1048578 * j:=by
 induction j with
 | zero=>rw [posL_zero]; omega
 | succ j ih=>
  cases hx:l[j]? with
  | none=>
   have e:posL k l (j + 1) = posL k l j:=by
    unfold posL
    rw [List.take_of_length_le (by have:=List.getElem?_eq_none_iff.1 hx; omega:l.length ≤ j + 1),List.take_of_length_le (by have:=List.getElem?_eq_none_iff.1 hx; omega:l.length ≤ j)]
   rw [e]
   omega
  | some x=>
   rw [posL_succ hx]
   have:=h x (List.mem_of_getElem? hx)
   have:=cntF_nn x.2
   omega
def DonesO (base:Nat) (W:World) (v:Value) (l:List (Int × FrameD)) (lo:Nat → Nat):Prop:=
 (∃ a cap,v = .slice a l.length cap ∧ (l.length = 0 ∨ ∃ g N f,a = some ⟨g,0,none⟩ ∧ base ≤ g ∧ W.rowIs g 50 N f ∧ l.length * 5 ≤ N ∧ ∀ (j:Nat) x,l[j]? = some x → ∃ bo bp bw bb,f (j * 5) = .int .i64 x.1 ∧ f (j * 5 + 1) = .bool x.2.ok ∧ OFrame (fun c=>(lo j ≤ c ∧ c < lo (j + 1)) ∧ c ≠ g) W (f (j * 5 + 2)) (f (j * 5 + 3)) (f (j * 5 + 4)) x.2 bo bp bw bb)) ∧
 (∀ j,base ≤ lo j) ∧ (∀ j,j < l.length → lo j ≤ lo (j + 1)) ∧ lo l.length ≤ W.heap.size
theorem DonesR.owned {w w':World} {v:Value} {l:List (Int × FrameD)} (h:DonesR w w' v l):∃ lo,DonesO w.heap.size w' v l lo:=by
 obtain ⟨xs,lo,hown,hd,htop,hlow,hst⟩:=h
 refine ⟨lo,?_,hlow,hst,htop⟩
 rcases Nat.eq_zero_or_pos l.length with z | z
 ·obtain ⟨a,c,rfl⟩:=own_slice hown
  exact ⟨a,c,rfl,.inl z⟩
 ·obtain ⟨g,cap,f,rfl,hb,hr,hN,hf⟩:=own_row hown z
  refine ⟨_,cap,rfl,.inr ⟨g,_,f,rfl,hb,hr,hN,fun j x hx=>?_⟩⟩
  obtain ⟨u1,u2,u3,bo,bp,bw,bb,h0,h1,h2,h3,h4,h5⟩:=hd j x hx
  rw [hf _ _ h0,hf _ _ h1,hf _ _ h2,hf _ _ h3,hf _ _ h4]
  refine ⟨bo,bp,bw,bb,rfl,rfl,h5.away fun t N f b hr' ht=>rowIs_ne hr' hr ?_⟩
  rcases ht with rfl | rfl | rfl <;> decide
theorem DonesO.but {base:Nat} {W W':World} {v:Value} {l:List (Int × FrameD)} {lo:Nat → Nat} {K:Nat → Prop} (h:DonesO base W v l lo) (hB:But K W W') (hk:∀ c,base ≤ c → K c):DonesO base W' v l lo:=by
 obtain ⟨⟨a,cap,rfl,hc⟩,hlow,hst,htop⟩:=h
 refine ⟨⟨a,cap,rfl,?_⟩,hlow,hst,Nat.le_trans htop hB.size⟩
 rcases hc with z | ⟨g,N,f,e,hg,hr,hN,hf⟩
 ·exact .inl z
 ·refine .inr ⟨g,N,f,e,hg,hB.row hr (hk g hg),hN,fun j x hx=>?_⟩
  obtain ⟨bo,bp,bw,bb,h0,h1,h2⟩:=hf j x hx
  exact ⟨bo,bp,bw,bb,h0,h1,h2.but hB (fun c hc=>hk c (Nat.le_trans (hlow j) hc.1.1)) fun _ z=>z⟩
theorem DonesO.read {base:Nat} {W:World} {v:Value} {l:List (Int × FrameD)} {lo:Nat → Nat} (h:DonesO base W v l lo):DonesA (In W) W v l:=by
 obtain ⟨⟨a,cap,rfl,hc⟩,-,-,-⟩:=h
 rcases hc with z | ⟨g,N,f,rfl,hg,hr,hN,hf⟩
 ·exact ⟨a,cap,rfl,.inl z⟩
 ·refine ⟨_,cap,rfl,.inr ⟨g,0,rfl,hr.lt,fun i hi x hx=>?_⟩⟩
  obtain ⟨bo,bp,bw,bb,h0,h1,h2⟩:=hf i x hx
  refine ⟨_,_,_,(h2.bound (Q:=In W) fun _ _ hc=>hc).read,?_⟩
  rw [Nat.zero_add,hr.cell (by omega),hr.cell (by omega),hr.cell (by omega),hr.cell (by omega),hr.cell (by omega),h0,h1]
  exact ⟨rfl,rfl,rfl,rfl,rfl⟩
set_option maxRecDepth 100000 in
set_option maxHeartbeats 2000000 in
theorem heldDoneS_any (v:Value) (l:List (Int × FrameD)) (k:Int) (w:World) (hv:DonesA (In w) w v (markL k l)) (hn:l.length ≤ 1048576) (hs:∀ x ∈ l,x.2.Small 1048576) (hc:∀ x ∈ l,cntF x.2 ≤ 1048576) (h0:0 ≤ k) (h1:k ≤ 1099511627776) :
  Calls Tryz.prog 37 #[v,.int .i64 k] w fun e w'=>e = .returned (.int .i64 (posL k l l.length)) ∧ w' = w:=by
 obtain ⟨a,cap,rfl,hcl⟩:=hv
 rw [markL_length] at hcl ⊢
 have HC:=hide hcl
 have HPB:=hide (posL_bound (k:=k) hc)
 have HS:=hide hs
 clear hcl hc hs
 go_enter Tryz.func37,Tryz.ntmps37
 go_wp2
 go_loop [1,5] (fun kv i=>∃ (j:Nat) (q:Int),j ≤ l.length ∧ i = .int .i64 j ∧ q = posL k l j ∧ kv = .int .i64 q) (fun _ i=>l.length - (intOf i).toNat)
 case atStart=>exact ⟨0,_,Nat.zero_le _,rfl,(posL_zero k l).symm,rfl⟩
 case round=>
  obtain ⟨j,q,hj,rfl,hq,rfl⟩:=hrel
  have Hq:=hide hq
  have hqb:=HPB.out j
  rw [← hq] at hqb
  have hq0:0 ≤ q:=by omega
  have hq2:q ≤ 1125899906842624 - 1099515822080:=by omega
  clear hq hqb
  by_cases hlt:j < l.length
  ·obtain z0 | ⟨b,off,rfl,hb0,hcc⟩:=HC.out
   ·omega
   obtain ⟨x,hx⟩:=get_some l (hide rfl) hlt
   obtain ⟨u1,u2,u3,hf,g0,g1,g2,g3,g4⟩:=hcc j hlt _ (markL_get hx)
   rw [← Hq.out] at hf g0 g1
   change w.cell? ⟨b,off + j * 5,none⟩ = some (.int .i64 q) at g0
   change w.cell? ⟨b,off + j * 5 + 1,none⟩ = some (.bool ((q + 1) % 3 == 0)) at g1
   obtain ⟨hs1,hs2,hs3,hs4⟩:=HS.out x (List.mem_of_getElem? hx)
   have hcs:=cntH_small hs3 hs4
   have hf1:Bools (In w) w u1 (marksB (q + 1 + 1) x.2.occ.length):=hf.1
   have hf2:Lies (In w) w u2 (marksP (q + 1 + 1 + x.2.occ.length) x.2.points.length):=hf.2.1
   have hf3:Helds (In w) w u3 (markHs (q + 1 + 1 + x.2.occ.length + 2 * x.2.points.length) x.2.ways):=hf.2.2
   have H1:=hide (heldBoolS_any _ x.2.occ.length (q + 1 + 1) w hf1 hs1 (by omega) (by omega))
   have H2:=hide (heldPointS_any _ x.2.points.length (q + 1 + 1 + x.2.occ.length) w hf2 hs2 (by omega) (by omega))
   have H3:=hide (heldHeldS_any _ x.2.ways (q + 1 + 1 + x.2.occ.length + 2 * x.2.points.length) w hf3 hs3 hs4 (by omega) (by omega))
   obtain ⟨a1,c1,rfl⟩:=hf1.size
   obtain ⟨a2,c2,rfl⟩:=hf2.size
   obtain ⟨a3,c3,rfl⟩:=hf3.size
   have hl1:=marksB_length (q + 1 + 1) x.2.occ.length
   have hl2:=marksP_length (q + 1 + 1 + x.2.occ.length) x.2.points.length
   have hl3:=markHs_length (q + 1 + 1 + x.2.occ.length + 2 * x.2.points.length) x.2.ways
   rw [hl1] at H1 g2
   rw [hl2] at H2 g3
   rw [hl3] at H3 g4
   have hps:=posL_succ (k:=k) hx
   rw [← Hq.out] at hps
   have HPS:=hide hps
   have hjl:(j:Int) < (l.length:Int):=by omega
   have t1:decide (q + 1 + 1 + (x.2.occ.length:Int) < 0) = false:=by simp; omega
   have t2:decide (q + 1 + 1 + (x.2.occ.length:Int) + 2 * (x.2.points.length:Int) < 0) = false:=by simp; omega
   have t3:decide (q + 1 + 1 + (x.2.occ.length:Int) + 2 * (x.2.points.length:Int) + (cntH x.2.ways:Int) < 0) = false:=by simp; omega
   clear hcc hx hf hf1 hf2 hf3 hl1 hl2 hl3 hps hs4
   go_wp2_with fail
   refine H1.out.mono ?_
   rintro e w1 ⟨rfl,rfl⟩
   go_wp2_with fail
   refine H2.out.mono ?_
   rintro e w2 ⟨rfl,rfl⟩
   go_wp2_with fail
   refine H3.out.mono ?_
   rintro e w3 ⟨rfl,rfl⟩
   go_wp2
   go_round
   case rel=>exact ⟨j + 1,_,by omega,by go_num,by rw [HPS.out]; unfold cntF; omega,rfl⟩
   case measure=>simp [intOf]; omega
  ·obtain rfl:j = l.length:=by omega
   go_wp2
   go_ret
   exact ⟨ret_int Hq.out,rfl⟩
end Go.Proofs.YtdhinkgjiapigabGreatDoor
namespace Go.Proofs.YtdhinkgjiapigabGreatDoor
open Go.RowKit Go.Deep
open Classical
structure MarkS (w W:World) (g N:Nat) (l:List (Int × FrameD)) (k:Int) (lo:Nat → Nat) (us:Nat → Value × Value × Value) (j:Nat):Prop where
 row:∃ f,W.rowIs g 50 N f ∧ ∀ (i:Nat) x,l[i]? = some x → f (i * 5) = .int .i64 (if i < j then posL k l i else x.1) ∧ f (i * 5 + 1) = .bool (if i < j then m3 (posL k l i + 1) else x.2.ok) ∧ f (i * 5 + 2) = (us i).1 ∧ f (i * 5 + 3) = (us i).2.1 ∧ f (i * 5 + 4) = (us i).2.2
 done:∀ (i:Nat) x,i < j → l[i]? = some x → ∃ bo bp bw bb,OFrame (fun c=>((lo i ≤ c ∧ c < lo (i + 1)) ∧ c ≠ g) ∨ (w.heap.size ≤ c ∧ c < W.heap.size)) W (us i).1 (us i).2.1 (us i).2.2 (markF (posL k l i + 1 + 1) x.2) bo bp bw bb
 todo:∀ (i:Nat) x,j ≤ i → l[i]? = some x → ∃ bo bp bw bb,OFrame (fun c=>(lo i ≤ c ∧ c < lo (i + 1)) ∧ c ≠ g) W (us i).1 (us i).2.1 (us i).2.2 x.2 bo bp bw bb
 but:But (fun c=>c ≠ g ∧ ¬ (lo 0 ≤ c ∧ c < lo l.length)) w W
theorem MarkS.next {w W W4:World} {g N:Nat} {l:List (Int × FrameD)} {k:Int} {lo:Nat → Nat} {us:Nat → Value × Value × Value} {j:Nat} {x:Int × FrameD} {bo bp bw:Nat} {bb:Nat → Nat} (h:MarkS w W g N l k lo us j) (hx:l[j]? = some x) (hg:g < w.heap.size) (hmono:∀ a b,a ≤ b → b ≤ l.length → lo a ≤ lo b) (htop:lo l.length ≤ w.heap.size)
  (hF:OFrame (fun c=>((lo j ≤ c ∧ c < lo (j + 1)) ∧ c ≠ g) ∨ W.heap.size ≤ c) W4 (us j).1 (us j).2.1 (us j).2.2 (markF (posL k l j + 1 + 1) x.2) bo bp bw bb)
  (hB:But (fun c=>¬ (((lo j ≤ c ∧ c < lo (j + 1)) ∧ c ≠ g) ∨ W.heap.size ≤ c)) ((W.setCell ⟨g,j * 5,none⟩ (.int .i64 (posL k l j))).setCell ⟨g,j * 5 + 1,none⟩ (.bool (m3 (posL k l j + 1)))) W4):MarkS w W4 g N l k lo us (j + 1):=by
 have hjl:j < l.length:=(List.getElem?_eq_some_iff.1 hx).1
 have hwW:=h.but.size
 obtain ⟨f,hr,hf⟩:=h.row
 have hgj:∀ o:Nat,¬ ((fun c=>c ≠ g) (⟨g,o,none⟩:Addr).block):=fun o z=>z rfl
 have hB1:=((But.refl (fun c=>c ≠ g) W).setCell (hgj (j * 5)) (.int .i64 (posL k l j))).setCell (hgj (j * 5 + 1)) (.bool (m3 (posL k l j + 1)))
 have hz1:((W.setCell ⟨g,j * 5,none⟩ (.int .i64 (posL k l j))).setCell ⟨g,j * 5 + 1,none⟩ (.bool (m3 (posL k l j + 1)))).heap.size = W.heap.size:=by simp
 have hW4:W.heap.size ≤ W4.heap.size:=Nat.le_trans hB1.size hB.size
 have hlr:∀ i,i < l.length → lo (i + 1) ≤ w.heap.size:=fun i hi=>Nat.le_trans (hmono (i + 1) l.length (by omega) (Nat.le_refl _)) htop
 refine ⟨⟨_,hB.row ((hr.set (j * 5) _).set (j * 5 + 1) _) (fun z=>?_),fun i y hy=>?_⟩,fun i y hi hy=>?_,fun i y hi hy=>?_,?_⟩
 ·rcases z with z | z
  ·exact z.2 rfl
  ·omega
 ·obtain ⟨f0,f1,f2,f3,f4⟩:=hf i y hy
  by_cases e:i = j
  ·subst e
   rw [hx] at hy
   cases hy
   rw [if_neg (by omega),if_pos rfl,if_pos (by omega),if_pos rfl,if_pos (by omega),if_neg (by omega),if_neg (by omega),if_neg (by omega),if_neg (by omega),if_neg (by omega),if_neg (by omega)]
   exact ⟨rfl,rfl,f2,f3,f4⟩
  ·rw [if_neg (show ¬ i * 5 = j * 5 + 1 by omega),if_neg (show ¬ i * 5 = j * 5 by omega),if_neg (show ¬ i * 5 + 1 = j * 5 + 1 by omega),if_neg (show ¬ i * 5 + 1 = j * 5 by omega),if_neg (show ¬ i * 5 + 2 = j * 5 + 1 by omega),if_neg (show ¬ i * 5 + 2 = j * 5 by omega),if_neg (show ¬ i * 5 + 3 = j * 5 + 1 by omega),if_neg (show ¬ i * 5 + 3 = j * 5 by omega),if_neg (show ¬ i * 5 + 4 = j * 5 + 1 by omega),if_neg (show ¬ i * 5 + 4 = j * 5 by omega)]
   refine ⟨?_,?_,f2,f3,f4⟩
   ·rw [f0]
    by_cases q:i < j
    ·rw [if_pos q,if_pos (by omega)]
    ·rw [if_neg q,if_neg (by omega)]
   ·rw [f1]
    by_cases q:i < j
    ·rw [if_pos q,if_pos (by omega)]
    ·rw [if_neg q,if_neg (by omega)]
 ·by_cases e:i = j
  ·subst e
   rw [hx] at hy
   cases hy
   exact ⟨bo,bp,bw,bb,(hF.but (K:=fun _=>True) (Q:=fun c=>((lo i ≤ c ∧ c < lo (i + 1)) ∧ c ≠ g) ∨ w.heap.size ≤ c) (But.refl _ _) (fun _ _=>trivial) fun c hc=>hc.imp id fun z=>Nat.le_trans hwW z).bound fun c hc hl=>hc.imp id fun z=>⟨z,hl⟩⟩
  ·obtain ⟨c1,c2,c3,c4,hd⟩:=h.done i y (by omega) hy
   have hil:i < l.length:=(List.getElem?_eq_some_iff.1 hy).1
   have h1:=hlr i hil
   have h2:=hmono (i + 1) j (by omega) (by omega)
   have h3:=hlr j hjl
   refine ⟨c1,c2,c3,c4,((hd.but (Q:=fun c=>((lo i ≤ c ∧ c < lo (i + 1)) ∧ c ≠ g) ∨ (w.heap.size ≤ c ∧ c < W.heap.size)) hB1 (fun c hc=>?_) fun _ z=>z).but hB (fun c hc=>?_) fun c hc=>?_)⟩
   ·rcases hc with z | z
    ·exact z.2
    ·omega
   ·rcases hc with z | z <;> omega
   ·exact hc.imp id fun z=>⟨z.1,by omega⟩
 ·obtain ⟨c1,c2,c3,c4,hd⟩:=h.todo i y (by omega) hy
  have hil:i < l.length:=(List.getElem?_eq_some_iff.1 hy).1
  have h1:=hlr i hil
  have h2:=hmono (j + 1) i (by omega) (by omega)
  exact ⟨c1,c2,c3,c4,((hd.but (Q:=fun c=>(lo i ≤ c ∧ c < lo (i + 1)) ∧ c ≠ g) hB1 (fun c hc=>hc.2) fun _ z=>z).but hB (fun c hc=>by omega) fun _ z=>z)⟩
 ·refine (h.but.trans (hB1.mono fun c _ hc=>hc.1)).trans (hB.mono fun c hc hk=>?_)
  have h1:=hmono 0 j (by omega) (by omega)
  have h2:=hmono (j + 1) l.length (by omega) (Nat.le_refl _)
  have:=hk.2
  omega
theorem mono_of {lo:Nat → Nat} {n:Nat} (h:∀ j,j < n → lo j ≤ lo (j + 1)):∀ a b,a ≤ b → b ≤ n → lo a ≤ lo b:=fun a b hab hb=>by
 induction b with
 | zero=>rw [show a = 0 by omega]; exact Nat.le_refl _
 | succ b ih=>
  by_cases e:a = b + 1
  ·rw [e]; exact Nat.le_refl _
  ·exact Nat.le_trans (ih (by omega) (by omega)) (h b (by omega))
set_option maxRecDepth 100000 in
set_option maxHeartbeats 4000000 in
theorem markDoneS_any (base:Nat) (v:Value) (l:List (Int × FrameD)) (lo:Nat → Nat) (k:Int) (w:World) (hv:DonesO base w v l lo) (hn:l.length ≤ 1048576) (hs:∀ x ∈ l,x.2.Small 1048576) (hc:∀ x ∈ l,cntF x.2 ≤ 1048576) (h0:0 ≤ k) (h1:k ≤ 1099511627776) :
  Calls Tryz.prog 36 #[v,.int .i64 k] w fun e w'=>e = .returned (.int .i64 (posL k l l.length)) ∧ DonesA (In w') w' v (markL k l) ∧ But (fun c=>c < base) w w':=by
 obtain ⟨⟨a,cap,rfl,hcl⟩,hlow,hst,htop⟩:=hv
 have HPB:=hide (posL_bound (k:=k) hc)
 have HS:=hide hs
 clear hc hs
 rcases hcl with z | ⟨g,N,f,rfl,hgb,hr,hN,hf⟩
 ·have hl:l = []:=List.eq_nil_of_length_eq_zero z
  subst hl
  go_enter Tryz.func36,Tryz.ntmps36
  go_wp2
  go_loopw [1,5] (fun kv i wr=>i = .int .i64 0 ∧ kv = .int .i64 k ∧ wr = w) (fun _ _ _=>0)
  case atStart=>exact ⟨rfl,rfl,rfl⟩
  case round=>
   obtain ⟨rfl,rfl,rfl⟩:=hrel
   go_wp2
   go_ret
   exact ⟨ret_int (posL_zero k []).symm,⟨_,_,rfl,.inl rfl⟩,But.refl _ _⟩
 have hg:=hr.lt
 have hmono:=mono_of hst
 have M0:MarkS w w g N l k lo (fun i=>(f (i * 5 + 2),f (i * 5 + 3),f (i * 5 + 4))) 0:=
  ⟨⟨f,hr,fun i x hx=>by obtain ⟨_,_,_,_,f0,f1,-⟩:=hf i x hx; rw [if_neg (by omega),if_neg (by omega)]; exact ⟨f0,f1,rfl,rfl,rfl⟩⟩,(fun i x hi=>absurd hi (by omega)),fun i x _ hx=>by obtain ⟨bo,bp,bw,bb,-,-,h⟩:=hf i x hx; exact ⟨bo,bp,bw,bb,h⟩,But.refl _ _⟩
 obtain ⟨us,hus⟩:∃ us:Nat → Value × Value × Value,us = fun i=>(f (i * 5 + 2),f (i * 5 + 3),f (i * 5 + 4)):=⟨_,rfl⟩
 rw [← hus] at M0
 have HM0:=hide M0
 have HMO:=hide hmono
 have HTOP:=hide htop
 have HLOW:=hide hlow
 have HGB:=hide hgb
 have HG:=hide hg
 clear hus hr hf M0 hmono hst htop hlow hgb f
 go_enter Tryz.func36,Tryz.ntmps36
 go_wp2
 go_loopw [1,5] (fun kv i wr=>∃ (j:Nat) (q:Int),j ≤ l.length ∧ i = .int .i64 j ∧ q = posL k l j ∧ kv = .int .i64 q ∧ MarkS w wr g N l k lo us j) (fun _ i _=>l.length - (intOf i).toNat)
 case atStart=>exact ⟨0,_,Nat.zero_le _,rfl,(posL_zero k l).symm,rfl,HM0.out⟩
 case round=>
  obtain ⟨j,q,hj,rfl,hq,rfl,hm⟩:=hrel
  rename World=>wr
  have Hq:=hide hq
  have hqb:=HPB.out j
  rw [← hq] at hqb
  have hq0:0 ≤ q:=by omega
  have hq2:q ≤ 1125899906842624 - 1099515822080:=by omega
  clear hq hqb HM0
  by_cases hlt:j < l.length
  ·obtain ⟨x,hx⟩:=get_some l (hide rfl) hlt
   obtain ⟨f,hr,hf⟩:=hm.row
   obtain ⟨-,-,f2,f3,f4⟩:=hf j x hx
   obtain ⟨bo,bp,bw,bb,hF⟩:=hm.todo j x (Nat.le_refl _) hx
   obtain ⟨hs1,hs2,hs3,hs4⟩:=HS.out x (List.mem_of_getElem? hx)
   have hcs:=cntH_small hs3 hs4
   have hgj:∀ o:Nat,¬ ((fun c=>c ≠ g) (⟨g,o,none⟩:Addr).block):=fun o z=>z rfl
   have hB1:=((But.refl (fun c=>c ≠ g) wr).setCell (hgj (j * 5)) (.int .i64 q)).setCell (hgj (j * 5 + 1)) (.bool ((q + 1) % 3 == 0))
   have hr1:=(hr.set (j * 5) (.int .i64 q)).set (j * 5 + 1) (.bool ((q + 1) % 3 == 0))
   have hz1:((wr.setCell ⟨g,j * 5,none⟩ (.int .i64 q)).setCell ⟨g,j * 5 + 1,none⟩ (.bool ((q + 1) % 3 == 0))).heap.size = wr.heap.size:=by simp
   have hF1:=hF.but (Q:=fun c=>((lo j ≤ c ∧ c < lo (j + 1)) ∧ c ≠ g) ∨ wr.heap.size ≤ c) hB1 (fun c hc=>hc.2) fun _ z=>.inl z
   obtain ⟨u1,u2,u3,hue⟩:∃ u1 u2 u3,us j = (u1,u2,u3):=⟨_,_,_,rfl⟩
   rw [hue] at hF1 f2 f3 f4
   simp only at hF1 f2 f3 f4
   obtain ⟨a1,z1,e1⟩:∃ a c,u1 = .slice a x.2.occ.length c:=by obtain ⟨f,N,c,e,-⟩:=hF1.occ; exact ⟨_,_,e⟩
   obtain ⟨a2,z2,e2⟩:∃ a c,u2 = .slice a x.2.points.length c:=by obtain ⟨a,c,e,-⟩:=hF1.points; exact ⟨_,_,e⟩
   obtain ⟨a3,z3,e3⟩:∃ a c,u3 = .slice a x.2.ways.length c:=by obtain ⟨a,c,e,-⟩:=hF1.ways; exact ⟨_,_,e⟩
   subst e1 e2 e3
   have c0:=hr.cell (i:=j * 5) (by omega)
   have k0:=hr.frozen (j * 5)
   have hr0:=hr.set (j * 5) (.int .i64 q)
   have c1:=hr0.cell (i:=j * 5 + 1) (by omega)
   have k1:=hr0.frozen (j * 5 + 1)
   have b1:=hr1.cell (i:=j * 5 + 2) (by omega)
   rw [if_neg (by omega),if_neg (by omega),f2] at b1
   have HM:=hide hm
   have HX:=hide hx
   have HUE:=hide hue
   have HF1:=hide hF1
   have HR1:=hide hr1
   have HF3:=hide f3
   have HF4:=hide f4
   have hgw:g < wr.heap.size:=hr.lt
   have hps:=posL_succ (k:=k) hx
   rw [← Hq.out] at hps
   have HPS:=hide hps
   have hjl:(j:Int) < (l.length:Int):=by omega
   have HS4:=hide hs4
   have hPlt:∀ c,(((lo j ≤ c ∧ c < lo (j + 1)) ∧ c ≠ g) ∨ wr.heap.size ≤ c) → c ≠ g:=fun c hc e=>by
    rcases hc with z | z
    ·exact z.2 e
    ·omega
   have HPL:=hide hPlt
   clear hm hf hF hx hr hr0 hr1 hB1 hF1 hue f2 f3 f4 hps hs4 hPlt
   go_wp2_with fail
   obtain ⟨W1,hW1⟩:∃ W,W = (wr.setCell ⟨g,j * 5,none⟩ (.int .i64 q)).setCell ⟨g,j * 5 + 1,none⟩ (.bool ((q + 1) % 3 == 0)):=⟨_,rfl⟩
   rw [← hW1] at HF1 HR1 hz1 b1 ⊢
   have HW1:=hide hW1
   clear hW1 c0 c1 k0 k1 b1
   refine (markBools_own _ x.2.occ bo (q + 1 + 1) _ HF1.out.occ hs1 (by omega) (by omega)).mono ?_
   rintro e w1 ⟨rfl,hO1,hBo⟩
   have hf1:=HF1.out.setOcc hBo hO1
   have hbog:=HPL.out _ HF1.out.po
   have hr2:=hBo.row HR1.out (Ne.symm hbog)
   have b2:=hr2.cell (i:=j * 5 + 3) (by omega)
   rw [if_neg (by omega),if_neg (by omega),HF3.out] at b2
   have HB1:Hid (But (fun c=>¬ (((lo j ≤ c ∧ c < lo (j + 1)) ∧ c ≠ g) ∨ wr.heap.size ≤ c)) W1 w1):=hBo.mono fun c _ hc e=>hc (e ▸ HF1.out.po)
   obtain ⟨bq,hfq,q1,q2,q3,q4⟩:=hf1.apart
   have hPB:((lo j ≤ bq ∧ bq < lo (j + 1)) ∧ bq ≠ g) ∨ wr.heap.size ≤ bq:=by
    rcases q4 with ⟨-,e⟩ | e
    ·exact .inr (by rw [e,← hz1]; exact HB1.out.size)
    ·exact hfq.pp e
   have HFQ:=hide hfq
   have HQ:=hide (And.intro q1 (And.intro q2 q3))
   have HR2:=hide hr2
   clear HF1 hO1 hBo hf1 hfq q1 q2 q3 q4 hr2
   go_wp2_with fail
   clear b2
   refine (markPointsO_any _ x.2.points bq (q + 1 + 1 + x.2.occ.length) _ HFQ.out.points hs2 (by omega) (by omega)).mono ?_
   rintro e w2 ⟨rfl,hP2,hB2⟩
   have hr3:=hB2.row HR2.out (Ne.symm (HPL.out _ hPB))
   have b3:=hr3.cell (i:=j * 5 + 4) (by omega)
   rw [if_neg (by omega),if_neg (by omega),HF4.out] at b3
   have hf2:=HFQ.out.setPoints HQ.out.1 HQ.out.2.1 HQ.out.2.2 hB2 hP2 (marksP_length _ _)
   have HF2:=hide hf2
   have HB2:Hid (But (fun c=>¬ (((lo j ≤ c ∧ c < lo (j + 1)) ∧ c ≠ g) ∨ wr.heap.size ≤ c)) W1 w2):=HB1.out.trans (hB2.mono fun c _ hc e2=>hc (e2 ▸ hPB))
   have hsz2:∀ c,w2.heap.size ≤ c → (((lo j ≤ c ∧ c < lo (j + 1)) ∧ c ≠ g) ∨ wr.heap.size ≤ c):=fun c hc=>.inr (by have:=HB2.out.size; omega)
   have HSZ:=hide hsz2
   clear HFQ HQ hP2 hB2 HB1 hf2 hr3 hsz2 HR2
   go_wp2_with fail
   clear b3
   refine (markHeldsO_any _ _ _ _ _ bo bq bw bb (q + 1 + 1 + x.2.occ.length + 2 * x.2.points.length) _ HF2.out HSZ.out hs3 HS4.out (by omega) (by omega)).mono ?_
   rintro e w3 ⟨rfl,bb',hf3,hB3⟩
   have hBall:=HB2.out.trans hB3
   have FIN:=hide (HM.out.next (x:=x) (W4:=w3) (bo:=bo) (bp:=bq) (bw:=bw) (bb:=bb') HX.out HG.out HMO.out HTOP.out (by rw [HUE.out,← Hq.out]; exact hf3) (by rw [← Hq.out,show m3 (q + 1) = ((q + 1) % 3 == 0) from rfl,← HW1.out]; exact hBall))
   clear HF2 HB2 hf3 hB3 HM hBall
   go_wp2
   go_roundw
   case rel=>exact ⟨j + 1,_,by omega,by go_num,by rw [HPS.out]; unfold cntF; omega,rfl,FIN.out⟩
   case measure=>simp [intOf]; omega
  ·obtain rfl:j = l.length:=by omega
   have HM:=hide hm
   clear hm
   go_wp2
   go_ret
   refine ⟨ret_int Hq.out,?_,HM.out.but.mono fun c _ hc=>⟨by have:=HGB.out; omega,fun z=>by have:=HLOW.out 0; omega⟩⟩
   obtain ⟨f,hr,hf⟩:=HM.out.row
   refine ⟨_,cap,by rw [markL_length],.inr ⟨g,0,rfl,hr.lt,fun i hi y hy=>?_⟩⟩
   rw [markL_length] at hi
   obtain ⟨x,hx⟩:=get_some l (hide rfl) hi
   rw [markL_get hx] at hy
   cases hy
   obtain ⟨f0,f1,f2,f3,f4⟩:=hf i x hx
   obtain ⟨bo,bp,bw,bb,hF⟩:=HM.out.done i x hi hx
   refine ⟨_,_,_,(hF.bound (Q:=In wr) fun _ _ hc=>hc).read,?_⟩
   rw [Nat.zero_add,hr.cell (by omega),hr.cell (by omega),hr.cell (by omega),hr.cell (by omega),hr.cell (by omega),f0,f1,f2,f3,f4,if_pos hi,if_pos hi]
   exact ⟨rfl,rfl,rfl,rfl,rfl⟩
end Go.Proofs.YtdhinkgjiapigabGreatDoor

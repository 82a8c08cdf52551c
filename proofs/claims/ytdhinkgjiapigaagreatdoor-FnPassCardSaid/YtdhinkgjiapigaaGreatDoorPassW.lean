import Derived.Test.YtdhinkgjiapigaaGreatDoorBackF
import Derived.Test.YtdhinkgjiapigaaGreatDoorRunH
namespace Go.Proofs.YtdhinkgjiapigaaGreatDoor
open Go.RowKit Go.Deep
def evP0 (m j:Nat):List (Int × Int × Int):=(1,0,0) :: (List.range j).map fun k:Nat=>((5:Int),(m:Int) - 1 - (k:Int),(2:Int))
def evPR (n long k:Nat):List (Int × Int × Int):=(if k < n then [((3:Int),(k:Int),(0:Int))] else []) ++ (if long ≤ k then [((4:Int),(k:Int) - (long:Int),(0:Int))] else [])
def evP (n m long k:Nat):List (Int × Int × Int):=evP0 m m ++ (List.range k).flatMap (evPR n long)
def passW (i m:Nat) (x:Int × FrameD):Bool:=match x.2.ways with
 | [g]=>x.1 == 0 && g.state == (if i = m then 2 else 1)
 | _=>false
def passL (n long k:Nat) (x:Int × FrameD):Bool:=match x.2.ways with
 | [g]=>if k + 1 = n + long then g.state == 0 else g.state == 4 && g.gone == ((k + 1 - long:Nat):Int)
 | _=>false
def passC (n m long:Nat):Bool:=
 let L:=runsD (madeD n m 5) (beginD (madeD n m 5)) (evP n m long (n + long))
 ((List.range (m + 1)).all fun i=>(L[i]?).any (passW i m)) && (List.range (n + long)).all fun k=>(L[(evP n m long (k + 1)).length - 1]?).any (passL n long k)
def passAll:Bool:=(List.range 7).all fun a=>(List.range (a + 3)).all fun m=>(List.range 2).all fun l=>passC (a + 2) m (l + 1)
theorem pass_all:passAll = true:=by kernel_rfl
theorem pass_at {n m long:Nat} (h1:2 ≤ n) (h2:n ≤ 8) (hm:m ≤ n) (hl:1 ≤ long) (hl2:long ≤ 2):passC n m long = true:=by
 have h:=List.all_eq_true.1 pass_all (n - 2) (List.mem_range.2 (by omega))
 have h':=List.all_eq_true.1 h m (List.mem_range.2 (by omega))
 have h'':=List.all_eq_true.1 h' (long - 1) (List.mem_range.2 (by omega))
 rwa [show n - 2 + 2 = n by omega,show long - 1 + 1 = long by omega] at h''
theorem evP0_succ (m j:Nat):evP0 m (j + 1) = evP0 m j ++ [(5,(m:Int) - 1 - (j:Int),2)]:=by
 unfold evP0
 rw [List.range_succ,List.map_append]
 rfl
theorem evP_succ (n m long k:Nat):evP n m long (k + 1) = evP n m long k ++ evPR n long k:=by
 unfold evP
 rw [List.range_succ,List.flatMap_append,← List.append_assoc]
 simp
def lenP (n long k:Nat):Nat:=min k n + (k - long)
theorem lenP_zero (n long:Nat):lenP n long 0 = 0:=by unfold lenP; omega
theorem evP_zero (n m long:Nat):evP n m long 0 = evP0 m m:=by unfold evP; simp
theorem evP_length (n m long k:Nat):(evP n m long k).length = m + 1 + lenP n long k:=by
 induction k with
 | zero=>unfold evP evP0 lenP; simp
 | succ k ih=>
  rw [evP_succ,List.length_append,ih]
  unfold evPR lenP
  rw [List.length_append]
  by_cases a:k < n <;> by_cases b:long ≤ k <;> simp only [a,b,if_true,if_false,List.length_cons,List.length_nil] <;> omega
theorem runs_len (p:PlanD) (f:FrameD) (es:List (Int × Int × Int)):(runsD p f es).length = es.length:=by
 have h:=runs_length p f es es.length (Nat.le_refl _)
 rwa [List.take_length] at h
theorem runs_prefix (p:PlanD) (f:FrameD) (b:List (Int × Int × Int)):∀ (a:List (Int × Int × Int)) (i:Nat),i < a.length → (runsD p f (a ++ b))[i]? = (runsD p f a)[i]?:=by
 induction b with
 | nil=>intro a i _; rw [List.append_nil]
 | cons e b ih=>
  intro a i hi
  rw [show a ++ e :: b = (a ++ [e]) ++ b by simp,ih (a ++ [e]) i (by simp; omega),runs_snoc,List.getElem?_append_left (by rw [runs_len]; exact hi)]
theorem evP_prefix (n m long:Nat):∀ (d k:Nat),∃ b,evP n m long (k + d) = evP n m long k ++ b:=by
 intro d
 induction d with
 | zero=>intro k; exact ⟨[],by simp⟩
 | succ d ih=>
  intro k
  obtain ⟨b,hb⟩:=ih k
  exact ⟨b ++ evPR n long (k + d),by rw [← Nat.add_assoc,evP_succ,hb,List.append_assoc]⟩
theorem pass_set {n m long:Nat} (h1:2 ≤ n) (h2:n ≤ 8) (hm:m ≤ n) (hl:1 ≤ long) (hl2:long ≤ 2) (i:Nat) (y:Int × FrameD) (hy:(runsD (madeD n m 5) (beginD (madeD n m 5)) (evP0 m m))[i]? = some y):∃ g,y.2.ways = [g] ∧ y.1 = 0 ∧ g.state = if i = m then 2 else 1:=by
 have h:=pass_at h1 h2 hm hl hl2
 unfold passC at h
 simp only [Bool.and_eq_true] at h
 have hi:i < m + 1:=by
  have:=(List.getElem?_eq_some_iff.1 hy).1
  rw [runs_len] at this
  simpa [evP0] using this
 have q:=List.all_eq_true.1 h.1 i (List.mem_range.2 hi)
 rw [show evP n m long (n + long) = evP0 m m ++ (List.range (n + long)).flatMap (evPR n long) from rfl,runs_prefix _ _ _ _ _ (by simpa [evP0] using hi),hy] at q
 simp only [Option.any_some] at q
 unfold passW at q
 split at q
 ·rename_i g hg
  simp only [Bool.and_eq_true,beq_iff_eq] at q
  exact ⟨g,hg,q.1,q.2⟩
 ·cases q
theorem pass_go {n m long:Nat} (h1:2 ≤ n) (h2:n ≤ 8) (hm:m ≤ n) (hl:1 ≤ long) (hl2:long ≤ 2) (k:Nat) (hk:k < n + long):∃ y g,(runsD (madeD n m 5) (beginD (madeD n m 5)) (evP n m long (k + 1)))[(evP n m long (k + 1)).length - 1]? = some y ∧ y.2.ways = [g] ∧ (k + 1 = n + long → g.state = 0) ∧ (k + 1 ≠ n + long → g.state = 4 ∧ g.gone = ((k + 1 - long:Nat):Int)):=by
 have h:=pass_at h1 h2 hm hl hl2
 unfold passC at h
 simp only [Bool.and_eq_true] at h
 have q:=List.all_eq_true.1 h.2 k (List.mem_range.2 hk)
 obtain ⟨b,hb⟩:=evP_prefix n m long (n + long - (k + 1)) (k + 1)
 rw [show k + 1 + (n + long - (k + 1)) = n + long by omega] at hb
 rw [hb,runs_prefix _ _ _ _ _ (by rw [evP_length]; omega)] at q
 obtain ⟨y,hy,hp⟩:=(Option.any_eq_true _ _).1 q
 unfold passL at hp
 split at hp
 ·rename_i g hg
  refine ⟨y,g,hy,hg,fun e=>?_,fun e=>?_⟩
  ·rw [if_pos e] at hp
   exact beq_iff_eq.1 hp
  ·rw [if_neg e] at hp
   simp only [Bool.and_eq_true,beq_iff_eq] at hp
   exact hp
 ·cases hp
end Go.Proofs.YtdhinkgjiapigaaGreatDoor
namespace Go.Proofs.YtdhinkgjiapigaaGreatDoor
open Go.RowKit Go.Deep
open Classical
set_option maxHeartbeats 1000000 in
theorem wBools_any (u v:Value) (l:List Bool) (w:World) (hu:Bools (In w) w u l) (hv:Bools (In w) w v l) (hn:l.length ≤ 1048576) :
  Calls Tryz.prog 53 #[u,v] w fun e w'=>e = .returned (.bool true) ∧ ∃ m,w' = w.drewN m:=by
 obtain ⟨a,cap,rfl,hc⟩:=hu
 obtain ⟨a2,cap2,rfl,hc2⟩:=hv
 generalize hn':l.length = n at *
 have Hn:Hid (l.length = n):=hn'
 have HC:=hide hc
 have HD:=hide hc2
 clear hc hc2 hn'
 go_enter Tryz.func53,Tryz.ntmps53
 go_wp2
 go_loopw [13] (fun i wr=>∃ (k m:Nat),k ≤ n ∧ i = .int .i64 k ∧ wr = w.drewN m) (fun i _=>n - (intOf i).toNat)
 case atStart=>exact ⟨0,0,Nat.zero_le _,rfl,rfl⟩
 case round=>
  obtain ⟨k,m,hk,rfl,rfl⟩:=hrel
  by_cases hlt:k < n
  ·obtain h0 | ⟨b,off,rfl,hb0,hc⟩:=HC.out
   ·omega
   obtain h0 | ⟨b2,off2,rfl,hb2,hc2⟩:=HD.out
   ·omega
   obtain ⟨x,hx⟩:=get_some l Hn hlt
   have g0:=hc k hlt x hx
   have g1:=hc2 k hlt x hx
   have hlt':(k:Int) < (n:Int):=by omega
   clear hx hc hc2
   go_wp2
   go_quiet (fail)
   go_wp2
   go_roundw
   case rel=>exact ⟨k + 1,_,by omega,by go_num,rfl⟩
   case measure=>simp [intOf]; omega
  ·go_wp2
   go_ret
   exact ⟨rfl,m,rfl⟩
set_option maxHeartbeats 4000000 in
theorem wFrame_any (ok:Bool) (u1 u2 u3 v1 v2 v3:Value) (d:FrameD) (w:World) (hu:FrameAt (In w) w u1 u2 u3 d) (hv:FrameAt (In w) w v1 v2 v3 d) (hs:d.Small 1048576) :
  Calls Tryz.prog 19 #[.agg #[.bool ok,u1,u2,u3],.agg #[.bool ok,v1,v2,v3]] w fun e w'=>e = .returned (.bool true) ∧ Below w.heap.size w w':=by
 have T0:=boxes2 w 40 40 #[.bool ok,u1,u2,u3] #[.bool ok,v1,v2,v3]
 have hk:∀ W,Boxes w [(40,#[.bool ok,u1,u2,u3]),(40,#[.bool ok,v1,v2,v3])] W → FrameAt (In W) W u1 u2 u3 d ∧ FrameAt (In W) W v1 v2 v3 d:=fun _ h=>⟨hu.keep (In.keep h.below).1 (In.keep h.below).2,hv.keep (In.keep h.below).1 (In.keep h.below).2⟩
 have KF:=hide hk
 obtain ⟨a2,c2,rfl⟩:=hu.2.1.size
 obtain ⟨a3,c3,rfl⟩:=hu.2.2.size
 obtain ⟨b2,e2,rfl⟩:=hv.2.1.size
 obtain ⟨b3,e3,rfl⟩:=hv.2.2.size
 obtain ⟨hs1,hs2,hs3,hs4⟩:=hs
 have H4:=hide hs4
 generalize hnp:d.points.length = np at *
 generalize hnw:d.ways.length = nw at *
 have Hp:Hid (d.points.length = np):=hnp
 have Hw:Hid (d.ways.length = nw):=hnw
 have HT0:=hide T0
 clear hu hv hs4 hk hnp hnw T0
 go_enter Tryz.func19,Tryz.ntmps19
 go_wp2_with fail
 refine (wBools_any u1 v1 d.occ _ (KF.out _ HT0.out).1.1 (KF.out _ HT0.out).2.1 hs1).mono ?_
 rintro e w1 ⟨rfl,m,hm⟩
 have T1:=HT0.out.call (hm ▸ below_draws _ m)
 clear HT0 hm
 have g2:w1.cell? ⟨w.heap.size,2,none⟩ = some (.slice a2 np c2):=T1.cell (j:=0) (i:=2) rfl rfl
 have g3:w1.cell? ⟨w.heap.size,3,none⟩ = some (.slice a3 nw c3):=T1.cell (j:=0) (i:=3) rfl rfl
 have f2:w1.cell? ⟨w.heap.size + 1,2,none⟩ = some (.slice b2 np e2):=T1.cell (j:=1) (i:=2) rfl rfl
 have f3:w1.cell? ⟨w.heap.size + 1,3,none⟩ = some (.slice b3 nw e3):=T1.cell (j:=1) (i:=3) rfl rfl
 have HT1:=hide T1
 clear T1
 go_wp2
 go_loopw [43] (fun i wr=>∃ (k m:Nat),k ≤ np ∧ i = .int .i64 k ∧ wr = w1.drewN m) (fun i _=>np - (intOf i).toNat)
 case atStart=>exact ⟨0,0,Nat.zero_le _,rfl,rfl⟩
 case round=>
  obtain ⟨k,m,hk,rfl,rfl⟩:=hrel
  by_cases hlt:k < np
  ·obtain ⟨⟨-,⟨x1,y1,q1,hc⟩,-⟩,⟨-,⟨x2,y2,q2,hc2⟩,-⟩⟩:=KF.out _ HT1.out
   rw [Hp.out] at q1 q2 hc hc2
   cases q1
   cases q2
   obtain h0 | ⟨b,off,rfl,hb0,hc⟩:=hc
   ·omega
   obtain h0 | ⟨b',off2,rfl,hb2,hc2⟩:=hc2
   ·omega
   obtain ⟨x,hx⟩:=get_some d.points Hp hlt
   obtain ⟨r0,r1⟩:=hc k hlt x hx
   obtain ⟨r2,r3⟩:=hc2 k hlt x hx
   have hlt':(k:Int) < (np:Int):=by omega
   clear hx hc hc2
   go_wp2
   go_quiet (fail)
   go_wp2
   go_roundw
   case rel=>exact ⟨k + 1,_,by omega,by go_num,rfl⟩
   case measure=>simp [intOf]; omega
  ·have HT2:=hide (HT1.out.call (below_draws _ m))
   obtain ⟨w2,hw2⟩:∃ W,W = w1.drewN m:=⟨_,rfl⟩
   rw [← hw2] at HT2 ⊢
   have g2:w2.cell? ⟨w.heap.size,2,none⟩ = some (.slice a2 np c2):=HT2.out.cell (j:=0) (i:=2) rfl rfl
   have g3:w2.cell? ⟨w.heap.size,3,none⟩ = some (.slice a3 nw c3):=HT2.out.cell (j:=0) (i:=3) rfl rfl
   clear hw2
   go_wp2
   go_loopw [61] (fun i wr=>∃ (k:Nat),k ≤ nw ∧ i = .int .i64 k ∧ Below w2.heap.size w2 wr) (fun i _=>nw - (intOf i).toNat)
   case atStart=>exact ⟨0,Nat.zero_le _,rfl,Below.refl _ _⟩
   case round=>
    obtain ⟨k',hk',rfl,hbl⟩:=hrel
    rename World=>wr
    have T3:=HT2.out.call hbl
    by_cases hlt':k' < nw
    ·obtain ⟨⟨-,-,⟨x1,y1,q1,hc⟩⟩,⟨-,-,⟨x2,y2,q2,hc2⟩⟩⟩:=KF.out _ HT2.out
     rw [Hw.out] at q1 q2 hc hc2
     cases q1
     cases q2
     obtain h0 | ⟨b,off,rfl,hb0,hc⟩:=hc
     ·omega
     obtain h0 | ⟨b',off2,rfl,hb2,hc2⟩:=hc2
     ·omega
     obtain ⟨x,hx⟩:=get_some d.ways Hw hlt'
     obtain ⟨p2,hw,r0,r1,r2,r3,r4⟩:=hc k' hlt' x hx
     obtain ⟨q2,hw2,j0,j1,j2,j3,j4⟩:=hc2 k' hlt' x hx
     have hsx:=H4.out x (List.mem_of_getElem? hx)
     obtain ⟨pa,pc,rfl⟩:=hw.size
     obtain ⟨qa,qc,rfl⟩:=hw2.size
     generalize hnb:x.been.length = nb at *
     rw [← hbl.cell (p:=⟨b,_,none⟩) hb0] at r0 r1 r2 r3 r4
     rw [← hbl.cell (p:=⟨b',_,none⟩) hb2] at j0 j1 j2 j3 j4
     have hlti:(k':Int) < (nw:Int):=by omega
     have T4:=boxes2 wr 44 44 #[.int .i64 x.state,.int .i64 x.gone,.slice pa nb pc,.bool x.shown,.int .i64 x.timer] #[.int .i64 x.state,.int .i64 x.gone,.slice qa nb qc,.bool x.shown,.int .i64 x.timer]
     have hn1:=below_new wr (.cells #[.int .i64 x.state,.int .i64 x.gone,.slice pa nb pc,.bool x.shown,.int .i64 x.timer] 44)
     have l3:wr.cell? ⟨w.heap.size,3,none⟩ = some (.slice (some ⟨b,off,none⟩) nw c3):=T3.cell (j:=0) (i:=3) rfl rfl
     have m3:(wr.alloc (.cells #[.int .i64 x.state,.int .i64 x.gone,.slice pa nb pc,.bool x.shown,.int .i64 x.timer] 44)).cell? ⟨w.heap.size + 1,3,none⟩ = some (.slice (some ⟨b',off2,none⟩) nw e3):=(T3.call hn1).cell (j:=1) (i:=3) rfl rfl
     replace j0:=ckb' j0 hn1
     replace j1:=ckb' j1 hn1
     replace j2:=ckb' j2 hn1
     replace j3:=ckb' j3 hn1
     replace j4:=ckb' j4 hn1
     have HB5:=hide (hbl.trans (T4.below.mono hbl.size))
     have HWP:=hide (hw.keep (In.keep HB5.out).1 (In.keep HB5.out).2)
     have HWQ:=hide (hw2.keep (In.keep HB5.out).1 (In.keep HB5.out).2)
     have t00:((wr.alloc (.cells #[.int .i64 x.state,.int .i64 x.gone,.slice pa nb pc,.bool x.shown,.int .i64 x.timer] 44)).alloc (.cells #[.int .i64 x.state,.int .i64 x.gone,.slice qa nb qc,.bool x.shown,.int .i64 x.timer] 44)).cell? ⟨wr.heap.size,0,none⟩ = some (.int .i64 x.state):=T4.cell (j:=0) (i:=0) rfl rfl
     have t01:((wr.alloc (.cells #[.int .i64 x.state,.int .i64 x.gone,.slice pa nb pc,.bool x.shown,.int .i64 x.timer] 44)).alloc (.cells #[.int .i64 x.state,.int .i64 x.gone,.slice qa nb qc,.bool x.shown,.int .i64 x.timer] 44)).cell? ⟨wr.heap.size,1,none⟩ = some (.int .i64 x.gone):=T4.cell (j:=0) (i:=1) rfl rfl
     have t02:((wr.alloc (.cells #[.int .i64 x.state,.int .i64 x.gone,.slice pa nb pc,.bool x.shown,.int .i64 x.timer] 44)).alloc (.cells #[.int .i64 x.state,.int .i64 x.gone,.slice qa nb qc,.bool x.shown,.int .i64 x.timer] 44)).cell? ⟨wr.heap.size,2,none⟩ = some (.slice pa nb pc):=T4.cell (j:=0) (i:=2) rfl rfl
     have t03:((wr.alloc (.cells #[.int .i64 x.state,.int .i64 x.gone,.slice pa nb pc,.bool x.shown,.int .i64 x.timer] 44)).alloc (.cells #[.int .i64 x.state,.int .i64 x.gone,.slice qa nb qc,.bool x.shown,.int .i64 x.timer] 44)).cell? ⟨wr.heap.size,3,none⟩ = some (.bool x.shown):=T4.cell (j:=0) (i:=3) rfl rfl
     have t04:((wr.alloc (.cells #[.int .i64 x.state,.int .i64 x.gone,.slice pa nb pc,.bool x.shown,.int .i64 x.timer] 44)).alloc (.cells #[.int .i64 x.state,.int .i64 x.gone,.slice qa nb qc,.bool x.shown,.int .i64 x.timer] 44)).cell? ⟨wr.heap.size,4,none⟩ = some (.int .i64 x.timer):=T4.cell (j:=0) (i:=4) rfl rfl
     have t10:((wr.alloc (.cells #[.int .i64 x.state,.int .i64 x.gone,.slice pa nb pc,.bool x.shown,.int .i64 x.timer] 44)).alloc (.cells #[.int .i64 x.state,.int .i64 x.gone,.slice qa nb qc,.bool x.shown,.int .i64 x.timer] 44)).cell? ⟨wr.heap.size + 1,0,none⟩ = some (.int .i64 x.state):=T4.cell (j:=1) (i:=0) rfl rfl
     have t11:((wr.alloc (.cells #[.int .i64 x.state,.int .i64 x.gone,.slice pa nb pc,.bool x.shown,.int .i64 x.timer] 44)).alloc (.cells #[.int .i64 x.state,.int .i64 x.gone,.slice qa nb qc,.bool x.shown,.int .i64 x.timer] 44)).cell? ⟨wr.heap.size + 1,1,none⟩ = some (.int .i64 x.gone):=T4.cell (j:=1) (i:=1) rfl rfl
     have t12:((wr.alloc (.cells #[.int .i64 x.state,.int .i64 x.gone,.slice pa nb pc,.bool x.shown,.int .i64 x.timer] 44)).alloc (.cells #[.int .i64 x.state,.int .i64 x.gone,.slice qa nb qc,.bool x.shown,.int .i64 x.timer] 44)).cell? ⟨wr.heap.size + 1,2,none⟩ = some (.slice qa nb qc):=T4.cell (j:=1) (i:=2) rfl rfl
     have t13:((wr.alloc (.cells #[.int .i64 x.state,.int .i64 x.gone,.slice pa nb pc,.bool x.shown,.int .i64 x.timer] 44)).alloc (.cells #[.int .i64 x.state,.int .i64 x.gone,.slice qa nb qc,.bool x.shown,.int .i64 x.timer] 44)).cell? ⟨wr.heap.size + 1,3,none⟩ = some (.bool x.shown):=T4.cell (j:=1) (i:=3) rfl rfl
     have t14:((wr.alloc (.cells #[.int .i64 x.state,.int .i64 x.gone,.slice pa nb pc,.bool x.shown,.int .i64 x.timer] 44)).alloc (.cells #[.int .i64 x.state,.int .i64 x.gone,.slice qa nb qc,.bool x.shown,.int .i64 x.timer] 44)).cell? ⟨wr.heap.size + 1,4,none⟩ = some (.int .i64 x.timer):=T4.cell (j:=1) (i:=4) rfl rfl
     have HNB:=hide hnb
     have HT4:=hide T4
     clear hx hc hc2 hw hw2 hbl T3 T4 hn1 hnb
     go_wp2_with fail
     refine (wBools_any _ _ x.been _ HWP.out HWQ.out (by rw [HNB.out]; exact hsx)).mono ?_
     rintro e w5 ⟨rfl,m5,hm5⟩
     have HB6:=hide (HB5.out.trans ((hm5 ▸ below_draws _ m5:Below _ _ w5).mono HB5.out.size))
     clear hm5 HB5 HWP HWQ HT4
     go_wp2
     go_roundw
     case rel=>exact ⟨k' + 1,by omega,by go_num,HB6.out⟩
     case measure=>simp [intOf]; omega
    ·go_wp2
     go_ret
     exact ⟨rfl,T3.below⟩
set_option maxHeartbeats 2000000 in
theorem wDone_any (u v:Value) (l:List (Int × FrameD)) (w:World) (hu:DonesA (In w) w u l) (hv:DonesA (In w) w v l) (hn:l.length ≤ 1048576) (hs:∀ x ∈ l,x.2.Small 1048576) :
  Calls Tryz.prog 15 #[u,v] w fun e w'=>e = .returned (.bool true) ∧ Below w.heap.size w w':=by
 obtain ⟨a,cap,rfl,hc⟩:=hu
 obtain ⟨a2,cap2,rfl,hc2⟩:=hv
 generalize hn':l.length = n at *
 have Hn:Hid (l.length = n):=hn'
 have HC:=hide hc
 have HD:=hide hc2
 have HS:=hide hs
 clear hc hc2 hn' hs
 go_enter Tryz.func15,Tryz.ntmps15
 go_wp2
 go_loopw [13] (fun i wr=>∃ (k:Nat),k ≤ n ∧ i = .int .i64 k ∧ Below w.heap.size w wr) (fun i _=>n - (intOf i).toNat)
 case atStart=>exact ⟨0,Nat.zero_le _,rfl,Below.refl _ _⟩
 case round=>
  obtain ⟨k,hk,rfl,hbl⟩:=hrel
  rename World=>wr
  by_cases hlt:k < n
  ·obtain h0 | ⟨b,off,rfl,hb0,hc⟩:=HC.out
   ·omega
   obtain h0 | ⟨b2,off2,rfl,hb2,hc2⟩:=HD.out
   ·omega
   obtain ⟨x,hx⟩:=get_some l Hn hlt
   obtain ⟨u1,u2,u3,hfu,g0,g1,g2,g3,g4⟩:=hc k hlt x hx
   obtain ⟨v1,v2,v3,hfv,e0,e1,e2,e3,e4⟩:=hc2 k hlt x hx
   rw [← hbl.cell (p:=⟨b,_,none⟩) hb0] at g0 g1 g2 g3 g4
   rw [← hbl.cell (p:=⟨b2,_,none⟩) hb2] at e0 e1 e2 e3 e4
   have hlt':(k:Int) < (n:Int):=by omega
   have KU:=hide fun (W:World) (h:Below wr.heap.size wr W)=>(hfu.keep (Q:=In wr) (In.keep hbl).1 (In.keep hbl).2).keep (Q:=In W) (In.keep h).1 (In.keep h).2
   have KV:=hide fun (W:World) (h:Below wr.heap.size wr W)=>(hfv.keep (Q:=In wr) (In.keep hbl).1 (In.keep hbl).2).keep (Q:=In W) (In.keep h).1 (In.keep h).2
   obtain ⟨a1,c1,rfl⟩:=hfu.1.size
   obtain ⟨a4,c4,rfl⟩:=hfu.2.1.size
   obtain ⟨a5,c5,rfl⟩:=hfu.2.2.size
   obtain ⟨a6,c6,rfl⟩:=hfv.1.size
   obtain ⟨a7,c7,rfl⟩:=hfv.2.1.size
   obtain ⟨a8,c8,rfl⟩:=hfv.2.2.size
   have hsx:=HS.out x (List.mem_of_getElem? hx)
   have HSX:=hide hsx
   have hne:=Ext.any wr
   have E0:=Ext.cell g0
   have E1:=Ext.cell g1
   have E2:=Ext.cell g2
   have E3:=Ext.cell g3
   have E4:=Ext.cell g4
   have F0:=Ext.cell e0
   have F1:=Ext.cell e1
   have F2:=Ext.cell e2
   have F3:=Ext.cell e3
   have F4:=Ext.cell e4
   have HB:=hide hbl
   clear hx hc hc2 hbl g0 g1 g2 g3 g4 e0 e1 e2 e3 e4 hfu hfv hsx
   go_wp2
   refine wp_region_ext (by kernel_rfl) (by kernel_rfl) ?_
   repeat (go_big_quiet_step ((go_at_call 19; exact ext_of (wFrame_any _ _ _ _ _ _ _ x.2 _ (KU.out _ (Ext.below _)) (KV.out _ (Ext.below _)) HSX.out))))
   refine wpQuiet_nil ?_
   rintro _ ⟨nq,rfl⟩
   go_wp2
   go_roundw
   case rel=>exact ⟨k + 1,by omega,by go_num,HB.out.trans (nq.below.mono HB.out.size)⟩
   case measure=>simp [intOf]; omega
  ·go_wp2
   go_ret
   exact ⟨rfl,hbl⟩
end Go.Proofs.YtdhinkgjiapigaaGreatDoor

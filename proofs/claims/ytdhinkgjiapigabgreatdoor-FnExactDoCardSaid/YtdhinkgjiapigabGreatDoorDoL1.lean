import Derived.Test.YtdhinkgjiapigabGreatDoorMark6
import Derived.Test.YtdhinkgjiapigabGreatDoorEqG
import Derived.Test.YtdhinkgjiapigabGreatDoorDoS3
import Derived.Test.YtdhinkgjiapigabGreatDoorDoK3
import Derived.Test.YtdhinkgjiapigabGreatDoorFrIC
import Derived.Test.YtdhinkgjiapigabGreatDoorEvA
namespace Go.Proofs.YtdhinkgjiapigabGreatDoor
open Go.RowKit Go.Deep
open Classical
set_option maxHeartbeats 1000000 in
theorem toEvent_do (op of lie:Int) (w:World) :
  Calls Tryz.prog 22 #[.agg #[.int .i64 op,.int .i64 of,.int .i64 lie]] w fun e w'=>e = .returned (.agg #[.int .i64 op,.int .i64 of,.int .i64 lie]) ∧ Below w.heap.size w w':=by
 go_enter Tryz.func22,Tryz.ntmps22
 go_wp2
 exact bodyPost_ret (v:=.agg #[.int .i64 op,.int .i64 of,.int .i64 lie]) (by simp [results,Tryz.results22,go_sem]) rfl ⟨rfl,(((Below.refl _ _).alloc (Nat.le_refl _) _).alloc (by simp) _).alloc (by simp; omega) _⟩
theorem FrameM.off {B0 bn T N:Nat} {w:World} {v1 v2 v3:Value} {d:FrameD} {f:Nat → Value} (h:FrameM B0 w v1 v2 v3 d) (hr:w.rowIs bn T N f) (h1:T ≠ 4) (h2:T ≠ 90) (h3:T ≠ 93):FrameP (fun c=>B0 ≤ c ∧ c ≠ bn) w v1 v2 v3 d:=by
 rcases h with ⟨bo,bp,bw,bb,h⟩ | h
 ·refine .inl ⟨bo,bp,bw,bb,h.occ,h.points,h.ways,⟨h.po,?_⟩,fun z=>⟨h.pp z,?_⟩,fun z=>⟨h.pw z,?_⟩,fun i hi=>⟨h.pb i hi,?_⟩,h.inj,h.off⟩
  ·obtain ⟨_,_,hq⟩:=h.occ.row
   exact rowIs_ne hq hr h1.symm
  ·obtain ⟨_,_,hq⟩:=h.points.row z
   exact rowIs_ne hq hr h2.symm
  ·obtain ⟨_,_,hq⟩:=h.ways.row z
   exact rowIs_ne hq hr h3.symm
  ·obtain ⟨_,_,hq⟩:=h.ways.been hi
   exact rowIs_ne hq hr h1.symm
 ·exact .inr h
set_option maxHeartbeats 1000000 in
theorem eqDone_any (c:Int) (ok:Bool) (u1 u2 u3 v1 v2 v3:Value) (d:FrameD) (w:World) (hu:FrameAt (In w) w u1 u2 u3 d) (hv:FrameAt (In w) w v1 v2 v3 d) (hs:d.Small 1048576) :
  Calls Tryz.prog 24 #[.agg #[.int .i64 c,.bool ok,u1,u2,u3],.agg #[.int .i64 c,.bool ok,v1,v2,v3]] w fun e w'=>e = .returned (.bool true) ∧ Below w.heap.size w w':=by
 have T0:=boxes2 w 50 50 #[.int .i64 c,.bool ok,u1,u2,u3] #[.int .i64 c,.bool ok,v1,v2,v3]
 have HQ:=hide (eqFrame_any ok u1 u2 u3 v1 v2 v3 d _ (hu.keep (In.keep T0.below).1 (In.keep T0.below).2) (hv.keep (In.keep T0.below).1 (In.keep T0.below).2) hs)
 obtain ⟨a1,c1,rfl⟩:=hu.1.size
 obtain ⟨a2,c2,rfl⟩:=hu.2.1.size
 obtain ⟨a3,c3,rfl⟩:=hu.2.2.size
 obtain ⟨b1,e1,rfl⟩:=hv.1.size
 obtain ⟨b2,e2,rfl⟩:=hv.2.1.size
 obtain ⟨b3,e3,rfl⟩:=hv.2.2.size
 clear hu hv hs
 go_enter Tryz.func24,Tryz.ntmps24
 go_wp2_with fail
 refine HQ.out.mono ?_
 rintro e w1 ⟨rfl,hb⟩
 have T1:=T0.call hb
 clear HQ T0 hb
 go_wp2
 go_ret
 exact ⟨rfl,T1.below⟩
set_option maxHeartbeats 1000000 in
theorem markDone_any (P:Nat → Prop) (c ok v1 v2 v3:Value) (d:FrameD) (k:Int) (w:World) (hf:FrameP P w v1 v2 v3 d) (hB:∀ c,w.heap.size ≤ c → P c) (hs:d.Small 1048576) (h0:0 ≤ k) (h1:k ≤ 1099511627776) :
  Calls Tryz.prog 27 #[.agg #[c,ok,v1,v2,v3],.int .i64 k] w fun e w'=>e = .returned (.int .i64 (k + cntF d)) ∧ FrameP P w' v1 v2 v3 (markF k d) ∧ But (fun c=>¬ P c) w w':=by
 have T0:=boxes1 w 50 #[c,ok,v1,v2,v3]
 have HQ:=hide (markFrameP_any P ok v1 v2 v3 d k _ (hf.but (K:=fun _=>True) (Q:=P) (But.of_calls T0.below) (fun _ _=>trivial) fun _ z=>z) (fun c hc=>hB c (Nat.le_trans T0.below.size hc)) hs h0 h1)
 obtain ⟨a1,c1,rfl⟩:=hf.read.1.size
 obtain ⟨a2,c2,rfl⟩:=hf.read.2.1.size
 obtain ⟨a3,c3,rfl⟩:=hf.read.2.2.size
 clear hf hB hs h0 h1
 go_enter Tryz.func27,Tryz.ntmps27
 go_wp2_with fail
 refine HQ.out.mono ?_
 rintro e w1 ⟨rfl,hf,hb⟩
 have HF:=hide (And.intro hf ((But.of_calls T0.below).trans hb))
 clear HQ T0 hb hf
 go_wp2
 go_ret
 exact ⟨rfl,HF.out⟩
set_option maxHeartbeats 1000000 in
theorem heldDone_any (c ok v1 v2 v3:Value) (d:FrameD) (k:Int) (w:World) (hf:FrameAt (In w) w v1 v2 v3 (markF k d)) (hs:d.Small 1048576) (h0:0 ≤ k) (h1:k ≤ 1099511627776) :
  Calls Tryz.prog 28 #[.agg #[c,ok,v1,v2,v3],.int .i64 k] w fun e w'=>e = .returned (.int .i64 (k + cntF d)) ∧ Below w.heap.size w w':=by
 have T0:=boxes1 w 50 #[c,ok,v1,v2,v3]
 have HQ:=hide (heldFrame_any ok v1 v2 v3 d k _ (hf.keep (In.keep T0.below).1 (In.keep T0.below).2) hs h0 h1)
 obtain ⟨a1,c1,rfl⟩:=hf.1.size
 obtain ⟨a2,c2,rfl⟩:=hf.2.1.size
 obtain ⟨a3,c3,rfl⟩:=hf.2.2.size
 have hn:=cntF_nn d
 obtain ⟨n,hn'⟩:∃ n,n = cntF d:=⟨_,rfl⟩
 rw [← hn'] at HQ hn ⊢
 have t0:decide (k + n < 0) = false:=by simp; omega
 clear hf hs h0 h1 hn hn'
 go_enter Tryz.func28,Tryz.ntmps28
 go_wp2_with fail
 refine HQ.out.mono ?_
 rintro e w1 ⟨rfl,hb⟩
 have T1:=T0.call hb
 clear HQ T0 hb
 go_wp2
 go_ret
 exact ⟨rfl,T1.below⟩
theorem zipWith_mem {ways:List WayD} {l:List HeldD} {g:WayD → HeldD → HeldD} {h:HeldD} (hm:h ∈ List.zipWith g ways l):∃ (i:Nat) (x:WayD) (y:HeldD),ways[i]? = some x ∧ l[i]? = some y ∧ h = g x y:=by
 obtain ⟨i,hi⟩:=List.getElem?_of_mem hm
 rw [List.getElem?_zipWith] at hi
 cases hx:ways[i]? with
 | none=>rw [hx] at hi; cases hi
 | some x=>
  cases hy:l[i]? with
  | none=>rw [hx,hy] at hi; cases hi
  | some y=>
   rw [hx,hy] at hi
   exact ⟨i,x,y,hx,hy,(Option.some.inj hi).symm⟩
theorem do_small (p:PlanD) (d:FrameD) (op of lie:Int):(doOf p d op of lie).2.Small 1048576:=by
 unfold doOf
 split
 ·rename_i h
  have hR:=h.1
  have hfit:=evD_fits (fits_of hR.1 hR.2.2.1 hR.2.2.2.1 hR.2.2.2.2.1 hR.2.2.2.2.2.2.1) op of lie
  obtain ⟨h1,h2,h3,h4,h5⟩:=hfit
  refine ⟨h3,h4,?_,fun x hx=>?_⟩
  ·show (List.zipWith _ p.ways (evD p d op of lie).2.ways).length ≤ _
   rw [List.length_zipWith]
   omega
  ·obtain ⟨i,x',y,e1,e2,rfl⟩:=zipWith_mem hx
   obtain ⟨q1,q2,q3,-⟩:=h5 i x' y e1 e2
   rw [settle1_length q1]
   have:=q3.1
   omega
 ·exact ⟨by show 0 ≤ _; omega,by show 0 ≤ _; omega,by show 0 ≤ _; omega,fun x hx=>by cases hx⟩
end Go.Proofs.YtdhinkgjiapigabGreatDoor
namespace Go.Proofs.YtdhinkgjiapigabGreatDoor
open Go.RowKit Go.Deep
open Classical
set_option maxRecDepth 100000 in
set_option maxHeartbeats 8000000 in
theorem implDo_any (p1 p2 p3 f1 f2 f3:Value) (p:PlanD) (d:FrameD) (op of lie:Int) (w:World) (hp:PlanAt (In w) w p1 p2 p3 p) (hwc:WaysC (In w) w p2 p.ways) (hf:FrameAt (In w) w f1 f2 f3 d) (hs:p.Small 1048576) (hd:d.Small 1048576) (hg:w.cell? ⟨1,0,none⟩ = some errT) :
  Calls Tryz.prog 23 #[.agg #[.int .i64 p.sections,p1,p2,p3,.int .i64 p.hold],.agg #[.bool d.ok,f1,f2,f3],.agg #[.int .i64 op,.int .i64 of,.int .i64 lie]] w fun e w'=>∃ u1 u2 u3,e = .returned (.agg #[.int .i64 (doOf p d op of lie).1,.bool (doOf p d op of lie).2.ok,u1,u2,u3]) ∧ Below w.heap.size w w' ∧ FrameM w.heap.size w' u1 u2 u3 (doOf p d op of lie).2:=by
 have KP:=hide fun (W:World) (h:Below w.heap.size w W)=>hp.keep (Q:=In W) (In.keep h).1 (In.keep h).2
 have KC:=hide fun (W:World) (h:Below w.heap.size w W)=>hwc.keep (Q:=In W) (In.keep h).1 (In.keep h).2
 have KF:=hide fun (W:World) (h:Below w.heap.size w W)=>hf.keep (Q:=In W) (In.keep h).1 (In.keep h).2
 obtain ⟨a1,c1,rfl⟩:=hp.1.size
 obtain ⟨a2,c2,rfl⟩:=hp.2.1.size
 obtain ⟨a3,c3,rfl⟩:=hp.2.2.size
 obtain ⟨o1,m1,rfl⟩:=hf.1.size
 obtain ⟨o2,m2,rfl⟩:=hf.2.1.size
 obtain ⟨o3,m3,rfl⟩:=hf.2.2.size
 have T0:=boxes4 w 37 42 52 50 #[.int .i64 p.sections,.slice a1 p.switches.length c1,.slice a2 p.ways.length c2,.slice a3 p.bars.length c3,.int .i64 p.hold] #[.bool d.ok,.slice o1 d.occ.length m1,.slice o2 d.points.length m2,.slice o3 d.ways.length m3] #[.int .i64 op,.int .i64 of,.int .i64 lie] #[.int .i64 0,.bool false,.slice none 0 0,.slice none 0 0,.slice none 0 0]
 have HS:=hide hs
 have HD:=hide hd
 have HG:=hide hg
 have HI:=hide (implFrameOk_any _ _ _ _ _ _ p d _ (KP.out _ T0.below) (KF.out _ T0.below) hs hd (ck hg T0.below))
 have hm:p.switches.length ≤ 1048576:=hs.1
 have hn:p.ways.length ≤ 1048576:=hs.2.1
 have hno:¬ (FrameR p d ∧ EventD p.sections p.switches.length p.ways.length op of lie) → doOf p d op of lie = (1,noFrame):=fun h=>if_neg h
 have HNO:=hide hno
 clear hp hwc hf hs hd hg hno
 go_enter Tryz.func23,Tryz.ntmps23
 go_wp2_with fail
 refine HI.out.mono ?_
 rintro e w1 ⟨rfl,hb⟩
 have T1:=T0.call hb
 clear T0 hb HI
 by_cases hfr:FrameR p d
 case neg=>
  rw [B_false hfr]
  have HFR:=hide (HNO.out fun z=>hfr z.1)
  have HT:=hide T1.below
  have r0:=T1.cell (j:=3) (i:=0) rfl rfl
  have r1:=T1.cell (j:=3) (i:=1) rfl rfl
  have r2:=T1.cell (j:=3) (i:=2) rfl rfl
  have r3:=T1.cell (j:=3) (i:=3) rfl rfl
  have r4:=T1.cell (j:=3) (i:=4) rfl rfl
  have k0:=T1.frozen (j:=3) 0 rfl
  have k1:=T1.frozen (j:=3) 1 rfl
  have k2:=T1.frozen (j:=3) 2 rfl
  have k3:=T1.frozen (j:=3) 3 rfl
  have k4:=T1.frozen (j:=3) 4 rfl
  clear hfr T1
  go_wp2
  refine bodyPost_ret (v:=.agg #[.int .i64 1,.bool false,.slice none 0 0,.slice none 0 0,.slice none 0 0]) (by simp [results,Tryz.results23,go_sem,r0,r1,r2,r3,r4]) rfl ?_
  rw [HFR.out]
  have pz:w.heap.size ≤ w.heap.size + 3:=by omega
  exact ⟨_,_,_,rfl,((((HT.out.setCell (p:=⟨w.heap.size + 3,0,none⟩) pz _).setCell (p:=⟨w.heap.size + 3,1,none⟩) pz _).setCell (p:=⟨w.heap.size + 3,2,none⟩) pz _).setCell (p:=⟨w.heap.size + 3,3,none⟩) pz _).setCell (p:=⟨w.heap.size + 3,4,none⟩) pz _,noFrameM _ _⟩
 rw [B_true hfr]
 have b0:=T1.cell (j:=0) (i:=0) rfl rfl
 have b1:=T1.cell (j:=0) (i:=1) rfl rfl
 have b2:=T1.cell (j:=0) (i:=2) rfl rfl
 have b3:=T1.cell (j:=0) (i:=3) rfl rfl
 have b4:=T1.cell (j:=0) (i:=4) rfl rfl
 have e0:=T1.cell (j:=2) (i:=0) rfl rfl
 have e1:=T1.cell (j:=2) (i:=1) rfl rfl
 have e2:=T1.cell (j:=2) (i:=2) rfl rfl
 rw [Nat.add_zero] at b0 b1 b2 b3 b4
 have HFR:=hide hfr
 have HE:=hide (eventOk_any p.sections a1 a2 p.switches.length p.ways.length c1 c2 (.slice a3 p.bars.length c3) (.int .i64 p.hold) op of lie w1 hm hn)
 clear hfr
 go_wp2_with fail
 refine HE.out.mono ?_
 rintro e w2 ⟨rfl,hb⟩
 have T2:=T1.call hb
 clear T1 hb HE b0 b1 b2 b3 b4 e0 e1 e2
 have r0:=T2.cell (j:=3) (i:=0) rfl rfl
 have r1:=T2.cell (j:=3) (i:=1) rfl rfl
 have r2:=T2.cell (j:=3) (i:=2) rfl rfl
 have r3:=T2.cell (j:=3) (i:=3) rfl rfl
 have r4:=T2.cell (j:=3) (i:=4) rfl rfl
 have k0:=T2.frozen (j:=3) 0 rfl
 have k1:=T2.frozen (j:=3) 1 rfl
 have k2:=T2.frozen (j:=3) 2 rfl
 have k3:=T2.frozen (j:=3) 3 rfl
 have k4:=T2.frozen (j:=3) 4 rfl
 by_cases hev:EventD p.sections p.switches.length p.ways.length op of lie
 case neg=>
  rw [B_false hev]
  have HFR:=hide (HNO.out fun z=>hev z.2)
  have HT:=hide T2.below
  clear hev T2
  go_wp2
  refine bodyPost_ret (v:=.agg #[.int .i64 1,.bool false,.slice none 0 0,.slice none 0 0,.slice none 0 0]) (by simp [results,Tryz.results23,go_sem,r0,r1,r2,r3,r4]) rfl ?_
  rw [HFR.out]
  have pz:w.heap.size ≤ w.heap.size + 3:=by omega
  exact ⟨_,_,_,rfl,((((HT.out.setCell (p:=⟨w.heap.size + 3,0,none⟩) pz _).setCell (p:=⟨w.heap.size + 3,1,none⟩) pz _).setCell (p:=⟨w.heap.size + 3,2,none⟩) pz _).setCell (p:=⟨w.heap.size + 3,3,none⟩) pz _).setCell (p:=⟨w.heap.size + 3,4,none⟩) pz _,noFrameM _ _⟩
 rw [B_true hev]
 have HDO:=hide (show doOf p d op of lie = doD p d op of lie from if_pos ⟨HFR.out,hev⟩)
 have HBE:=hide (behind_any _ _ _ _ _ _ p d op of lie w2 (KP.out _ T2.below) (KC.out _ T2.below) (KF.out _ T2.below) HS.out HD.out HFR.out hev)
 have b0:=T2.cell (j:=0) (i:=0) rfl rfl
 have b1:=T2.cell (j:=0) (i:=1) rfl rfl
 have b2:=T2.cell (j:=0) (i:=2) rfl rfl
 have b3:=T2.cell (j:=0) (i:=3) rfl rfl
 have b4:=T2.cell (j:=0) (i:=4) rfl rfl
 have f0:=T2.cell (j:=1) (i:=0) rfl rfl
 have f1:=T2.cell (j:=1) (i:=1) rfl rfl
 have f2:=T2.cell (j:=1) (i:=2) rfl rfl
 have f3:=T2.cell (j:=1) (i:=3) rfl rfl
 have e0:=T2.cell (j:=2) (i:=0) rfl rfl
 have e1:=T2.cell (j:=2) (i:=1) rfl rfl
 have e2:=T2.cell (j:=2) (i:=2) rfl rfl
 rw [Nat.add_zero] at b0 b1 b2 b3 b4
 clear hev r0 r1 r2 r3 r4 k0 k1 k2 k3 k4
 go_wp2_with fail
 refine HBE.out.mono ?_
 rintro e w3 ⟨u1,u2,u3,rfl,hb,bo,bp,bw,bb,hF⟩
 have T3:=T2.call hb
 have hz2:w.heap.size + 3 < w2.heap.size:=T2.lt (j:=3) rfl
 have HF:Hid (OFrame (fun c=>w2.heap.size ≤ c) w3 u1 u2 u3 (doD p d op of lie).2 bo bp bw bb):=hF.but (K:=fun _=>True) (But.refl _ _) (fun _ _=>trivial) fun _ z=>z.1
 obtain ⟨g1,N1,q1,rfl,-⟩:=id hF.occ
 obtain ⟨a4,q2,rfl,-⟩:=id hF.points
 obtain ⟨a5,q3,rfl,-⟩:=id hF.ways
 clear T2 hb HBE hF b0 b1 b2 b3 b4 f0 f1 f2 f3 e0 e1 e2
 have r0:=T3.cell (j:=3) (i:=0) rfl rfl
 have r1:=T3.cell (j:=3) (i:=1) rfl rfl
 have r2:=T3.cell (j:=3) (i:=2) rfl rfl
 have r3:=T3.cell (j:=3) (i:=3) rfl rfl
 have r4:=T3.cell (j:=3) (i:=4) rfl rfl
 have k0:=T3.frozen (j:=3) 0 rfl
 have k1:=T3.frozen (j:=3) 1 rfl
 have k2:=T3.frozen (j:=3) 2 rfl
 have k3:=T3.frozen (j:=3) 3 rfl
 have k4:=T3.frozen (j:=3) 4 rfl
 have HT:=hide T3.below
 obtain ⟨R,hR⟩:∃ R,R = doD p d op of lie:=⟨_,rfl⟩
 rw [← hR] at HF HDO ⊢
 clear T3 hR
 go_wp2
 refine bodyPost_ret (v:=.agg #[.int .i64 R.1,.bool R.2.ok,.slice (some ⟨bo,0,none⟩) R.2.occ.length q1,.slice a4 R.2.points.length q2,.slice a5 R.2.ways.length q3]) (by simp [results,Tryz.results23,go_sem,r0,r1,r2,r3,r4]) rfl ?_
 rw [HDO.out]
 have pz:w.heap.size ≤ w.heap.size + 3:=by omega
 have hk:∀ o:Nat,¬ ((fun c=>c ≠ w.heap.size + 3) (⟨w.heap.size + 3,o,none⟩:Addr).block):=fun o z=>z rfl
 refine ⟨_,_,_,rfl,((((HT.out.setCell (p:=⟨w.heap.size + 3,0,none⟩) pz _).setCell (p:=⟨w.heap.size + 3,1,none⟩) pz _).setCell (p:=⟨w.heap.size + 3,2,none⟩) pz _).setCell (p:=⟨w.heap.size + 3,3,none⟩) pz _).setCell (p:=⟨w.heap.size + 3,4,none⟩) pz _,.inl ⟨bo,bp,bw,bb,?_⟩⟩
 exact HF.out.but (Q:=fun c=>w.heap.size ≤ c) ((((((But.refl (fun c=>c ≠ w.heap.size + 3) w3).setCell (hk 0) _).setCell (hk 1) _).setCell (hk 2) _).setCell (hk 3) _).setCell (hk 4) _) (fun c hc=>by omega) fun c hc=>by omega
end Go.Proofs.YtdhinkgjiapigabGreatDoor

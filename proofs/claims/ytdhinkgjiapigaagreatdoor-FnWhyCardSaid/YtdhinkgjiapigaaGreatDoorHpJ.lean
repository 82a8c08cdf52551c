import Derived.Test.YtdhinkgjiapigaaGreatDoorWhyW
import Derived.Test.YtdhinkgjiapigaaGreatDoorDltx
import Derived.Test.YtdhinkgjiapigaaGreatDoorHpI
import Derived.Test.YtdhinkgjiapigaaGreatDoorFrIC
import Derived.Test.YtdhinkgjiapigaaGreatDoorDoI4
import Derived.Test.YtdhinkgjiapigaaGreatDoorBx
namespace Go.Proofs.YtdhinkgjiapigaaGreatDoor
open Go.RowKit Go.Deep Go.Shelf
open Classical
theorem zws {w W:World} {rb t:Nat} {f:Nat → Value} (hb:Below w.heap.size w W) (hr:W.rowIs rb t 3 f) (hrb:w.heap.size ≤ rb) (u0 u1 u2:Value) {WE:World} (hWE:WE = ((W.setCell ⟨rb,0,none⟩ u0).setCell ⟨rb,1,none⟩ u1).setCell ⟨rb,2,none⟩ u2) :
  WE.cell? ⟨rb,0,none⟩ = some u0 ∧ WE.cell? ⟨rb,1,none⟩ = some u1 ∧ WE.cell? ⟨rb,2,none⟩ = some u2 ∧ Below w.heap.size w WE:=by
 subst hWE;have hk:∀ o:Nat,¬ ((fun c=>c ≠ rb) (⟨rb,o,none⟩:Addr).block):=fun o z=>z rfl;have h1:=((hr.set 0 u0).set 1 u1).set 2 u2;have hB:=(((But.refl (fun c=>c ≠ rb) W).setCell (hk 0) u0).setCell (hk 1) u1).setCell (hk 2) u2;exact ⟨by simpa using h1.cell (i:=0) (by omega),by simpa using h1.cell (i:=1) (by omega),by simpa using h1.cell (i:=2) (by omega),hb.trans (hB.below hb.size fun c hc=>by omega)⟩
set_option maxRecDepth 100000 in
set_option maxHeartbeats 1600000 in
theorem zwk (a1 a2 a3 o1 o2 o3:Option Addr) (c1 c2 c3 m1 m2 m3:Nat) (p:PlanD) (d:FrameD) (i:Nat) (nb ns nh:Nat) (w:World) (hwl:p.ways.length ≤ 1048576) (hi:i < p.ways.length)
  (hfo:∀ W,Below w.heap.size w W → Calls Tryz.prog 18 #[.agg #[.int .i64 p.sections,.slice a1 p.switches.length c1,.slice a2 p.ways.length c2,.slice a3 p.bars.length c3,.int .i64 p.hold],.agg #[.bool d.ok,.slice o1 d.occ.length m1,.slice o2 d.points.length m2,.slice o3 d.ways.length m3]] W fun e w'=>e = .returned (.bool true) ∧ Below W.heap.size W w')
  (hba:∀ W,Below w.heap.size w W → Calls Tryz.prog 64 #[.agg #[.int .i64 p.sections,.slice a1 p.switches.length c1,.slice a2 p.ways.length c2,.slice a3 p.bars.length c3,.int .i64 p.hold,.bool d.ok,.slice o1 d.occ.length m1,.slice o2 d.points.length m2,.slice o3 d.ways.length m3,.int .i64 (i:Int)]] W fun e w'=>∃ a c,e = .returned (.slice a nb c) ∧ Below W.heap.size W w')
  (hst:∀ W,Below w.heap.size w W → Calls Tryz.prog 65 #[.agg #[.int .i64 p.sections,.slice a1 p.switches.length c1,.slice a2 p.ways.length c2,.slice a3 p.bars.length c3,.int .i64 p.hold,.bool d.ok,.slice o1 d.occ.length m1,.slice o2 d.points.length m2,.slice o3 d.ways.length m3,.int .i64 (i:Int)]] W fun e w'=>∃ a c,e = .returned (.slice a ns c) ∧ Below W.heap.size W w')
  (hhp:∀ W,Below w.heap.size w W → Calls Tryz.prog 66 #[.agg #[.int .i64 p.sections,.slice a1 p.switches.length c1,.slice a2 p.ways.length c2,.slice a3 p.bars.length c3,.int .i64 p.hold,.bool d.ok,.slice o1 d.occ.length m1,.slice o2 d.points.length m2,.slice o3 d.ways.length m3,.int .i64 (i:Int)]] W fun e w'=>∃ a c,e = .returned (.slice a nh c) ∧ Below W.heap.size W w') :
  Calls Tryz.prog 28 #[.agg #[.int .i64 p.sections,.slice a1 p.switches.length c1,.slice a2 p.ways.length c2,.slice a3 p.bars.length c3,.int .i64 p.hold],.agg #[.bool d.ok,.slice o1 d.occ.length m1,.slice o2 d.points.length m2,.slice o3 d.ways.length m3],.int .i64 (i:Int)] w fun e w'=>∃ b1 b2 b3 e1 e2 e3,e = .returned (.agg #[.slice b1 nb e1,.slice b2 ns e2,.slice b3 nh e3]) ∧ Below w.heap.size w w':=by
 have T0:=zbs w 27 40 63 #[.int .i64 p.sections,.slice a1 p.switches.length c1,.slice a2 p.ways.length c2,.slice a3 p.bars.length c3,.int .i64 p.hold] #[.bool d.ok,.slice o1 d.occ.length m1,.slice o2 d.points.length m2,.slice o3 d.ways.length m3] #[.slice none 0 0,.slice none 0 0,.slice none 0 0];obtain ⟨b0,b1,b2,b3,b4⟩:=xb5 T0 0 rfl rfl rfl rfl rfl rfl;obtain ⟨e0,e1,e2,e3⟩:=xb4 T0 1 rfl rfl rfl rfl rfl;rw [Nat.add_zero] at b0 b1 b2 b3 b4;have HFO:=zaa hfo;have HBA:=zaa hba;have HST:=zaa hst;have HHP:=zaa hhp;clear hfo hba hst hhp;go_enter Tryz.func28,Tryz.ntmps28
 go_wp2_with fail
 refine (HFO.out _ T0.below).mono ?_;clear b0 b1 b2 b3 b4 e0 e1 e2 e3;rintro e w1 ⟨rfl,hb⟩;have T1:=T0.call hb;clear T0 hb HFO;obtain ⟨b0,b1,b2,b3,b4⟩:=xb5 T1 0 rfl rfl rfl rfl rfl rfl;obtain ⟨e0,e1,e2,e3⟩:=xb4 T1 1 rfl rfl rfl rfl rfl;rw [Nat.add_zero] at b0 b1 b2 b3 b4
 go_wp2_with fail
 refine (zoh _ _ p.ways.length _ _ _ _ (i:Int) _ hwl).mono ?_;clear b0 b1 b2 b3 b4 e0 e1 e2 e3;rintro e w2 ⟨rfl,hb⟩;rw [zam (show InR (i:Int) 0 ((p.ways.length:Int) - 1) from ⟨by omega,by omega⟩)];have T2:=T1.call hb;clear T1 hb;obtain ⟨b0,b1,b2,b3,b4⟩:=xb5 T2 0 rfl rfl rfl rfl rfl rfl;obtain ⟨e0,e1,e2,e3⟩:=xb4 T2 1 rfl rfl rfl rfl rfl;rw [Nat.add_zero] at b0 b1 b2 b3 b4;have HT3:=zaa (T2.call (zab w2 (.cells #[.int .i64 p.sections,.slice a1 p.switches.length c1,.slice a2 p.ways.length c2,.slice a3 p.bars.length c3,.int .i64 p.hold,.bool d.ok,.slice o1 d.occ.length m1,.slice o2 d.points.length m2,.slice o3 d.ways.length m3,.int .i64 (i:Int)] 107)));have HRN:=zaa (show (w2.alloc (.cells #[.int .i64 p.sections,.slice a1 p.switches.length c1,.slice a2 p.ways.length c2,.slice a3 p.bars.length c3,.int .i64 p.hold,.bool d.ok,.slice o1 d.occ.length m1,.slice o2 d.points.length m2,.slice o3 d.ways.length m3,.int .i64 (i:Int)] 107)).rowIs w2.heap.size 107 10 (fun i_1=>(#[.int .i64 p.sections,.slice a1 p.switches.length c1,.slice a2 p.ways.length c2,.slice a3 p.bars.length c3,.int .i64 p.hold,.bool d.ok,.slice o1 d.occ.length m1,.slice o2 d.points.length m2,.slice o3 d.ways.length m3,.int .i64 (i:Int)]:Array Value)[i_1]!) from zak w2 107 #[.int .i64 p.sections,.slice a1 p.switches.length c1,.slice a2 p.ways.length c2,.slice a3 p.bars.length c3,.int .i64 p.hold,.bool d.ok,.slice o1 d.occ.length m1,.slice o2 d.points.length m2,.slice o3 d.ways.length m3,.int .i64 (i:Int)])
 clear T2
 go_upto_region 4 with fail
 clear b0 b1 b2 b3 b4 e0 e1 e2 e3;obtain ⟨W3,hW3⟩:∃ W,W = w2.alloc (.cells #[.int .i64 p.sections,.slice a1 p.switches.length c1,.slice a2 p.ways.length c2,.slice a3 p.bars.length c3,.int .i64 p.hold,.bool d.ok,.slice o1 d.occ.length m1,.slice o2 d.points.length m2,.slice o3 d.ways.length m3,.int .i64 (i:Int)] 107):=⟨_,rfl⟩;obtain ⟨ab,hab⟩:∃ b,b = w2.heap.size:=⟨_,rfl⟩;rw [← hW3] at HT3 HRN ⊢;rw [← hab] at HRN ⊢;clear hW3 hab;have hks:∀ W:World,Below W3.heap.size W3 W → (fun W:World=>W.cell? ⟨ab,0,none⟩ = some (.int .i64 p.sections) ∧ W.cell? ⟨ab,1,none⟩ = some (.slice a1 p.switches.length c1) ∧ W.cell? ⟨ab,2,none⟩ = some (.slice a2 p.ways.length c2) ∧ W.cell? ⟨ab,3,none⟩ = some (.slice a3 p.bars.length c3) ∧ W.cell? ⟨ab,4,none⟩ = some (.int .i64 p.hold) ∧ W.cell? ⟨ab,5,none⟩ = some (.bool d.ok) ∧ W.cell? ⟨ab,6,none⟩ = some (.slice o1 d.occ.length m1) ∧ W.cell? ⟨ab,7,none⟩ = some (.slice o2 d.points.length m2) ∧ W.cell? ⟨ab,8,none⟩ = some (.slice o3 d.ways.length m3) ∧ W.cell? ⟨ab,9,none⟩ = some (.int .i64 (i:Int))) W:=fun W h=>⟨(zah HRN.out h).cell (i:=0) (by show 0 < 10; omega),(zah HRN.out h).cell (i:=1) (by show 1 < 10; omega),(zah HRN.out h).cell (i:=2) (by show 2 < 10; omega),(zah HRN.out h).cell (i:=3) (by show 3 < 10; omega),(zah HRN.out h).cell (i:=4) (by show 4 < 10; omega),(zah HRN.out h).cell (i:=5) (by show 5 < 10; omega),(zah HRN.out h).cell (i:=6) (by show 6 < 10; omega),(zah HRN.out h).cell (i:=7) (by show 7 < 10; omega),(zah HRN.out h).cell (i:=8) (by show 8 < 10; omega),(zah HRN.out h).cell (i:=9) (by show 9 < 10; omega)⟩
 have KS:=zaa hks;clear hks;refine zct (S:=fun W:World=>W.cell? ⟨ab,0,none⟩ = some (.int .i64 p.sections) ∧ W.cell? ⟨ab,1,none⟩ = some (.slice a1 p.switches.length c1) ∧ W.cell? ⟨ab,2,none⟩ = some (.slice a2 p.ways.length c2) ∧ W.cell? ⟨ab,3,none⟩ = some (.slice a3 p.bars.length c3) ∧ W.cell? ⟨ab,4,none⟩ = some (.int .i64 p.hold) ∧ W.cell? ⟨ab,5,none⟩ = some (.bool d.ok) ∧ W.cell? ⟨ab,6,none⟩ = some (.slice o1 d.occ.length m1) ∧ W.cell? ⟨ab,7,none⟩ = some (.slice o2 d.points.length m2) ∧ W.cell? ⟨ab,8,none⟩ = some (.slice o3 d.ways.length m3) ∧ W.cell? ⟨ab,9,none⟩ = some (.int .i64 (i:Int))) 7 (by kernel_rfl) (KS.out _ (zaf _)) (fun hS=>?_);have hd0:=zaf W3;obtain ⟨wD,hwD⟩:∃ W,W = W3.drew:=⟨_,rfl⟩;rw [← hwD] at hS hd0 ⊢;clear hwD;refine tkL (v:=?v0) At.z (by kernel_rfl) (fun _ _ _ h=>h) rfl ?h0 hS ?_
 case h0=>intro _ s; (try dsimp only at s); go_simp; try with_reducible rfl
 try simp only [Act.put,sA,sB,sC]
 refine tkL (v:=?v2) At.z.s.s (by kernel_rfl) (fun _ _ _ h=>h) rfl ?h2 hS ?_
 case h2=>intro _ s; (try dsimp only at s); go_simp; try with_reducible rfl
 try simp only [Act.put,sA,sB,sC]
 refine tkL (v:=?v4) At.z.s.s.s.s (by kernel_rfl) (fun _ _ _ h=>h) rfl ?h4 hS ?_
 case h4=>intro _ s; (try dsimp only at s); go_simp; try with_reducible rfl
 try simp only [Act.put,sA,sB,sC]
 clear hS;refine zbk (i:=1) At.z.s (by kernel_rfl) (fun K0 hK0=>?_);go_simp;refine (HBA.out _ (HT3.out.call hd0).below).mono ?_;rintro e u0 ⟨sa1,sc1,rfl,hb⟩;have hd1:=hd0.trans (hb.mono hd0.size);refine hK0.out _ _ (KS.out _ hd1) ?_;clear hK0 K0 hb
 try simp only [Act.put,sA,sB,sC]
 refine zbk (i:=3) At.z.s.s.s (by kernel_rfl) (fun K1 hK1=>?_);go_simp;refine (HST.out _ (HT3.out.call hd1).below).mono ?_;rintro e u1 ⟨sa3,sc3,rfl,hb⟩;have hd2:=hd1.trans (hb.mono hd1.size);refine hK1.out _ _ (KS.out _ hd2) ?_;clear hK1 K1 hb
 try simp only [Act.put,sA,sB,sC]
 refine zbk (i:=5) At.z.s.s.s.s.s (by kernel_rfl) (fun K2 hK2=>?_);go_simp;refine (HHP.out _ (HT3.out.call hd2).below).mono ?_;rintro e u2 ⟨sa5,sc5,rfl,hb⟩;have hd3:=hd2.trans (hb.mono hd2.size);refine hK2.out _ _ (KS.out _ hd3) ?_;clear hK2 K2 hb
 try simp only [Act.put,sA,sB,sC]
 have hS:=KS.out _ hd3;refine tkL (v:=?vz) At.z.s.s.s.s.s.s (by kernel_rfl) (fun _ _ _ h=>h) rfl ?hz hS ?_
 case hz=>intro _ s; (try dsimp only at s); go_simp; try with_reducible rfl
 try simp only [Act.put,sA,sB,sC]
 have hT:=HT3.out.call hd3;have hr:=hT.row 2 _ _ rfl;have r0:=hr.cell (i:=0) (by show 0 < 3; omega);have r1:=hr.cell (i:=1) (by show 1 < 3; omega);have r2:=hr.cell (i:=2) (by show 2 < 3; omega);have k0:=hr.frozen 0;have k1:=hr.frozen 1;have k2:=hr.frozen 2;obtain ⟨WE,hWE⟩:∃ W,W = ((u2.setCell ⟨w.heap.size + 2,0,none⟩ (.slice sa1 nb sc1)).setCell ⟨w.heap.size + 2,1,none⟩ (.slice sa3 ns sc3)).setCell ⟨w.heap.size + 2,2,none⟩ (.slice sa5 nh sc5):=⟨_,rfl⟩;obtain ⟨q0,q1,q2,hbE⟩:=zws hT.below hr (by omega) (.slice sa1 nb sc1) (.slice sa3 ns sc3) (.slice sa5 nh sc5) hWE;refine zf1 At.z.s.s.s.s.s.s.s (by kernel_rfl) (by kernel_rfl) (fun K3 hK3=>?_);go_simp;rw [← hWE];refine hK3.out _ _ ?_;clear hK3 K3 hWE r0 r1 r2 k0 k1 k2 hr hT
 try simp only [Act.put,sA,sB,sC]
 go_wp2;refine bodyPost_ret (v:=.agg #[.slice sa1 nb sc1,.slice sa3 ns sc3,.slice sa5 nh sc5]) (by simp [results,Tryz.results28,go_sem,q0,q1,q2]) rfl ?_;exact ⟨⟨_,_,_,_,_,_,rfl⟩,hbE⟩
theorem zv8 (p1 p2 p3 f1 f2 f3:Value) (p:PlanD) (d:FrameD) (i:Nat) (x:WayD) (w:World) (hp:PlanAt (In w) w p1 p2 p3 p) (hc:WaysC (In w) w p2 p.ways) (hf:FrameAt (In w) w f1 f2 f3 d) (hs:p.Small 1048576) (hd:d.Small 1048576) (hR:zas p d) (hx:p.ways[i]? = some x) (hg:w.cell? ⟨1,0,none⟩ = some zrv) :
  Calls Tryz.prog 28 #[.agg #[.int .i64 p.sections,p1,p2,p3,.int .i64 p.hold],.agg #[.bool d.ok,f1,f2,f3],.int .i64 (i:Int)] w fun e w'=>∃ b1 b2 b3 e1 e2 e3,e = .returned (.agg #[.slice b1 (zcc p d i).length e1,.slice b2 (zgc d.occ x).length e2,.slice b3 (zv5 (zdb d.points x) (zew p d i) (zgd p d)).length e3]) ∧ Below w.heap.size w w':=by
 have KP:=fun (W:World) (h:Below w.heap.size w W)=>hp.keep (Q:=In W) (In.keep h).1 (In.keep h).2;have KC:=fun (W:World) (h:Below w.heap.size w W)=>hc.keep (Q:=In W) (In.keep h).1 (In.keep h).2;have KF:=fun (W:World) (h:Below w.heap.size w W)=>hf.keep (Q:=In W) (In.keep h).1 (In.keep h).2;obtain ⟨a1,c1,rfl⟩:=hp.1.size;obtain ⟨a2,c2,rfl⟩:=hp.2.1.size;obtain ⟨a3,c3,rfl⟩:=hp.2.2.size;obtain ⟨o1,m1,rfl⟩:=hf.1.size;obtain ⟨o2,m2,rfl⟩:=hf.2.1.size;obtain ⟨o3,m3,rfl⟩:=hf.2.2.size;have hi:i < p.ways.length:=(List.getElem?_eq_some_iff.1 hx).1;have hw:=hR.1.way hx;have hw100:=hR.1.parts.1.2.2.1;have hsw:=hR.1.parts.2.1;have hps:d.points.length = p.switches.length:=hR.2.2.2.1;have hso:(d.occ.length:Int) = p.sections:=hR.2.2.1
 have hlist:∀ l,ListOk p.sections l → ∀ s ∈ l,0 ≤ s ∧ s < d.occ.length:=fun l hl s hs=>by
  obtain ⟨j,hj⟩:=List.getElem?_of_mem hs;have:=(hl.1 j (List.getElem?_eq_some_iff.1 hj).1 s hj).1;exact ⟨this.1,by have:=this.2; omega⟩
 have hlies:∀ l,LiesOk p.switches.length l → ∀ y ∈ l,0 ≤ y.1 ∧ y.1 < p.switches.length:=fun l hl y hy=>by
  obtain ⟨j,hj⟩:=List.getElem?_of_mem hy;have:=(hl.1 j (List.getElem?_eq_some_iff.1 hj).1 y hj).1.1;exact ⟨this.1,by have:=this.2; omega⟩
 have hsm:x.Small 30:=⟨hw.2.1.2,hw.2.2.2.2.1.2,hw.2.2.2.2.2.1.2,hw.2.2.1.2,hw.2.2.2.1.2⟩
 have hly:∀ y,(y ∈ x.lies ∨ y ∈ x.flanks) → 0 ≤ y.1 ∧ y.1 < p.switches.length:=fun y hy=>by
  rcases hy with hy | hy
  ·exact hlies _ hw.2.2.2.2.1 y hy
  ·exact hlies _ hw.2.2.2.2.2.1 y hy
 have htm:∀ y ∈ zdb d.points x,0 ≤ y.1 ∧ y.1 < p.switches.length:=fun y hy=>hly y (List.mem_append.1 (List.mem_filter.1 hy).1);have htl:(zdb d.points x).length ≤ 1048576:=Nat.le_trans (List.length_filter_le _ _) (by rw [List.length_append]; have:=hsm.2.1; have:=hsm.2.2.1; omega)
 refine zwk a1 a2 a3 o1 o2 o3 c1 c2 c3 m1 m2 m3 p d i (zcc p d i).length (zgc d.occ x).length (zv5 (zdb d.points x) (zew p d i) (zgd p d)).length w hs.2.1 hi
  (fun W hW=>(zsi _ _ _ _ _ _ p d W (KP W hW) (KF W hW) hs hd (ck hg hW)).mono fun e w' h=>?_) ?_ ?_ ?_
 ·rw [zam hR] at h;exact h
 ·intro W hW;refine (zgy _ _ _ _ _ _ p d i W (KP W hW) (KF W hW) hs hd hR hi).mono ?_;rintro e w' ⟨v,rfl,hb,m,hr⟩
  have hm:m = (zcc p d i).length:=by have:=hr.1; rw [zlk] at this; omega
  subst hm;rcases hr.2 with ⟨rfl,h0⟩ | ⟨g,cap,cur,rfl,-⟩
  ·exact ⟨none,0,by rw [h0],hb⟩
  ·exact ⟨_,_,rfl,hb⟩
 ·intro W hW
  exact zf0 _ _ _ _ _ _ p d i x W (KP W hW) (KF W hW) hd hx hsm (fun s hs=>by
   rcases List.mem_append.1 hs with hs | hs
   ·exact hlist _ hw.2.1 s hs
   ·exact hlist _ hw.2.2.1 s hs) hw100
 ·intro W0 hW0;refine (zwd a1 a2 a3 o1 o2 o3 c1 c2 c3 m1 m2 m3 p d i (zdb d.points x) (zew p d i) (zgd p d) W0 htl ?_ ?_ ?_)
  ·intro W hW2;have hW:=hW0.trans (hW2.mono hW0.size);refine (zpa _ _ _ _ _ _ p d i x W (KP W hW) (KF W hW) hd hx hsm (fun y hy=>by rw [hps]; exact hly y hy) hw100).mono ?_;rintro e w' ⟨v,rfl,hb,m,hr⟩;exact ⟨v,rfl,hb,(zhd hr).keep (zax _ _) fun b hb=>hb.2⟩
  ·intro y W' hy hW2;have hB:=hW0.trans (hW2.mono hW0.size);obtain ⟨h1,h2⟩:=htm y hy;obtain ⟨q,hq⟩:∃ q:Nat,y.1 = q:=⟨y.1.toNat,by omega⟩;unfold zew;rw [hq];exact zm7 _ _ _ _ _ _ p d i q y.2 W' (KP W' hB) (KC W' hB) (KF W' hB) hs hd hR (by omega) (Nat.le_trans (zjm _ _ _) hs.2.1)
  ·intro y W' hy hW2;have hB:=hW0.trans (hW2.mono hW0.size);obtain ⟨h1,h2⟩:=htm y hy;obtain ⟨q,hq⟩:∃ q:Nat,y.1 = q:=⟨y.1.toNat,by omega⟩;obtain ⟨s,hss⟩:=zac p.switches (zaa rfl) (show q < p.switches.length by omega);have hsr:InR s 0 (p.sections - 1):=Classical.byContradiction fun e=>hsw q ⟨s,hss,e⟩;obtain ⟨t,ht⟩:∃ t:Nat,s = t:=⟨s.toNat,by have:=hsr.1; omega⟩;obtain ⟨o,ho⟩:=zac d.occ (zaa rfl) (show t < d.occ.length by have:=hsr.2; omega)
   have hst:zgd p d y = o:=by
    unfold zgd;rw [hq,show ((q:Int)).toNat = q by simp,List.getD_eq_getElem?_getD,List.getD_eq_getElem?_getD,hss,ht];show (d.occ[((t:Int)).toNat]?).getD false = o;rw [show ((t:Int)).toNat = t by simp,ho]; rfl
   rw [hst,hq];exact zo3 _ _ _ _ _ _ _ _ _ i p.switches d.occ q t y.2 o W' (KP W' hB).1 (KF W' hB).1 (by rw [hss,ht]) ho hs.1 hd.1 ⟨_,rfl⟩ ⟨_,rfl⟩ ⟨_,rfl⟩ ⟨_,_,_,rfl⟩ ⟨_,_,_,rfl⟩ ⟨_,_,_,rfl⟩ ⟨_,_,_,rfl⟩
end Go.Proofs.YtdhinkgjiapigaaGreatDoor

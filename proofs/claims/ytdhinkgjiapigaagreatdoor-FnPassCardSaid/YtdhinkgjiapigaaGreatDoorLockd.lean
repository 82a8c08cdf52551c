import Derived.Test.YtdhinkgjiapigaaGreatDoorBarW
import Derived.Test.YtdhinkgjiapigaaGreatDoorPlI
namespace Go.Proofs.YtdhinkgjiapigaaGreatDoor
open Go.RowKit Go.Deep Go.Shelf
open Classical
set_option maxRecDepth 100000 in
set_option maxHeartbeats 8000000 in
theorem locked_any (p1 p2 p3 f1 f2 f3:Value) (p:PlanD) (d:FrameD) (k:Int) (q:Nat) (l:Int) (w:World) (hp:PlanAt (In w) w p1 p2 p3 p) (hc:WaysC (In w) w p2 p.ways) (hf:FrameAt (In w) w f1 f2 f3 d) (hs:p.Small 1048576) (hd:d.Small 1048576) (hR:FrameR p d) (hq:q < p.switches.length) (hlen:(pointD p d q).length ≤ 1048576) :
  Calls Tryz.prog 107 #[.agg #[.int .i64 p.sections,p1,p2,p3,.int .i64 p.hold,.bool d.ok,f1,f2,f3,.int .i64 k],.agg #[.int .i64 (q:Int),.int .i64 l]] w fun e w'=>e = .returned (.bool ((pointD p d q).any fun y=>y != k)) ∧ Below w.heap.size w w':=by
 have HC:=hide hc
 have HP:=hide hp
 have HF:=hide hf
 have HS:=hide hs
 have HD:=hide hd
 have HFR:=hide hR
 obtain ⟨a1,c1,rfl⟩:=hp.1.size
 obtain ⟨a2,c2,rfl⟩:=hp.2.1.size
 obtain ⟨a3,c3,rfl⟩:=hp.2.2.size
 obtain ⟨o1,m1,rfl⟩:=hf.1.size
 obtain ⟨o2,m2,rfl⟩:=hf.2.1.size
 obtain ⟨o3,m3,rfl⟩:=hf.2.2.size
 have T0:=boxes2 w 107 58 #[.int .i64 p.sections,.slice a1 p.switches.length c1,.slice a2 p.ways.length c2,.slice a3 p.bars.length c3,.int .i64 p.hold,.bool d.ok,.slice o1 d.occ.length m1,.slice o2 d.points.length m2,.slice o3 d.ways.length m3,.int .i64 k] #[.int .i64 (q:Int),.int .i64 l]
 have hpl:Calls Tryz.prog 60 #[.agg #[.int .i64 p.sections,.slice a1 p.switches.length c1,.slice a2 p.ways.length c2,.slice a3 p.bars.length c3,.int .i64 p.hold],.agg #[.bool d.ok,.slice o1 d.occ.length m1,.slice o2 d.points.length m2,.slice o3 d.ways.length m3],.int .i64 (q:Int)] ((w.alloc (.cells #[.int .i64 p.sections,.slice a1 p.switches.length c1,.slice a2 p.ways.length c2,.slice a3 p.bars.length c3,.int .i64 p.hold,.bool d.ok,.slice o1 d.occ.length m1,.slice o2 d.points.length m2,.slice o3 d.ways.length m3,.int .i64 k] 107)).alloc (.cells #[.int .i64 (q:Int),.int .i64 l] 58)).drew fun e w'=>∃ v,e = .returned v ∧ Boxes w [(107,#[.int .i64 p.sections,.slice a1 p.switches.length c1,.slice a2 p.ways.length c2,.slice a3 p.bars.length c3,.int .i64 p.hold,.bool d.ok,.slice o1 d.occ.length m1,.slice o2 d.points.length m2,.slice o3 d.ways.length m3,.int .i64 k]),(58,#[.int .i64 (q:Int),.int .i64 l])] w' ∧ Ints (In w') w' v (pointD p d q):=by
  have hb:=(T0.call (below_drew _)).below
  refine (pointLock_any _ _ _ _ _ _ p d q _ (HP.out.keep (In.keep hb).1 (In.keep hb).2) (HC.out.keep (In.keep hb).1 (In.keep hb).2) (HF.out.keep (In.keep hb).1 (In.keep hb).2) HS.out HD.out HFR.out hq).mono ?_
  rintro e w' ⟨v,rfl,hb',m,hr⟩
  exact ⟨v,rfl,(T0.call (below_drew _)).call hb',(own_ints hr).2.keep (same_refl _ _) fun b hb=>hb.2⟩
 have HPL:=hide hpl
 have hcf:∀ (w5:World) (v:Value),Ints (In w5) w5 v (pointD p d q) → Calls Tryz.prog 155 #[v,.func (.func 156) #[.agg #[.int .i64 p.sections,.slice a1 p.switches.length c1,.slice a2 p.ways.length c2,.slice a3 p.bars.length c3,.int .i64 p.hold,.bool d.ok,.slice o1 d.occ.length m1,.slice o2 d.points.length m2,.slice o3 d.ways.length m3,.int .i64 k]] #[]] w5 fun e w'=>e = .returned (.bool ((pointD p d q).any fun y=>y != k)) ∧ Below w5.heap.size w5 w':=fun w5 v hv=>
  containsFuncI_any 156 _ v (pointD p d q) (fun y=>y != k) w5 hv hlen (enters_of Tryz.func156 (by kernel_rfl) rfl) fun x W _ _=>isAnother_any _ _ _ _ _ _ _ _ _ k x W
 have HCF:=hide hcf
 have b0:=T0.cell (j:=0) (i:=0) rfl rfl
 have b1:=T0.cell (j:=0) (i:=1) rfl rfl
 have b2:=T0.cell (j:=0) (i:=2) rfl rfl
 have b3:=T0.cell (j:=0) (i:=3) rfl rfl
 have b4:=T0.cell (j:=0) (i:=4) rfl rfl
 have b5:=T0.cell (j:=0) (i:=5) rfl rfl
 have b6:=T0.cell (j:=0) (i:=6) rfl rfl
 have b7:=T0.cell (j:=0) (i:=7) rfl rfl
 have b8:=T0.cell (j:=0) (i:=8) rfl rfl
 have b9:=T0.cell (j:=0) (i:=9) rfl rfl
 have e0:=T0.cell (j:=1) (i:=0) rfl rfl
 rw [Nat.add_zero] at b0 b1 b2 b3 b4 b5 b6 b7 b8 b9
 have HT:=hide T0
 clear hs hd hp hc hf hR T0 hpl hcf
 go_enter Tryz.func107,Tryz.ntmps107
 go_wp2
 go_region_with (first | (go_at_call 60; refine HPL.out.mono ?_; rintro e w5 ⟨v,rfl,hb5,hr5⟩; have HB:=hide hb5; have HR:=hide hr5; clear hb5 hr5; have r0:=HB.out.cell (j:=0) (i:=0) rfl rfl; have r1:=HB.out.cell (j:=0) (i:=1) rfl rfl; have r2:=HB.out.cell (j:=0) (i:=2) rfl rfl; have r3:=HB.out.cell (j:=0) (i:=3) rfl rfl; have r4:=HB.out.cell (j:=0) (i:=4) rfl rfl; have r5:=HB.out.cell (j:=0) (i:=5) rfl rfl; have r6:=HB.out.cell (j:=0) (i:=6) rfl rfl; have r7:=HB.out.cell (j:=0) (i:=7) rfl rfl; have r8:=HB.out.cell (j:=0) (i:=8) rfl rfl; have r9:=HB.out.cell (j:=0) (i:=9) rfl rfl; rw [Nat.add_zero] at r0 r1 r2 r3 r4 r5 r6 r7 r8 r9) | (go_at_call 155; refine (HCF.out _ _ HR.out).mono ?_; rintro e w6 ⟨rfl,hb6⟩; have HB6:=hide hb6; clear hb6))
 all_goals
  go_wp2
  go_ret
  exact ⟨rfl,(HB.out.call HB6.out).below⟩
end Go.Proofs.YtdhinkgjiapigaaGreatDoor

import Derived.Test.YtdhinkgjiapigabGreatDoorShS
namespace Go.Proofs.YtdhinkgjiapigabGreatDoor
open Go.RowKit Go.Deep
open Classical
def zyc (p:PlanD) (d:FrameD) [Decidable (zas p d)]:List UInt8:=if zas p d then zya p d else []
set_option maxHeartbeats 1000000 in
theorem zzb (p1 p2 p3 f1 f2 f3:Value) (p:PlanD) (d:FrameD) (w:World) (hp:PlanAt (In w) w p1 p2 p3 p) (hf:FrameAt (In w) w f1 f2 f3 d) (hs:p.Small 1048576) (hd:d.Small 1048576) :
  Calls Tryz.prog 54 #[.agg #[.int .i64 p.sections,p1,p2,p3,.int .i64 p.hold],.agg #[.bool d.ok,f1,f2,f3]] w fun e w'=>e = .returned (.string (tx (zyc p d))) ∧ Below w.heap.size w w':=by
 have T0:=zbc w 37 42 #[.int .i64 p.sections,p1,p2,p3,.int .i64 p.hold] #[.bool d.ok,f1,f2,f3];have KP:=zaa fun (W:World) (h:Below w.heap.size w W)=>hp.keep (Q:=In W) (In.keep h).1 (In.keep h).2;have KF:=zaa fun (W:World) (h:Below w.heap.size w W)=>hf.keep (Q:=In W) (In.keep h).1 (In.keep h).2;obtain ⟨a1,c1,rfl⟩:=hp.1.size;obtain ⟨a2,c2,rfl⟩:=hp.2.1.size;obtain ⟨a3,c3,rfl⟩:=hp.2.2.size;obtain ⟨o1,m1,rfl⟩:=hf.1.size;obtain ⟨o2,m2,rfl⟩:=hf.2.1.size;obtain ⟨o3,m3,rfl⟩:=hf.2.2.size;have HS:=zaa hs;have HD:=zaa hd;clear hs hd hp hf;have b0:=T0.cell (j:=0) (i:=0) rfl rfl;have b1:=T0.cell (j:=0) (i:=1) rfl rfl;have b2:=T0.cell (j:=0) (i:=2) rfl rfl;have b3:=T0.cell (j:=0) (i:=3) rfl rfl;have b4:=T0.cell (j:=0) (i:=4) rfl rfl;have e0:=T0.cell (j:=1) (i:=0) rfl rfl;have e1:=T0.cell (j:=1) (i:=1) rfl rfl;have e2:=T0.cell (j:=1) (i:=2) rfl rfl;have e3:=T0.cell (j:=1) (i:=3) rfl rfl;rw [Nat.add_zero] at b0 b1 b2 b3 b4;have HT0:=zaa T0;have HFO:=zaa (zhi _ _ _ _ _ _ p d _ (KP.out _ T0.below) (KF.out _ T0.below) HS.out HD.out);clear T0;go_enter Tryz.func54,Tryz.ntmps54
 go_wp2_with fail
 refine HFO.out.mono ?_;clear b0 b1 b2 b3 b4 e0 e1 e2 e3 HFO;rintro e w1 ⟨rfl,hb⟩;have T1:=HT0.out.call hb;clear hb HT0;by_cases hR:zas p d
 case neg=>
  rw [zae hR];have HZ:=zaa (show [] = zyc p d from (if_neg hR).symm);have HT:=zaa T1.below;clear hR T1;go_wp2;go_ret;exact ⟨zyk HZ.out,HT.out⟩
 rw [zam hR];have HZ:=zaa (show zya p d = zyc p d from (if_pos hR).symm);have HSH:=zaa (zzs _ _ _ _ _ _ p d _ (KP.out _ T1.below) (KF.out _ T1.below) HS.out hR);have b0:=T1.cell (j:=0) (i:=0) rfl rfl;have b1:=T1.cell (j:=0) (i:=1) rfl rfl;have b2:=T1.cell (j:=0) (i:=2) rfl rfl;have b3:=T1.cell (j:=0) (i:=3) rfl rfl;have b4:=T1.cell (j:=0) (i:=4) rfl rfl;have e0:=T1.cell (j:=1) (i:=0) rfl rfl;have e1:=T1.cell (j:=1) (i:=1) rfl rfl;have e2:=T1.cell (j:=1) (i:=2) rfl rfl;have e3:=T1.cell (j:=1) (i:=3) rfl rfl;rw [Nat.add_zero] at b0 b1 b2 b3 b4;have HT1:=zaa T1;clear T1 hR
 go_wp2_with fail
 refine HSH.out.mono ?_;rintro e w2 ⟨rfl,hb⟩;have HT:=zaa (HT1.out.call hb).below;clear b0 b1 b2 b3 b4 e0 e1 e2 e3 hb HT1 HSH;go_wp2;go_ret;exact ⟨zyk HZ.out,HT.out⟩
end Go.Proofs.YtdhinkgjiapigabGreatDoor

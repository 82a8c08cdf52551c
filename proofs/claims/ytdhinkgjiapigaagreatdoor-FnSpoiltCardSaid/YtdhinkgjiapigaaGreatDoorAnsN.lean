import Derived.Test.YtdhinkgjiapigaaGreatDoorRunJ
import Derived.Lib.UnsafeStr
import Derived.Deep.DeepCutAuto
import Derived.Test.YtdhinkgjiapigaaGreatDoorBx
namespace Go.Proofs.YtdhinkgjiapigaaGreatDoor
open Go.RowKit Go.Deep
open Classical
set_option maxRecDepth 100000 in
set_option maxHeartbeats 2000000 in
theorem zxf (b:Nat) (w:World) (c1:w.cell? ⟨b,1,none⟩ = some (.slice none 0 0)) :
  Calls Tryz.prog 47 #[.pointer (some ⟨b,0,none⟩)] w fun e w'=>e = .returned (.string ⟨#[]⟩) ∧ Below w.heap.size w w':=by
 have hUS:∀ (W:World) (q:Option Addr),(Builtin.unsafeString_ #[130,3] 9 #[.pointer q,.int .i64 0]).run Tryz.prog W = .ok (.string .empty) W:=fun W q=>Lib.run_unsafeString_none W _ _ _ q;have hSD:∀ W:World,(Builtin.unsafeSliceData_ #[22] 130 #[.slice none 0 0]).run Tryz.prog W = .ok (.pointer none) W:=fun _=>rfl;have c2:w.drew.cell? ⟨b,1,none⟩ = some (.slice none 0 0):=c1;go_enter Tryz.func47,Tryz.ntmps47;go_wp2
 go_region
 all_goals (go_wp2; go_ret; exact ⟨rfl,zaf w⟩)
set_option maxRecDepth 100000 in
set_option maxHeartbeats 2000000 in
theorem zw6 (p1 p2 p3 ve:Value) (p:PlanD) (es:List (Int × Int × Int)) (w:World) (hp:PlanAt (In w) w p1 p2 p3 p) (hwc:WaysC (In w) w p2 p.ways) (hev:Evs (In w) w ve es) (hs:p.Small 1048576) (hes:es.length ≤ 1048576) (hg:w.cell? ⟨1,0,none⟩ = some zrv) (hR:¬ Right p) :
  Calls Tryz.prog 16 #[.agg #[.int .i64 p.sections,p1,p2,p3,.int .i64 p.hold],ve] w fun e w'=>e = .returned (.string ⟨#[]⟩) ∧ Below w.heap.size w w':=by
 obtain ⟨a1,c1,rfl⟩:=hp.1.size;obtain ⟨a2,c2,rfl⟩:=hp.2.1.size;obtain ⟨a3,c3,rfl⟩:=hp.2.2.size;obtain ⟨ae,ce,rfl⟩:=hev.size;have T0:=zbc w 27 81 #[.int .i64 p.sections,.slice a1 p.switches.length c1,.slice a2 p.ways.length c2,.slice a3 p.bars.length c3,.int .i64 p.hold] #[.pointer none,.slice none 0 0];have HRUN:=zaa (zqw _ _ _ _ p es _ (hp.keep (In.keep T0.below).1 (In.keep T0.below).2) (hwc.keep (In.keep T0.below).1 (In.keep T0.below).2) (hev.keep (In.keep T0.below).1 (In.keep T0.below).2) hs hes (ck hg T0.below));obtain ⟨b0,b1,b2,b3,b4⟩:=xb5 T0 0 rfl rfl rfl rfl rfl rfl;rw [Nat.add_zero] at b0 b1 b2 b3 b4;have HT:=zaa T0;have HR:=zaa hR;clear T0 hp hwc hev hg hR;go_enter Tryz.func16,Tryz.ntmps16
 go_wp2_with fail
 refine HRUN.out.mono ?_;rintro e w1 ⟨v,rfl,hb,hd⟩;have hz:zp2 p es = []:=if_neg fun z=>HR.out z.1;rw [hz] at hd;obtain ⟨xs,lo1,hown,-⟩:=hd;obtain ⟨av,cv,rfl⟩:=zag hown;have hT1:=HT.out.call hb;have s1:=hT1.cell (j:=1) (i:=1) rfl rfl;have HT1:=zaa hT1;have HSN:=zaa (zxf (w.heap.size + 1) w1 s1);clear b0 b1 b2 b3 b4 hb hown hz hT1 s1 HRUN HT;go_wp2
 go_loopw [14] (fun z wr=>z = .int .i64 0 ∧ wr = w1) (fun _ _=>0)
 case atStart=>exact ⟨rfl,rfl⟩
 case round=>
  obtain ⟨rfl,hw⟩:=hrel;subst hw
  go_wp2_with fail
  refine HSN.out.mono ?_;rintro e w2 ⟨rfl,hb2⟩;have HB2:=zaa (HT1.out.call hb2).below;clear hb2 HSN HT1;go_wp2;go_ret;exact ⟨rfl,HB2.out⟩
end Go.Proofs.YtdhinkgjiapigaaGreatDoor

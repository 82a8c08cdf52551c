import Derived.Test.YtdhinkgjiapigaaGreatDoorPlS
import Derived.Test.YtdhinkgjiapigaaGreatDoorPlI
import Derived.Test.YtdhinkgjiapigaaGreatDoorImpl
import Derived.Test.YtdhinkgjiapigaaGreatDoorFrIC
import Derived.Test.YtdhinkgjiapigaaGreatDoorDlts
import Derived.Test.YtdhinkgjiapigaaGreatDoorBx
namespace Go.Proofs.YtdhinkgjiapigaaGreatDoor
open Go.RowKit Go.Deep
open Classical
set_option maxRecDepth 100000 in
set_option maxHeartbeats 4000000 in
theorem zvg (p1 p2 p3 f1 f2 f3:Value) (p:PlanD) (d:FrameD) (k:Int) (w:World) (hp:PlanAt (In w) w p1 p2 p3 p) (hc:WaysC (In w) w p2 p.ways) (hf:FrameAt (In w) w f1 f2 f3 d) (hs:p.Small 1048576) (hd:d.Small 1048576)
  (hfo:∀ W,Below w.heap.size w W → Calls Tryz.prog 18 #[.agg #[.int .i64 p.sections,p1,p2,p3,.int .i64 p.hold],.agg #[.bool d.ok,f1,f2,f3]] W fun e w'=>e = .returned (.bool (B (zas p d))) ∧ Below W.heap.size W w') :
  Calls Tryz.prog 22 #[.agg #[.int .i64 p.sections,p1,p2,p3,.int .i64 p.hold],.agg #[.bool d.ok,f1,f2,f3],.int .i64 k] w fun e w'=>∃ v,e = .returned v ∧ Below w.heap.size w w' ∧ OwnI w.heap.size w' v (zvl p d k):=by
 have T0:=zbc w 27 40 #[.int .i64 p.sections,p1,p2,p3,.int .i64 p.hold] #[.bool d.ok,f1,f2,f3];have HFO:=zaa hfo;have KC:=zaa fun (W:World) (h:Below w.heap.size w W)=>hc.keep (Q:=In W) (In.keep h).1 (In.keep h).2;have KP:=zaa fun (W:World) (h:Below w.heap.size w W)=>hp.keep (Q:=In W) (In.keep h).1 (In.keep h).2;have KF:=zaa fun (W:World) (h:Below w.heap.size w W)=>hf.keep (Q:=In W) (In.keep h).1 (In.keep h).2;obtain ⟨a1,c1,rfl⟩:=hp.1.size;obtain ⟨a2,c2,rfl⟩:=hp.2.1.size;obtain ⟨a3,c3,rfl⟩:=hp.2.2.size;obtain ⟨o1,m1,rfl⟩:=hf.1.size;obtain ⟨o2,m2,rfl⟩:=hf.2.1.size;obtain ⟨o3,m3,rfl⟩:=hf.2.2.size;have HS:=zaa hs;have HD:=zaa hd;have hwl:p.ways.length ≤ 1048576:=hs.2.1;clear hs hd hp hf;have hsl:=HS.out.1;clear hfo hc;go_enter Tryz.func22,Tryz.ntmps22;obtain ⟨b0,b1,b2,b3,b4⟩:=xb5 T0 0 rfl rfl rfl rfl rfl rfl;obtain ⟨e0,e1,e2,e3⟩:=xb4 T0 1 rfl rfl rfl rfl rfl;rw [Nat.add_zero] at b0 b1 b2 b3 b4
 go_wp2_with fail
 refine (HFO.out _ T0.below).mono ?_;clear b0 b1 b2 b3 b4 e0 e1 e2 e3;rintro e w1 ⟨rfl,hb⟩;have T1:=T0.call hb;clear T0 hb HFO;obtain ⟨b0,b1,b2,b3,b4⟩:=xb5 T1 0 rfl rfl rfl rfl rfl rfl;obtain ⟨e0,e1,e2,e3⟩:=xb4 T1 1 rfl rfl rfl rfl rfl;rw [Nat.add_zero] at b0 b1 b2 b3 b4;by_cases hfr:zas p d
 case neg=>
  rw [zae hfr];have HFR:=zaa hfr;have HT:=zaa T1.below;clear hfr T1;go_wp2;go_ret;exact ⟨_,rfl,HT.out,by rw [zvj fun z=>HFR.out z.1]; exact OwnI.nil _ _⟩
 rw [zam hfr];have HFR:=zaa hfr;clear hfr
 go_wp2_with fail
 refine (zf7 _ _ p.switches.length _ _ _ _ k _ hsl).mono ?_;clear b0 b1 b2 b3 b4 e0 e1 e2 e3;rintro e w2 ⟨rfl,hb⟩;have T2:=T1.call hb;clear T1 hb;obtain ⟨b0,b1,b2,b3,b4⟩:=xb5 T2 0 rfl rfl rfl rfl rfl rfl;obtain ⟨e0,e1,e2,e3⟩:=xb4 T2 1 rfl rfl rfl rfl rfl;rw [Nat.add_zero] at b0 b1 b2 b3 b4;by_cases hin:InR k 0 ((p.switches.length:Int) - 1)
 case neg=>
  rw [zae hin];have HIN:=zaa hin;have HT:=zaa T2.below;clear hin T2;go_wp2;go_ret;exact ⟨_,rfl,HT.out,by rw [zvj fun z=>HIN.out z.2]; exact OwnI.nil _ _⟩
 rw [zam hin];have HIN:=zaa hin;obtain ⟨q,rfl⟩:∃ q:Nat,k = q:=⟨k.toNat,by have:=hin.1; omega⟩
 have hq:q < p.switches.length:=by have:=hin.2; omega
 clear hin
 go_wp2_with fail
 refine (zfi _ _ _ _ _ _ p d q _ (KP.out _ T2.below) (KC.out _ T2.below) (KF.out _ T2.below) HS.out HD.out HFR.out hq).mono ?_;clear b0 b1 b2 b3 b4 e0 e1 e2 e3;rintro e w3 ⟨v,rfl,hb,hown⟩;have HT:=zaa (T2.call hb).below;have HO:=zaa hown;have hsz:=T2.below.size;clear T2 hb hown;go_wp2;go_ret;exact ⟨v,rfl,HT.out,by rw [zve HFR.out HIN.out]; exact OwnI.low HO.out (by omega)⟩
end Go.Proofs.YtdhinkgjiapigaaGreatDoor
namespace Go.Proofs.YtdhinkgjiapigaaGreatDoor
open Go.RowKit
open Classical
theorem zvc (p1 p2 p3 f1 f2 f3:Value) (p:PlanD) (d:FrameD) (k:Int) (w:World) (hp:PlanAt (In w) w p1 p2 p3 p) (hc:WaysC (In w) w p2 p.ways) (hf:FrameAt (In w) w f1 f2 f3 d) (hs:p.Small 1048576) (hd:d.Small 1048576) (hg:w.cell? ⟨1,0,none⟩ = some zrv) :
  Calls Tryz.prog 22 #[.agg #[.int .i64 p.sections,p1,p2,p3,.int .i64 p.hold],.agg #[.bool d.ok,f1,f2,f3],.int .i64 k] w fun e w'=>∃ v,e = .returned v ∧ Below w.heap.size w w' ∧ OwnI w.heap.size w' v (zvl p d k):=
 zvg _ _ _ _ _ _ p d k w hp hc hf hs hd fun W h=>zsi _ _ _ _ _ _ p d W (hp.keep (In.keep h).1 (In.keep h).2) (hf.keep (In.keep h).1 (In.keep h).2) hs hd (ck hg h)
end Go.Proofs.YtdhinkgjiapigaaGreatDoor

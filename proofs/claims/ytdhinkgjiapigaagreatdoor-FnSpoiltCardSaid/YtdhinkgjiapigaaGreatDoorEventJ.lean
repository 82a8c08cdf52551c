import Derived.Test.YtdhinkgjiapigaaGreatDoorEvA
import Derived.Test.YtdhinkgjiapigaaGreatDoorDltp
import Derived.Test.YtdhinkgjiapigaaGreatDoorBx
namespace Go.Proofs.YtdhinkgjiapigaaGreatDoor
open Go.RowKit Go.Deep
open Classical
set_option maxHeartbeats 1000000 in
theorem zw1 (v1 v2 v3:Value) (d:PlanD) (op of lie:Int) (w:World) (hp:PlanAt (In w) w v1 v2 v3 d) (hs:d.Small 1048576) (hg:w.cell? ⟨1,0,none⟩ = some zrv) :
  Calls Tryz.prog 34 #[.agg #[.int .i64 d.sections,v1,v2,v3,.int .i64 d.hold],.agg #[.int .i64 op,.int .i64 of,.int .i64 lie]] w fun e w'=>e = .returned (.bool (B (Right d ∧ za5 d.sections d.switches.length d.ways.length op of lie))) ∧ Below w.heap.size w w':=by
 have T0:=zbc w 27 55 #[.int .i64 d.sections,v1,v2,v3,.int .i64 d.hold] #[.int .i64 op,.int .i64 of,.int .i64 lie];have hp0:=hp.keep (In.keep T0.below).1 (In.keep T0.below).2;have hg0:=ck hg T0.below;obtain ⟨a1,c1,rfl⟩:=hp.1.size;obtain ⟨a2,c2,rfl⟩:=hp.2.1.size;clear hp hg;go_enter Tryz.func34,Tryz.ntmps34
 go_wp2_with fail
 refine (zfh _ _ v3 d _ hp0 hs hg0).mono ?_;rintro e w1 ⟨rfl,hb⟩;have T1:=T0.call hb;have hm:=hs.1;have hn:=hs.2.1;clear hb T0 hp0 hs hg0;by_cases q:Right d
 case neg=>
  rw [zae q];have Q:=zaa q;clear q;go_wp2;go_ret;exact ⟨zad (zae fun h=>Q.out h.1).symm,T1.below⟩
 rw [zam q];have Q:=zaa q;clear q;obtain ⟨b0,b1,b2,b3,b4⟩:=xb5 T1 0 rfl rfl rfl rfl rfl rfl;obtain ⟨d0,d1,d2⟩:=xb3 T1 1 rfl rfl rfl rfl;rw [Nat.add_zero] at b0 b1 b2 b3 b4
 go_wp2_with fail
 refine (zla d.sections a1 a2 _ _ c1 c2 v3 _ op of lie _ hm hn).mono ?_;rintro e w2 ⟨rfl,hb⟩;have T2:=T1.call hb;clear T1 hb b0 b1 b2 b3 b4 d0 d1 d2;go_wp2;go_ret;exact ⟨zad (zbz ⟨fun h=>⟨Q.out,h⟩,fun h=>h.2⟩),T2.below⟩
end Go.Proofs.YtdhinkgjiapigaaGreatDoor

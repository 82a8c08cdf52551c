import Derived.Test.YtdhinkgjiapigaaGreatDoorLkI
import Derived.Test.YtdhinkgjiapigaaGreatDoorFrIC
import Derived.Test.YtdhinkgjiapigaaGreatDoorDltx
namespace Go.Proofs.YtdhinkgjiapigaaGreatDoor
open Go.RowKit
open Classical
theorem zuf (p1 p2 p3 f1 f2 f3:Value) (p:PlanD) (d:FrameD) (s:Int) (w:World) (hp:PlanAt (In w) w p1 p2 p3 p) (hc:WaysC (In w) w p2 p.ways) (hf:FrameAt (In w) w f1 f2 f3 d) (hs:p.Small 1048576) (hd:d.Small 1048576) (hg:w.cell? ⟨1,0,none⟩ = some zrv) :
  Calls Tryz.prog 20 #[.agg #[.int .i64 p.sections,p1,p2,p3,.int .i64 p.hold],.agg #[.bool d.ok,f1,f2,f3],.int .i64 s] w fun e w'=>e = .returned (.int .i64 (zug p d s)) ∧ Below w.heap.size w w':=
 zuc _ _ _ _ _ _ p d s w hp hc hf hs hd fun W h=>zsi _ _ _ _ _ _ p d W (hp.keep (In.keep h).1 (In.keep h).2) (hf.keep (In.keep h).1 (In.keep h).2) hs hd (ck hg h)
end Go.Proofs.YtdhinkgjiapigaaGreatDoor

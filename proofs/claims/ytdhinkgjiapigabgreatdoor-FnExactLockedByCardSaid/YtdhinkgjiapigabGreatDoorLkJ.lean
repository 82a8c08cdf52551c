import Derived.Test.YtdhinkgjiapigabGreatDoorLkI
import Derived.Test.YtdhinkgjiapigabGreatDoorFrIC
namespace Go.Proofs.YtdhinkgjiapigabGreatDoor
open Go.RowKit
open Classical

theorem implLockedBy_any (p1 p2 p3 f1 f2 f3 : Value) (p : PlanD) (d : FrameD) (s : Int) (w : World) (hp : PlanAt (In w) w p1 p2 p3 p) (hc : WaysC (In w) w p2 p.ways) (hf : FrameAt (In w) w f1 f2 f3 d) (hs : p.Small 1048576) (hd : d.Small 1048576) (hg : w.cell? ⟨1, 0, none⟩ = some errT) :
    Calls Tryz.prog 41 #[.agg #[.int .i64 p.sections, p1, p2, p3, .int .i64 p.hold], .agg #[.bool d.ok, f1, f2, f3], .int .i64 s] w fun e w' => e = .returned (.int .i64 (lockedBy p d s)) ∧ Below w.heap.size w w' :=
  implLockedBy_walk _ _ _ _ _ _ p d s w hp hc hf hs hd fun W h => implFrameOk_any _ _ _ _ _ _ p d W (hp.keep (In.keep h).1 (In.keep h).2) (hf.keep (In.keep h).1 (In.keep h).2) hs hd (ck hg h)
end Go.Proofs.YtdhinkgjiapigabGreatDoor

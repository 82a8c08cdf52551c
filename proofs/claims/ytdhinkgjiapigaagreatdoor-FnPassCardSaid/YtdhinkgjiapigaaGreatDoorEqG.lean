import Derived.Test.YtdhinkgjiapigaaGreatDoorProg
import Derived.Test.YtdhinkgjiapigaaGreatDoorBase
import Derived.Deep.QuietTactic
import Derived.BigQuiet
import Derived.Deep.RegionWith
import Derived.WalkSmall
import Derived.Test.YtdhinkgjiapigaaGreatDoorToA
namespace Go.Proofs.YtdhinkgjiapigaaGreatDoor
open Go.RowKit
end Go.Proofs.YtdhinkgjiapigaaGreatDoor
namespace Go.Proofs.YtdhinkgjiapigaaGreatDoor
open Go.RowKit Go.Deep
theorem below_draws (w:World) (m:Nat):Below w.heap.size w (w.drewN m):=below_drewN (Below.refl _ _) m
end Go.Proofs.YtdhinkgjiapigaaGreatDoor
namespace Go.Proofs.YtdhinkgjiapigaaGreatDoor
open Go.RowKit Go.Deep
end Go.Proofs.YtdhinkgjiapigaaGreatDoor

import Derived.Test.YtdhinkgjiapigabGreatDoorRanA
import Derived.Test.YtdhinkgjiapigabGreatDoorBasex
import Derived.Test.YtdhinkgjiapigabGreatDoorToAx
import Derived.RangeFuncNested
import Derived.RangeFuncBound
import Derived.RangeFuncCalls
import Derived.RangeFuncLeaves
import Derived.Shelf.Abstract
import Derived.Shelf.RegionOpen
import Derived.WalkKit
import Derived.OwnWalkIn
import Derived.TacticsInMore
import Derived.LoopNIn
import Derived.LoopIn
namespace Go.Proofs.YtdhinkgjiapigabGreatDoor
open Go.RowKit
theorem Mid.refl (a b:Nat) (W:World):Mid a b W W:=fun _ _ _=>rfl
end Go.Proofs.YtdhinkgjiapigabGreatDoor
namespace Go.Proofs.YtdhinkgjiapigabGreatDoor
open Go.RowKit Go.Shelf
open Classical
attribute [local go_sem] Oper.semAt_some
end Go.Proofs.YtdhinkgjiapigabGreatDoor
namespace Go.Proofs.YtdhinkgjiapigabGreatDoor
open Go.RowKit Go.Shelf
attribute [local go_sem] Oper.semAt_some
end Go.Proofs.YtdhinkgjiapigabGreatDoor

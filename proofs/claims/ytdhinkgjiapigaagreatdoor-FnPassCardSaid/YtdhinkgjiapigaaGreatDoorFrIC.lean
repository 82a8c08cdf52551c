import Derived.Test.YtdhinkgjiapigaaGreatDoorFrG
import Derived.DeepKeys
import Derived.Test.YtdhinkgjiapigaaGreatDoorFrA
import Derived.Test.YtdhinkgjiapigaaGreatDoorSpec7
import Derived.Test.YtdhinkgjiapigaaGreatDoorFrI10
import Derived.Deep.DeepCutAuto
import Derived.Test.YtdhinkgjiapigaaGreatDoorEvA
namespace Go.Proofs.YtdhinkgjiapigaaGreatDoor
open Go.RowKit Go.Deep
open Classical
end Go.Proofs.YtdhinkgjiapigaaGreatDoor
namespace Go.Proofs.YtdhinkgjiapigaaGreatDoor
open Go.RowKit Go.Deep
open Classical
end Go.Proofs.YtdhinkgjiapigaaGreatDoor
namespace Go.Proofs.YtdhinkgjiapigaaGreatDoor
open Go.RowKit Go.Deep
open Classical
end Go.Proofs.YtdhinkgjiapigaaGreatDoor
namespace Go.Proofs.YtdhinkgjiapigaaGreatDoor
open Go.RowKit Go.Deep
open Classical
end Go.Proofs.YtdhinkgjiapigaaGreatDoor

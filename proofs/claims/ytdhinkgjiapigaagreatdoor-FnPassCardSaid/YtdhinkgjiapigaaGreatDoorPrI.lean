import Derived.Test.YtdhinkgjiapigaaGreatDoorSpec7
import Derived.Test.YtdhinkgjiapigaaGreatDoorFrA
import Derived.Test.YtdhinkgjiapigaaGreatDoorImpl
import Derived.Deep.RegionWith
import Derived.Deep.DeepCutAuto
namespace Go.Proofs.YtdhinkgjiapigaaGreatDoor
open Go.RowKit Go.Deep
open Classical
end Go.Proofs.YtdhinkgjiapigaaGreatDoor
namespace Go.Proofs.YtdhinkgjiapigaaGreatDoor
open Go.RowKit Go.Deep
open Classical
end Go.Proofs.YtdhinkgjiapigaaGreatDoor

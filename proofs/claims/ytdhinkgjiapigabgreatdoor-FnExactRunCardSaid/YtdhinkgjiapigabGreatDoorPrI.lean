import Derived.Test.YtdhinkgjiapigabGreatDoorSpec7
import Derived.Test.YtdhinkgjiapigabGreatDoorFrA
import Derived.Test.YtdhinkgjiapigabGreatDoorImpl
import Derived.Deep.RegionWith
import Derived.Deep.DeepCutAuto
namespace Go.Proofs.YtdhinkgjiapigabGreatDoor
open Go.RowKit Go.Deep
open Classical
end Go.Proofs.YtdhinkgjiapigabGreatDoor
namespace Go.Proofs.YtdhinkgjiapigabGreatDoor
open Go.RowKit Go.Deep
open Classical
end Go.Proofs.YtdhinkgjiapigabGreatDoor

import Derived.Test.YtdhinkgjiapigabGreatDoorFrG
import Derived.DeepKeys
import Derived.Test.YtdhinkgjiapigabGreatDoorFrA
import Derived.Test.YtdhinkgjiapigabGreatDoorSpec7
import Derived.Test.YtdhinkgjiapigabGreatDoorFrI10r
import Derived.Deep.DeepCutAuto
import Derived.Test.YtdhinkgjiapigabGreatDoorEvA
namespace Go.Proofs.YtdhinkgjiapigabGreatDoor
open Go.RowKit Go.Deep
open Classical
end Go.Proofs.YtdhinkgjiapigabGreatDoor
namespace Go.Proofs.YtdhinkgjiapigabGreatDoor
open Go.RowKit Go.Deep
open Classical
end Go.Proofs.YtdhinkgjiapigabGreatDoor
namespace Go.Proofs.YtdhinkgjiapigabGreatDoor
open Go.RowKit Go.Deep
open Classical
end Go.Proofs.YtdhinkgjiapigabGreatDoor
namespace Go.Proofs.YtdhinkgjiapigabGreatDoor
open Go.RowKit Go.Deep
open Classical
end Go.Proofs.YtdhinkgjiapigabGreatDoor

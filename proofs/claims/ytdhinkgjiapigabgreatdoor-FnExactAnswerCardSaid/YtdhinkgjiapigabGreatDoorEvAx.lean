import Derived.Test.YtdhinkgjiapigabGreatDoorEvA
import Derived.Test.YtdhinkgjiapigabGreatDoorBasex
import Derived.Test.YtdhinkgjiapigabGreatDoorToAx
namespace Go.Proofs.YtdhinkgjiapigabGreatDoor
open Go.RowKit Go.Deep
open Classical
theorem Right.sections {d:PlanD} (h:Right d):1 ≤ d.sections ∧ d.sections ≤ 60:=h.parts.1.1
end Go.Proofs.YtdhinkgjiapigabGreatDoor
namespace Go.Proofs.YtdhinkgjiapigabGreatDoor
open Go.RowKit Go.Deep
open Classical
end Go.Proofs.YtdhinkgjiapigabGreatDoor

import Derived.Test.YtdhinkgjiapigaaGreatDoorRunJ
namespace Go.Proofs.YtdhinkgjiapigaaGreatDoor
open Classical
theorem zq3 (p:PlanD) (es:List (Int × Int × Int)):(zdu p (zaq p) es).length = es.length:=by
 have:=zez p (zaq p) es es.length (Nat.le_refl _);rw [List.take_length] at this;exact this
end Go.Proofs.YtdhinkgjiapigaaGreatDoor
namespace Go.Proofs.YtdhinkgjiapigaaGreatDoor
open Classical
end Go.Proofs.YtdhinkgjiapigaaGreatDoor

import Derived.Test.YtdhinkgjiapigabGreatDoorPlI
import Derived.Test.YtdhinkgjiapigabGreatDoorBasex
import Derived.Test.YtdhinkgjiapigabGreatDoorRanAx
import Derived.Test.YtdhinkgjiapigabGreatDoorToAx
import Derived.Deep.RegionWith
namespace Go.Proofs.YtdhinkgjiapigabGreatDoor
open Classical
def zub (p:PlanD) (d:FrameD) (s:Int) (i:Nat):Bool:=match p.ways[i]?,d.ways[i]? with
 | some x,some h=>(x.sections.drop h.gone.toNat).any (· == s)
 | _,_=>false
def zud (p:PlanD) (d:FrameD) (s:Int) (i:Nat):Bool:=match p.ways[i]?,d.ways[i]? with
 | some x,some h=>zb7 x h s
 | _,_=>false
theorem zui {p:PlanD} {d:FrameD} {s:Int} {i:Nat} {x:WayD} {h:HeldD} (hx:p.ways[i]? = some x) (hh:d.ways[i]? = some h):zub p d s i = (x.sections.drop h.gone.toNat).any (· == s):=by
 unfold zub; rw [hx,hh]
theorem zuk (p:PlanD) (d:FrameD) (s:Int) (i:Nat):zud p d s i = (zub p d s i && zmz d.ways i):=by
 unfold zud zub zmz
 cases p.ways[i]? with
 | none=>rfl
 | some x=>
  cases d.ways[i]? with
  | none=>rfl
  | some h=>show zb7 x h s = _; unfold zb7; rw [Bool.and_comm]; rfl
end Go.Proofs.YtdhinkgjiapigabGreatDoor
namespace Go.Proofs.YtdhinkgjiapigabGreatDoor
open Classical
end Go.Proofs.YtdhinkgjiapigabGreatDoor
namespace Go.Proofs.YtdhinkgjiapigabGreatDoor
open Go.RowKit Go.Deep Go.Shelf
open Classical
end Go.Proofs.YtdhinkgjiapigabGreatDoor

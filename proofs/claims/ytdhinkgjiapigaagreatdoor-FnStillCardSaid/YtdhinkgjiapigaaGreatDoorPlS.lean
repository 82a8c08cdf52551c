import Derived.Test.YtdhinkgjiapigaaGreatDoorPlI
import Derived.Test.YtdhinkgjiapigaaGreatDoorLocksA
namespace Go.Proofs.YtdhinkgjiapigaaGreatDoor
open Go.RowKit Go.Deep
open Classical
def zvl (p:PlanD) (d:FrameD) (k:Int) [Decidable (zas p d ∧ InR k 0 ((p.switches.length:Int) - 1))]:List Int:=if zas p d ∧ InR k 0 ((p.switches.length:Int) - 1) then zbn p d k else []
theorem zve {p:PlanD} {d:FrameD} {k:Int} (h1:zas p d) (h2:InR k 0 ((p.switches.length:Int) - 1)):zvl p d k = zbn p d k:=if_pos ⟨h1,h2⟩
theorem zvj {p:PlanD} {d:FrameD} {k:Int} (h:¬ (zas p d ∧ InR k 0 ((p.switches.length:Int) - 1))):zvl p d k = []:=if_neg h
def OwnI (base:Nat) (w:World) (v:Value) (l:List Int):Prop:=∃ m,w.ownsRow base 3 1 v m (zcg l)
theorem OwnI.nil (base:Nat) (w:World):OwnI base w (.slice none 0 0) []:=⟨0,World.ownsRow_nil _ _ _ _⟩
theorem OwnI.low {b b':Nat} {w:World} {v:Value} {l:List Int} (h:OwnI b w v l) (hb:b' ≤ b):OwnI b' w v l:=by
 obtain ⟨m,h⟩:=h;refine ⟨m,h.1,?_⟩;rcases h.2 with q | ⟨g,cap,cur,h1,h2,h3⟩
 ·exact .inl q
 ·exact .inr ⟨g,cap,cur,h1,by omega,h3⟩
end Go.Proofs.YtdhinkgjiapigaaGreatDoor

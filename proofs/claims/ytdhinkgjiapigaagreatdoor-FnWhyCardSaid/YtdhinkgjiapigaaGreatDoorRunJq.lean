import Derived.Test.YtdhinkgjiapigaaGreatDoorDoS3
import Derived.Test.YtdhinkgjiapigaaGreatDoorSpec7
import Derived.Test.YtdhinkgjiapigaaGreatDoorEvA
import Derived.Deep.RegionLaw
import Derived.Deep.AppendLies
import Derived.Test.YtdhinkgjiapigaaGreatDoorRunD
import Derived.Test.YtdhinkgjiapigaaGreatDoorDoK3
import Derived.Laws.MakeOwn
namespace Go.Proofs.YtdhinkgjiapigaaGreatDoor
open Go.RowKit Go.Deep
open Classical
end Go.Proofs.YtdhinkgjiapigaaGreatDoor
namespace Go.Proofs.YtdhinkgjiapigaaGreatDoor
open Go.RowKit Go.Deep
open Classical
theorem Tryz.infoDone:(Tryz.prog.info? 42).map (fun i=>(i.zero,i.size,i.bytes)) = some (some (.agg #[.int .i64 0,.bool false,.slice none 0 0,.slice none 0 0,.slice none 0 0]),5,88):=by kernel_rfl
end Go.Proofs.YtdhinkgjiapigaaGreatDoor
namespace Go.Proofs.YtdhinkgjiapigaaGreatDoor
open Go.RowKit Go.Deep
open Classical
theorem zij {p:PlanD} (hp:Right p) (es:List (Int × Int × Int)) (k:Nat) (hk:k ≤ es.length):zas p (zhy (zaq p) (zdu p (zaq p) (es.take k))):=by
 induction k with
 | zero=>exact zdp hp
 | succ k ih=>
  obtain ⟨e,he⟩:=zac es (zaa rfl) (show k < es.length by omega);rw [zd9 p (zaq p) he,zid];exact zim (ih (by omega)) e
structure RunB (w:World) (pc:Array Value) (fb:Nat) (W:World) (v:Value) (xs:List Value) (lo:Nat → Nat) (l:List (Int × FrameD)) (f:FrameD) (u1 u2 u3:Value):Prop where
 below:Below w.heap.size w W
 box:W.rowIs w.heap.size 27 5 (fun i=>pc[i]!)
 fbox:W.rowIs fb 40 4 (fun i=>(#[.bool f.ok,u1,u2,u3]:Array Value)[i]!)
 own:W.ownsRow w.heap.size 42 5 v l.length xs
 dones:DonesX W l xs lo
 frame:∃ bo bp bw bb,OFrame (fun c=>w.heap.size ≤ c) W u1 u2 u3 f bo bp bw bb
 top:lo l.length ≤ W.heap.size
 low:∀ j,w.heap.size ≤ lo j
 step:∀ j,j < l.length → lo j ≤ lo (j + 1)
 fbl:w.heap.size < fb
theorem RunB.call {w:World} {pc:Array Value} {fb:Nat} {W W':World} {v:Value} {xs:List Value} {lo:Nat → Nat} {l:List (Int × FrameD)} {f:FrameD} {u1 u2 u3:Value} (h:RunB w pc fb W v xs lo l f u1 u2 u3) (hB:Below W.heap.size W W'):RunB w pc fb W' v xs lo l f u1 u2 u3:=by
 obtain ⟨bo,bp,bw,bb,hf⟩:=h.frame;exact ⟨h.below.trans (hB.mono h.below.size),zah h.box hB,zah h.fbox hB,za3 (K:=fun _=>True) h.own (But.of_calls hB) fun _ _=>trivial,h.dones.map fun _ _ _ _ _ _ _ _ _ k=>k.but (K:=fun _=>True) (But.of_calls hB) (fun _ _=>trivial) fun _ z=>z,⟨bo,bp,bw,bb,hf.but (K:=fun _=>True) (But.of_calls hB) (fun _ _=>trivial) fun _ z=>z⟩,Nat.le_trans h.top hB.size,h.low,h.step,h.fbl⟩
def DonesR (w w':World) (v:Value) (l:List (Int × FrameD)):Prop:=
 ∃ xs lo,w'.ownsRow w.heap.size 42 5 v l.length xs ∧ DonesX w' l xs lo ∧ lo l.length ≤ w'.heap.size ∧ (∀ j,w.heap.size ≤ lo j) ∧ ∀ j,j < l.length → lo j ≤ lo (j + 1)
theorem zh6 {w w':World} (hs:w.heap.size ≤ w'.heap.size):DonesR w w' (.slice none 0 0) []:=⟨[],fun _=>w.heap.size,World.ownsRow_nil _ _ _ _,(fun j _ hj=>by cases hj),hs,fun _=>Nat.le_refl _,fun j hj=>absurd hj (by show ¬ j < 0; omega)⟩
end Go.Proofs.YtdhinkgjiapigaaGreatDoor

import Derived.Test.YtdhinkgjiapigaaGreatDoorHeldFs
import Derived.Test.YtdhinkgjiapigaaGreatDoorDlts
import Derived.Test.YtdhinkgjiapigaaGreatDoorDrawL
namespace Go.Proofs.YtdhinkgjiapigaaGreatDoor
open Go.RowKit Go.Deep
open Classical
structure HlB (wS:World) (fb:Nat) (W:World) (f:FrameD) (u1 u2 u3:Value):Prop where
 but:But (fun c=>c ≠ fb) wS W
 fbox:W.rowIs fb 40 4 (fun i=>(#[.bool f.ok,u1,u2,u3]:Array Value)[i]!)
 frame:FrameAt (fun b=>b < wS.heap.size ∧ b ≠ fb) W u1 u2 u3 f
theorem HlB.call {wS:World} {fb:Nat} {W W':World} {f:FrameD} {u1 u2 u3:Value} (h:HlB wS fb W f u1 u2 u3) (hb:Below W.heap.size W W'):HlB wS fb W' f u1 u2 u3:=
 ⟨h.but.call hb,zah h.fbox hb,h.frame.keep (za0 hb fun _ hb'=>Nat.lt_of_lt_of_le hb'.1 h.but.size) fun _ z=>z⟩
theorem HlB.put {wS:World} {fb:Nat} {W:World} {f d:FrameD} {u1 u2 u3 n1 n2 n3:Value} (h:HlB wS fb W f u1 u2 u3) (hF:FrameAt (fun b=>b < wS.heap.size ∧ b ≠ fb) W n1 n2 n3 d) :
  HlB wS fb ((((W.setCell ⟨fb,0,none⟩ (.bool d.ok)).setCell ⟨fb,1,none⟩ n1).setCell ⟨fb,2,none⟩ n2).setCell ⟨fb,3,none⟩ n3) d n1 n2 n3:=by
 have hj:∀ o:Nat,¬ ((fun c=>c ≠ fb) (⟨fb,o,none⟩:Addr).block):=fun o z=>z rfl;have hB:=((((But.refl (fun c=>c ≠ fb) W).setCell (hj 0) (.bool d.ok)).setCell (hj 1) n1).setCell (hj 2) n2).setCell (hj 3) n3;refine ⟨h.but.trans hB,((((h.fbox.set 0 _).set 1 _).set 2 _).set 3 _).congr fun i hi=>?_,hF.keep (hB.same fun b hb=>⟨Nat.lt_of_lt_of_le hb.1 h.but.size,hb.2⟩) fun _ z=>z⟩;rcases i with _ | _ | _ | _ | i
 ·rfl
 ·rfl
 ·rfl
 ·rfl
 ·omega
end Go.Proofs.YtdhinkgjiapigaaGreatDoor

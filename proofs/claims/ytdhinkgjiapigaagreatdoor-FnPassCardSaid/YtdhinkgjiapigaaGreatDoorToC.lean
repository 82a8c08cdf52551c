import Derived.Test.YtdhinkgjiapigaaGreatDoorToA
import Derived.Test.YtdhinkgjiapigaaGreatDoorDltx
import Derived.Test.YtdhinkgjiapigaaGreatDoorBase
namespace Go.Proofs.YtdhinkgjiapigaaGreatDoor
open Go.RowKit Go.Deep
theorem WayAt.call {m:Nat} {W W':World} {v0 v1 v2 v3 v4:Value} {d:WayD} (h:WayAt (Above m W) W v0 v1 v2 v3 v4 d) (hb:Below W.heap.size W W'):WayAt (Above m W') W' v0 v1 v2 v3 v4 d:=
 h.keep (same_below hb fun _ hb=>hb.2.1) fun _ hx=>hx.call hb
theorem Bools.call {m:Nat} {W W':World} {v0:Value} {d:List Bool} (h:Bools (Above m W) W v0 d) (hb:Below W.heap.size W W'):Bools (Above m W') W' v0 d:=
 h.keep (same_below hb fun _ hb=>hb.2.1) fun _ hx=>hx.call hb
def WayC (P:Nat → Prop) (w:World) (v0 v1 v2 v3 v4:Value) (d:WayD):Prop:=WayAt P w v0 v1 v2 v3 v4 d ∧ Capped v0
theorem WayC.call {m:Nat} {W W':World} {v0 v1 v2 v3 v4:Value} {d:WayD} (h:WayC (Above m W) W v0 v1 v2 v3 v4 d) (hb:Below W.heap.size W W'):WayC (Above m W') W' v0 v1 v2 v3 v4 d:=⟨h.1.call hb,h.2⟩
theorem WaysC.made {w wr:World} {l:List WayD} {n:Nat} {t:TypeId} {f:Nat → Value} (hn:l.length = n) (hrow:wr.rowIs w.heap.size t (n * 5) f)
  (hf:∀ j x,j < n → l[j]? = some x → WayC (Above (w.heap.size + 1) wr) wr (f (j * 5)) (f (j * 5 + 1)) (f (j * 5 + 2)) (f (j * 5 + 3)) (f (j * 5 + 4)) x) (hlt:w.heap.size < wr.heap.size):WaysC (Fresh w wr) wr (.slice (some ⟨w.heap.size,0,none⟩) n n) l:=by
 subst hn
 refine ⟨_,_,rfl,.inr ⟨w.heap.size,0,rfl,⟨Nat.le_refl _,hlt,hrow.frozen⟩,fun i hi x hx=>?_⟩⟩
 rw [Nat.zero_add,hrow.cell (by omega),hrow.cell (by omega),hrow.cell (by omega),hrow.cell (by omega),hrow.cell (by omega)]
 exact ⟨_,_,_,_,_,⟨(hf i x hi hx).1.keep (same_refl _ _) fun b hb=>⟨by have:=hb.1; omega,hb.2⟩,(hf i x hi hx).2⟩,rfl,rfl,rfl,rfl,rfl⟩
theorem Rows2.made {w wr:World} {l:List (List Bool)} {n:Nat} {t:TypeId} {f:Nat → Value} (hn:l.length = n) (hrow:wr.rowIs w.heap.size t n f)
  (hf:∀ j x,j < n → l[j]? = some x → Bools (Above (w.heap.size + 1) wr) wr (f j) x) (hlt:w.heap.size < wr.heap.size):Rows2 (Fresh w wr) wr (.slice (some ⟨w.heap.size,0,none⟩) n n) l:=by
 subst hn
 refine ⟨_,_,rfl,.inr ⟨w.heap.size,0,rfl,⟨Nat.le_refl _,hlt,hrow.frozen⟩,fun i hi x hx=>?_⟩⟩
 rw [Nat.zero_add,hrow.cell hi]
 exact ⟨_,(hf i x hi hx).keep (same_refl _ _) fun b hb=>⟨by have:=hb.1; omega,hb.2⟩,rfl⟩
end Go.Proofs.YtdhinkgjiapigaaGreatDoor
namespace Go.Proofs.YtdhinkgjiapigaaGreatDoor
open Go.RowKit Go.Deep
structure CopyK (w:World) (tb tr:TypeId) (k:Nat) (box:Nat → Value) (D:Dat) (W:World) (f g:Nat → Value):Prop where
 below:Below w.heap.size w W
 box:W.rowIs w.heap.size tb k box
 res:W.rowIs (w.heap.size + 1) tr k g
 out:W.rowIs (w.heap.size + 1 + 1) tr k f
 keep:Keepable D
 made:D (Above (w.heap.size + 1 + 1 + 1) W) W
theorem CopyK.call {w:World} {tb tr:TypeId} {k:Nat} {box:Nat → Value} {D:Dat} {W W':World} {f g:Nat → Value} (h:CopyK w tb tr k box D W f g) (hb:Below W.heap.size W W'):CopyK w tb tr k box D W' f g:=
 ⟨h.below.trans (hb.mono h.below.size),rowIs_keep h.box hb,rowIs_keep h.res hb,rowIs_keep h.out hb,h.keep,h.keep _ _ _ _ h.made (same_below hb fun _ hb=>hb.2.1) fun _ hx=>hx.call hb⟩
theorem CopyK.add {w:World} {tb tr:TypeId} {k:Nat} {box:Nat → Value} {D E:Dat} {V W:World} {f g f' g':Nat → Value} (h:CopyK w tb tr k box D W f g) (hV:CopyK w tb tr k box D V f' g') (hk:Keepable E) (he:E (Fresh V W) W):CopyK w tb tr k box (fun P W=>D P W ∧ E P W) W f g:=
 ⟨h.below,h.box,h.res,h.out,h.keep.and hk,h.made,hk _ _ _ _ he (same_refl _ _) fun b hb=>⟨by have:=hV.out.lt; have:=hb.1; omega,hb.2⟩⟩
theorem CopyK.start (w:World) (tb tr:TypeId) (k:Nat) (bs zs ys:Array Value) (hb:bs.size = k) (hz:zs.size = k) (hy:ys.size = k) :
  CopyK w tb tr k (fun i=>bs[i]!) (fun _ _=>True) (((w.alloc (.cells bs tb)).alloc (.cells zs tr)).alloc (.cells ys tr)) (fun i=>ys[i]!) (fun i=>zs[i]!):=by
 have B:=boxes3 w tb tr tr bs zs ys
 have r0:=B.row 0 tb bs rfl
 have r1:=B.row 1 tr zs rfl
 have r2:=B.row 2 tr ys rfl
 rw [hb] at r0
 rw [hz] at r1
 rw [hy] at r2
 exact ⟨B.below,r0,r1,r2,keep_true,trivial⟩
end Go.Proofs.YtdhinkgjiapigaaGreatDoor
namespace Go.Proofs.YtdhinkgjiapigaaGreatDoor
open Go.RowKit Go.Deep
def HeldIn (m:Nat) (W:World) (f:Nat → Value) (j:Nat) (x:HeldD):Prop:=
 f (j * 5) = .int .i64 x.state ∧ f (j * 5 + 1) = .int .i64 x.gone ∧ Bools (Above m W) W (f (j * 5 + 2)) x.been ∧ f (j * 5 + 3) = .bool x.shown ∧ f (j * 5 + 4) = .int .i64 x.timer
theorem HeldIn.call {m:Nat} {W W':World} {f:Nat → Value} {j:Nat} {x:HeldD} (h:HeldIn m W f j x) (hb:Below W.heap.size W W'):HeldIn m W' f j x:=
 ⟨h.1,h.2.1,h.2.2.1.call hb,h.2.2.2⟩
theorem Helds.made {w wr:World} {l:List HeldD} {n:Nat} {t:TypeId} {f:Nat → Value} (hn:l.length = n) (hrow:wr.rowIs w.heap.size t (n * 5) f)
  (hf:∀ j x,j < n → l[j]? = some x → HeldIn (w.heap.size + 1) wr f j x) (hlt:w.heap.size < wr.heap.size):Helds (Fresh w wr) wr (.slice (some ⟨w.heap.size,0,none⟩) n n) l:=by
 subst hn
 refine ⟨_,_,rfl,.inr ⟨w.heap.size,0,rfl,⟨Nat.le_refl _,hlt,hrow.frozen⟩,fun i hi x hx=>?_⟩⟩
 obtain ⟨h0,h1,h2,h3,h4⟩:=hf i x hi hx
 rw [Nat.zero_add,hrow.cell (by omega),hrow.cell (by omega),hrow.cell (by omega),hrow.cell (by omega),hrow.cell (by omega),h0,h1,h3,h4]
 exact ⟨_,h2.keep (same_refl _ _) fun b hb=>⟨by have:=hb.1; omega,hb.2⟩,rfl,rfl,rfl,rfl,rfl⟩
end Go.Proofs.YtdhinkgjiapigaaGreatDoor

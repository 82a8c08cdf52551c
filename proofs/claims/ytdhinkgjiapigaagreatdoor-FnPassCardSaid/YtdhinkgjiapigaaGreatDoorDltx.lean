import Derived.Test.YtdhinkgjiapigaaGreatDoorBase
import Derived.WalkKit
import Derived.WalkSpells
import Derived.WalkLawsBesides
import Derived.Deep.OwnRows
import Derived.Test.YtdhinkgjiapigaaGreatDoorToA
import Derived.Deep.QuietTactic
import Derived.BigQuiet
import Derived.Test.YtdhinkgjiapigaaGreatDoorEqG
import Derived.Deep.RegionWith
import Derived.WalkSmall
import Derived.Test.YtdhinkgjiapigaaGreatDoorMarkA
import Derived.Test.YtdhinkgjiapigaaGreatDoorMark6
import Derived.Test.YtdhinkgjiapigaaGreatDoorRanA
import Derived.RangeFuncNested
import Derived.RangeFuncBound
import Derived.RangeFuncCalls
import Derived.RangeFuncLeaves
import Derived.Shelf.Abstract
import Derived.Shelf.RegionOpen
import Derived.OwnWalkIn
import Derived.TacticsInMore
import Derived.LoopNIn
import Derived.LoopIn
import Derived.Test.YtdhinkgjiapigaaGreatDoorEvA
namespace Go.Proofs.YtdhinkgjiapigaaGreatDoor
open Go.RowKit
def Thaw (w:World) (b:Nat):Prop:=∀ o,w.frozen? ⟨b,o,none⟩ = false
def Fresh (w w':World) (b:Nat):Prop:=w.heap.size ≤ b ∧ b < w'.heap.size ∧ Thaw w' b
end Go.Proofs.YtdhinkgjiapigaaGreatDoor
namespace Go.Proofs.YtdhinkgjiapigaaGreatDoor
open Classical
end Go.Proofs.YtdhinkgjiapigaaGreatDoor
namespace Go.Proofs.YtdhinkgjiapigaaGreatDoor
open Go.RowKit
end Go.Proofs.YtdhinkgjiapigaaGreatDoor
namespace Go.Proofs.YtdhinkgjiapigaaGreatDoor
end Go.Proofs.YtdhinkgjiapigaaGreatDoor
namespace Go.Proofs.YtdhinkgjiapigaaGreatDoor
open Go.RowKit Go.Deep
end Go.Proofs.YtdhinkgjiapigaaGreatDoor
namespace Go.Proofs.YtdhinkgjiapigaaGreatDoor
end Go.Proofs.YtdhinkgjiapigaaGreatDoor
namespace Go.Proofs.YtdhinkgjiapigaaGreatDoor
end Go.Proofs.YtdhinkgjiapigaaGreatDoor
namespace Go.Proofs.YtdhinkgjiapigaaGreatDoor
end Go.Proofs.YtdhinkgjiapigaaGreatDoor

namespace Go.Proofs.YtdhinkgjiapigaaGreatDoor
open Go.RowKit Go.Deep
theorem Ints.made {w wr:World} {l:List Int} {n:Nat} {t:TypeId} {f:Nat → Value} (hn:l.length = n) (hrow:wr.rowIs w.heap.size t n f)
  (hf:∀ j x,j < n → l[j]? = some x → f j = .int .i64 x):Ints (Fresh w wr) wr (.slice (some ⟨w.heap.size,0,none⟩) n n) l:=by
 subst hn
 exact ⟨_,_,rfl,.inr ⟨w.heap.size,0,rfl,⟨Nat.le_refl _,hrow.lt,hrow.frozen⟩,fun i hi x hx=>by rw [Nat.zero_add,hrow.cell hi,hf i x hi hx]⟩⟩
theorem Bools.made {w wr:World} {l:List Bool} {n:Nat} {t:TypeId} {f:Nat → Value} (hn:l.length = n) (hrow:wr.rowIs w.heap.size t n f)
  (hf:∀ j x,j < n → l[j]? = some x → f j = .bool x):Bools (Fresh w wr) wr (.slice (some ⟨w.heap.size,0,none⟩) n n) l:=by
 subst hn
 exact ⟨_,_,rfl,.inr ⟨w.heap.size,0,rfl,⟨Nat.le_refl _,hrow.lt,hrow.frozen⟩,fun i hi x hx=>by rw [Nat.zero_add,hrow.cell hi,hf i x hi hx]⟩⟩
theorem Lies.made {w wr:World} {l:List (Int × Int)} {n:Nat} {t:TypeId} {f:Nat → Value} (hn:l.length = n) (hrow:wr.rowIs w.heap.size t (n * 2) f)
  (hf:∀ j x,j < n → l[j]? = some x → f (j * 2) = .int .i64 x.1 ∧ f (j * 2 + 1) = .int .i64 x.2):Lies (Fresh w wr) wr (.slice (some ⟨w.heap.size,0,none⟩) n n) l:=by
 subst hn
 refine ⟨_,_,rfl,.inr ⟨w.heap.size,0,rfl,⟨Nat.le_refl _,hrow.lt,hrow.frozen⟩,fun i hi x hx=>?_⟩⟩
 rw [Nat.zero_add,hrow.cell (by omega),hrow.cell (by omega),(hf i x hi hx).1,(hf i x hi hx).2]; exact ⟨rfl,rfl⟩
end Go.Proofs.YtdhinkgjiapigaaGreatDoor
namespace Go.Proofs.YtdhinkgjiapigaaGreatDoor
open Go.RowKit Go.Deep
def Above (m:Nat) (w:World) (b:Nat):Prop:=m ≤ b ∧ b < w.heap.size ∧ Thaw w b
theorem Above.call {m:Nat} {W W':World} {b:Nat} (h:Above m W b) (hb:Below W.heap.size W W'):Above m W' b:=
 ⟨h.1,Nat.lt_of_lt_of_le h.2.1 hb.size,fun o=>(hb.frozen (p:=⟨b,o,none⟩) h.2.1).trans (h.2.2 o)⟩
abbrev Dat:=(Nat → Prop) → World → Prop
def Keepable (D:Dat):Prop:=∀ P Q W W',D P W → Same P W W' → (∀ b,P b → Q b) → D Q W'
theorem Keepable.and {D E:Dat} (h:Keepable D) (k:Keepable E):Keepable (fun P W=>D P W ∧ E P W):=fun _ _ _ _ x s q=>⟨h _ _ _ _ x.1 s q,k _ _ _ _ x.2 s q⟩
theorem keep_true:Keepable (fun _ _=>True):=fun _ _ _ _ _ _ _=>trivial
structure Copy (w:World) (tb tr:TypeId) (box:Nat → Value) (D:Dat) (W:World) (f g:Nat → Value):Prop where
 below:Below w.heap.size w W
 box:W.rowIs w.heap.size tb 5 box
 res:W.rowIs (w.heap.size + 1) tr 5 g
 out:W.rowIs (w.heap.size + 1 + 1) tr 5 f
 keep:Keepable D
 made:D (Above (w.heap.size + 1 + 1 + 1) W) W
theorem Copy.call {w:World} {tb tr:TypeId} {box:Nat → Value} {D:Dat} {W W':World} {f g:Nat → Value} (h:Copy w tb tr box D W f g) (hb:Below W.heap.size W W'):Copy w tb tr box D W' f g:=
 ⟨h.below.trans (hb.mono h.below.size),rowIs_keep h.box hb,rowIs_keep h.res hb,rowIs_keep h.out hb,h.keep,h.keep _ _ _ _ h.made (same_below hb fun _ hb=>hb.2.1) fun _ hx=>hx.call hb⟩
theorem Copy.add {w:World} {tb tr:TypeId} {box:Nat → Value} {D E:Dat} {V W:World} {f g f' g':Nat → Value} (h:Copy w tb tr box D W f g) (hV:Copy w tb tr box D V f' g') (hk:Keepable E) (he:E (Fresh V W) W):Copy w tb tr box (fun P W=>D P W ∧ E P W) W f g:=
 ⟨h.below,h.box,h.res,h.out,h.keep.and hk,h.made,hk _ _ _ _ he (same_refl _ _) fun b hb=>⟨by have:=hV.out.lt; have:=hb.1; omega,hb.2⟩⟩
theorem Copy.start (w:World) (tb tr:TypeId) (b0 b1 b2 b3 b4 z0 z1 z2 z3 z4 y0 y1 y2 y3 y4:Value) :
  Copy w tb tr (fun i=>(#[b0,b1,b2,b3,b4]:Array Value)[i]!) (fun _ _=>True) (((w.alloc (.cells #[b0,b1,b2,b3,b4] tb)).alloc (.cells #[z0,z1,z2,z3,z4] tr)).alloc (.cells #[y0,y1,y2,y3,y4] tr))
   (fun i=>(#[y0,y1,y2,y3,y4]:Array Value)[i]!) (fun i=>(#[z0,z1,z2,z3,z4]:Array Value)[i]!):=by
 have hr:∀ (u:World) (t:TypeId) (c:Array Value),(u.alloc (.cells c t)).rowIs u.heap.size t c.size (fun i=>c[i]!):=fun u t c=>
  World.rowIs_alloc u c t _ fun i hi=>by rw [getElem!_pos _ i hi]; exact Array.getElem?_eq_getElem hi
 refine ⟨((((Below.refl _ _).alloc (Nat.le_refl _) _).alloc (by simp) _).alloc (by simp; omega) _),((hr _ _ _).alloc _).alloc _,?_,?_,keep_true,trivial⟩
 ·have:=(hr (w.alloc (.cells #[b0,b1,b2,b3,b4] tb)) tr #[z0,z1,z2,z3,z4]).alloc (.cells #[y0,y1,y2,y3,y4] tr)
  simpa using this
 ·have:=hr ((w.alloc (.cells #[b0,b1,b2,b3,b4] tb)).alloc (.cells #[z0,z1,z2,z3,z4] tr)) tr #[y0,y1,y2,y3,y4]
  simpa using this
theorem Copy.boxes {w:World} {tb tr:TypeId} {b0 b1 b2 b3 b4:Value} {D:Dat} {W:World} {f g:Nat → Value} (h:Copy w tb tr (fun i=>(#[b0,b1,b2,b3,b4]:Array Value)[i]!) D W f g) :
  W.cell? ⟨w.heap.size,0,none⟩ = some b0 ∧ W.cell? ⟨w.heap.size,1,none⟩ = some b1 ∧ W.cell? ⟨w.heap.size,2,none⟩ = some b2 ∧ W.cell? ⟨w.heap.size,3,none⟩ = some b3 ∧ W.cell? ⟨w.heap.size,4,none⟩ = some b4:=
 ⟨by simpa using h.box.cell (i:=0) (by omega),by simpa using h.box.cell (i:=1) (by omega),by simpa using h.box.cell (i:=2) (by omega),by simpa using h.box.cell (i:=3) (by omega),by simpa using h.box.cell (i:=4) (by omega)⟩
end Go.Proofs.YtdhinkgjiapigaaGreatDoor
namespace Go.Proofs.YtdhinkgjiapigaaGreatDoor
open Go.RowKit Go.Deep
end Go.Proofs.YtdhinkgjiapigaaGreatDoor
namespace Go.Proofs.YtdhinkgjiapigaaGreatDoor
open Go.RowKit Go.Deep
end Go.Proofs.YtdhinkgjiapigaaGreatDoor
namespace Go.Proofs.YtdhinkgjiapigaaGreatDoor
open Go.RowKit
end Go.Proofs.YtdhinkgjiapigaaGreatDoor
namespace Go.Proofs.YtdhinkgjiapigaaGreatDoor
open Go.RowKit Go.Deep
theorem HeldStep.trans {w w1 w2:World} {bw N i:Nat} {f:Nat → Value} {b:Nat} {x y:HeldD} (h:HeldStep w w1 bw N i f b x)
  (k:∀ f' b',w1.rowIs bw 44 N f' → HeldO w1 f' i x b' → HeldStep w1 w2 bw N i f' b' y):HeldStep w w2 bw N i f b y:=by
 obtain ⟨e,f',b',hr,ho,hf,hb⟩:=h
 obtain ⟨e2,f2,b2,hr2,ho2,hf2,hb2⟩:=k f' b' hr ho
 refine ⟨?_,f2,b2,hr2,ho2,fun q hN hq=>(hf2 q hN hq).trans (hf q hN hq),?_⟩
 ·refine ⟨e2.os.trans e.os,e2.tape.trans e.tape,e2.output.trans e.output,Nat.le_trans e.size e2.size,fun c hc hk=>?_⟩
  exact (e2.block c (Nat.lt_of_lt_of_le hc e.size) ⟨hk.1,by rcases hb with q | q; rw [q]; exact hk.2; omega⟩).trans (e.block c hc hk)
 ·have:=e.size
  rcases hb2 with q | q
  ·rw [q]; exact hb
  ·exact .inr (by omega)
end Go.Proofs.YtdhinkgjiapigaaGreatDoor

namespace Go.Proofs.YtdhinkgjiapigaaGreatDoor
open Go.RowKit
end Go.Proofs.YtdhinkgjiapigaaGreatDoor
namespace Go.Proofs.YtdhinkgjiapigaaGreatDoor
open Go.RowKit Go.Deep
structure Two (w:World) (t:TypeId) (f g:Nat → Value) (W:World):Prop where
 below:Below w.heap.size w W
 one:W.rowIs w.heap.size t 5 f
 two:W.rowIs (w.heap.size + 1) t 5 g
theorem Two.call {w:World} {t:TypeId} {f g:Nat → Value} {W W':World} (h:Two w t f g W) (hb:Below W.heap.size W W'):Two w t f g W':=
 ⟨h.below.trans (hb.mono h.below.size),rowIs_keep h.one hb,rowIs_keep h.two hb⟩
theorem Two.start (w:World) (t:TypeId) (b0 b1 b2 b3 b4 z0 z1 z2 z3 z4:Value) :
  Two w t (fun i=>(#[b0,b1,b2,b3,b4]:Array Value)[i]!) (fun i=>(#[z0,z1,z2,z3,z4]:Array Value)[i]!) ((w.alloc (.cells #[b0,b1,b2,b3,b4] t)).alloc (.cells #[z0,z1,z2,z3,z4] t)):=by
 have hr:∀ (u:World) (t:TypeId) (c:Array Value),(u.alloc (.cells c t)).rowIs u.heap.size t c.size (fun i=>c[i]!):=fun u t c=>
  World.rowIs_alloc u c t _ fun i hi=>by rw [getElem!_pos _ i hi]; exact Array.getElem?_eq_getElem hi
 refine ⟨(((Below.refl _ _).alloc (Nat.le_refl _) _).alloc (by simp) _),(hr _ _ _).alloc _,?_⟩
 have:=hr (w.alloc (.cells #[b0,b1,b2,b3,b4] t)) t #[z0,z1,z2,z3,z4]
 simpa using this
theorem Two.cells {w:World} {t:TypeId} {b0 b1 b2 b3 b4 z0 z1 z2 z3 z4:Value} {W:World} (h:Two w t (fun i=>(#[b0,b1,b2,b3,b4]:Array Value)[i]!) (fun i=>(#[z0,z1,z2,z3,z4]:Array Value)[i]!) W) :
  (W.cell? ⟨w.heap.size,0,none⟩ = some b0 ∧ W.cell? ⟨w.heap.size,1,none⟩ = some b1 ∧ W.cell? ⟨w.heap.size,2,none⟩ = some b2 ∧ W.cell? ⟨w.heap.size,3,none⟩ = some b3 ∧ W.cell? ⟨w.heap.size,4,none⟩ = some b4) ∧
  (W.cell? ⟨w.heap.size + 1,0,none⟩ = some z0 ∧ W.cell? ⟨w.heap.size + 1,1,none⟩ = some z1 ∧ W.cell? ⟨w.heap.size + 1,2,none⟩ = some z2 ∧ W.cell? ⟨w.heap.size + 1,3,none⟩ = some z3 ∧ W.cell? ⟨w.heap.size + 1,4,none⟩ = some z4):=
 ⟨⟨by simpa using h.one.cell (i:=0) (by omega),by simpa using h.one.cell (i:=1) (by omega),by simpa using h.one.cell (i:=2) (by omega),by simpa using h.one.cell (i:=3) (by omega),by simpa using h.one.cell (i:=4) (by omega)⟩,
  ⟨by simpa using h.two.cell (i:=0) (by omega),by simpa using h.two.cell (i:=1) (by omega),by simpa using h.two.cell (i:=2) (by omega),by simpa using h.two.cell (i:=3) (by omega),by simpa using h.two.cell (i:=4) (by omega)⟩⟩
end Go.Proofs.YtdhinkgjiapigaaGreatDoor
namespace Go.Proofs.YtdhinkgjiapigaaGreatDoor
open Go.RowKit Go.Deep
end Go.Proofs.YtdhinkgjiapigaaGreatDoor

namespace Go.Proofs.YtdhinkgjiapigaaGreatDoor
open Go.RowKit Go.Deep
structure Marked (P:Nat → Prop) (w w':World):Prop where
 but:But (fun c=>¬ P c) w w'
 like:∀ b,b < w.heap.size → ∀ o,w'.cell? ⟨b,o,none⟩ = w.cell? ⟨b,o,none⟩ ∨ (∃ x y,w.cell? ⟨b,o,none⟩ = some (.int .i64 x) ∧ w'.cell? ⟨b,o,none⟩ = some (.int .i64 y)) ∨ ∃ x y,w.cell? ⟨b,o,none⟩ = some (.bool x) ∧ w'.cell? ⟨b,o,none⟩ = some (.bool y)
 thaw:∀ b,b < w.heap.size → Thaw w b → Thaw w' b
theorem Marked.of_calls {P:Nat → Prop} {w w':World} (h:Below w.heap.size w w'):Marked P w w':=
 ⟨But.of_calls h,fun b hb o=>.inl (h.cell (p:=⟨b,o,none⟩) hb),fun b hb k o=>(h.frozen (p:=⟨b,o,none⟩) hb).trans (k o)⟩
theorem Marked.refl (P:Nat → Prop) (w:World):Marked P w w:=Marked.of_calls (Below.refl _ _)
theorem Marked.trans {P:Nat → Prop} {a b c:World} (h:Marked P a b) (k:Marked P b c):Marked P a c:=by
 refine ⟨h.but.trans k.but,fun x hx o=>?_,fun x hx t=>k.thaw x (Nat.lt_of_lt_of_le hx h.but.size) (h.thaw x hx t)⟩
 rcases k.like x (Nat.lt_of_lt_of_le hx h.but.size) o with e | ⟨p,q,e1,e2⟩ | ⟨p,q,e1,e2⟩ <;> rcases h.like x hx o with g | ⟨r,s,g1,g2⟩ | ⟨r,s,g1,g2⟩
 ·exact .inl (e.trans g)
 ·exact .inr (.inl ⟨r,s,g1,e.trans g2⟩)
 ·exact .inr (.inr ⟨r,s,g1,e.trans g2⟩)
 ·exact .inr (.inl ⟨p,q,g.symm.trans e1,e2⟩)
 ·exact .inr (.inl ⟨r,q,g1,e2⟩)
 ·rw [g2] at e1; cases e1
 ·exact .inr (.inr ⟨p,q,g.symm.trans e1,e2⟩)
 ·rw [g2] at e1; cases e1
 ·exact .inr (.inr ⟨r,q,g1,e2⟩)
theorem Marked.int {P:Nat → Prop} {w w':World} (h:Marked P w w') {b o:Nat} (hb:∃ x,w.cell? ⟨b,o,none⟩ = some (.int .i64 x)):∃ x,w'.cell? ⟨b,o,none⟩ = some (.int .i64 x):=by
 obtain ⟨x,hx⟩:=hb
 rcases h.like b (World.block_lt_of_cell? _ _ hx) o with e | ⟨p,q,e1,e2⟩ | ⟨p,q,e1,e2⟩
 ·exact ⟨x,e.trans hx⟩
 ·exact ⟨q,e2⟩
 ·rw [hx] at e1; cases e1
theorem Marked.bool {P:Nat → Prop} {w w':World} (h:Marked P w w') {b o:Nat} (hb:∃ x,w.cell? ⟨b,o,none⟩ = some (.bool x)):∃ x,w'.cell? ⟨b,o,none⟩ = some (.bool x):=by
 obtain ⟨x,hx⟩:=hb
 rcases h.like b (World.block_lt_of_cell? _ _ hx) o with e | ⟨p,q,e1,e2⟩ | ⟨p,q,e1,e2⟩
 ·exact ⟨x,e.trans hx⟩
 ·rw [hx] at e1; cases e1
 ·exact ⟨q,e2⟩
theorem Marked.slice {P:Nat → Prop} {w w':World} (h:Marked P w w') {b o:Nat} {a:Option Addr} {n c:Nat} (hx:w.cell? ⟨b,o,none⟩ = some (.slice a n c)):w'.cell? ⟨b,o,none⟩ = some (.slice a n c):=by
 rcases h.like b (World.block_lt_of_cell? _ _ hx) o with e | ⟨p,q,e1,e2⟩ | ⟨p,q,e1,e2⟩
 ·exact e.trans hx
 ·rw [hx] at e1; cases e1
 ·rw [hx] at e1; cases e1
end Go.Proofs.YtdhinkgjiapigaaGreatDoor
namespace Go.Proofs.YtdhinkgjiapigaaGreatDoor
open Go.RowKit Go.Deep
end Go.Proofs.YtdhinkgjiapigaaGreatDoor
namespace Go.Proofs.YtdhinkgjiapigaaGreatDoor
open Go.RowKit Go.Deep
end Go.Proofs.YtdhinkgjiapigaaGreatDoor

namespace Go.Proofs.YtdhinkgjiapigaaGreatDoor
open Go.RowKit Go.Deep
end Go.Proofs.YtdhinkgjiapigaaGreatDoor
namespace Go.Proofs.YtdhinkgjiapigaaGreatDoor
open Go.RowKit Go.Deep
end Go.Proofs.YtdhinkgjiapigaaGreatDoor
namespace Go.Proofs.YtdhinkgjiapigaaGreatDoor
open Go.RowKit Go.Deep
theorem FrameM.but {B0 B1:Nat} {w w':World} {v1 v2 v3:Value} {d:FrameD} (h:FrameM B0 w v1 v2 v3 d) (e:But (fun c=>B0 ≤ c) w w') (hB:B1 ≤ B0):FrameM B1 w' v1 v2 v3 d:=by
 rcases h with ⟨bo,bp,bw,bb,h⟩ | h
 ·exact .inl ⟨bo,bp,bw,bb,h.but e (fun _ z=>z) fun _ z=>Nat.le_trans hB z⟩
 ·exact .inr h
theorem FrameM.call {B0:Nat} {w w':World} {v1 v2 v3:Value} {d:FrameD} (h:FrameM B0 w v1 v2 v3 d) (e:Below w.heap.size w w'):FrameM B0 w' v1 v2 v3 d:=h.but (But.of_calls e) (Nat.le_refl _)
def FrameP (P:Nat → Prop) (w:World) (v1 v2 v3:Value) (d:FrameD):Prop:=
 (∃ bo bp bw bb,OFrame P w v1 v2 v3 d bo bp bw bb) ∨ (v1 = .slice none 0 0 ∧ v2 = .slice none 0 0 ∧ v3 = .slice none 0 0 ∧ d.occ = [] ∧ d.points = [] ∧ d.ways = [])
theorem FrameP.there {P:Nat → Prop} {w:World} {v1 v2 v3:Value} {d:FrameD} (h:FrameP P w v1 v2 v3 d):FrameP (fun c=>P c ∧ c < w.heap.size) w v1 v2 v3 d:=by
 rcases h with ⟨bo,bp,bw,bb,h⟩ | h
 ·exact .inl ⟨bo,bp,bw,bb,h.bound fun _ h1 h2=>⟨h1,h2⟩⟩
 ·exact .inr h
theorem FrameP.but {P Q K:Nat → Prop} {w w':World} {v1 v2 v3:Value} {d:FrameD} (h:FrameP P w v1 v2 v3 d) (e:But K w w') (hk:∀ c,P c → K c) (hq:∀ c,P c → Q c):FrameP Q w' v1 v2 v3 d:=by
 rcases h with ⟨bo,bp,bw,bb,h⟩ | h
 ·exact .inl ⟨bo,bp,bw,bb,h.but e hk hq⟩
 ·exact .inr h
end Go.Proofs.YtdhinkgjiapigaaGreatDoor
namespace Go.Proofs.YtdhinkgjiapigaaGreatDoor
open Go.RowKit Go.Deep
end Go.Proofs.YtdhinkgjiapigaaGreatDoor

namespace Go.Proofs.YtdhinkgjiapigaaGreatDoor
open Go.RowKit
theorem Mid.refl (a b:Nat) (W:World):Mid a b W W:=fun _ _ _=>rfl
end Go.Proofs.YtdhinkgjiapigaaGreatDoor
namespace Go.Proofs.YtdhinkgjiapigaaGreatDoor
open Go.RowKit Go.Shelf
open Classical
attribute [local go_sem] Oper.semAt_some
end Go.Proofs.YtdhinkgjiapigaaGreatDoor
namespace Go.Proofs.YtdhinkgjiapigaaGreatDoor
open Go.RowKit Go.Shelf
attribute [local go_sem] Oper.semAt_some
end Go.Proofs.YtdhinkgjiapigaaGreatDoor

namespace Go.Proofs.YtdhinkgjiapigaaGreatDoor
open Go.RowKit Go.Deep
open Classical
theorem Right.sections {d:PlanD} (h:Right d):1 ≤ d.sections ∧ d.sections ≤ 60:=h.parts.1.1
end Go.Proofs.YtdhinkgjiapigaaGreatDoor
namespace Go.Proofs.YtdhinkgjiapigaaGreatDoor
open Go.RowKit Go.Deep
open Classical
end Go.Proofs.YtdhinkgjiapigaaGreatDoor

import Derived.Test.YtdhinkgjiapigabGreatDoorProg
import Derived.Test.YtdhinkgjiapigabGreatDoorBase
import Derived.Deep.OwnRows
import Derived.Deep.QuietTactic
import Derived.BigQuiet
import Derived.Deep.RegionWith
import Derived.WalkSmall
namespace Go.Proofs.YtdhinkgjiapigabGreatDoor
open Go.RowKit Go.Deep
theorem Tryz.infoInt:(Tryz.prog.info? 3).map (fun i=>(i.zero,i.size,i.bytes)) = some (some (.int .i64 0),1,8):=by kernel_rfl
theorem Tryz.infoBool:(Tryz.prog.info? 4).map (fun i=>(i.zero,i.size,i.bytes)) = some (some (.bool false),1,1):=by kernel_rfl
theorem Tryz.infoLie:(Tryz.prog.info? 175).map (fun i=>(i.zero,i.size,i.bytes)) = some (some (.agg #[.int .i64 0,.int .i64 0]),2,16):=by kernel_rfl
theorem zal {w w':World} {b t n:Nat} {f:Nat → Value} (h:w.rowIs b t n f) (hb:Below w.heap.size w w'):w'.rowIs b t n f:=h.of_block (hb.block b h.lt)
end Go.Proofs.YtdhinkgjiapigabGreatDoor
namespace Go.Proofs.YtdhinkgjiapigabGreatDoor
open Go.RowKit Go.Deep
end Go.Proofs.YtdhinkgjiapigabGreatDoor
namespace Go.Proofs.YtdhinkgjiapigabGreatDoor
open Go.RowKit Go.Deep
theorem zak (u:World) (t:TypeId) (c:Array Value):(u.alloc (.cells c t)).rowIs u.heap.size t c.size (fun i=>c[i]!):=
 World.rowIs_alloc u c t _ fun i hi=>by rw [getElem!_pos _ i hi]; exact Array.getElem?_eq_getElem hi
def zch (b0 b1 b2 b3 b4:Value):Nat → Value:=fun i=>(#[b0,b1,b2,b3,b4]:Array Value)[i]!
structure Bx1 (w:World) (t:TypeId) (f:Nat → Value) (W:World):Prop where
 below:Below w.heap.size w W
 one:W.rowIs w.heap.size t 5 f
theorem Bx1.call {w:World} {t:TypeId} {f:Nat → Value} {W W':World} (h:Bx1 w t f W) (hb:Below W.heap.size W W'):Bx1 w t f W':=
 ⟨h.below.trans (hb.mono h.below.size),zal h.one hb⟩
theorem Bx1.start (w:World) (t:TypeId) (b0 b1 b2 b3 b4:Value):Bx1 w t (zch b0 b1 b2 b3 b4) (w.alloc (.cells #[b0,b1,b2,b3,b4] t)):=
 ⟨(Below.refl _ _).alloc (Nat.le_refl _) _,zak _ _ _⟩
theorem Bx1.cells {w:World} {t:TypeId} {b0 b1 b2 b3 b4:Value} {W:World} (h:Bx1 w t (zch b0 b1 b2 b3 b4) W) :
  W.cell? ⟨w.heap.size,0,none⟩ = some b0 ∧ W.cell? ⟨w.heap.size,1,none⟩ = some b1 ∧ W.cell? ⟨w.heap.size,2,none⟩ = some b2 ∧ W.cell? ⟨w.heap.size,3,none⟩ = some b3 ∧ W.cell? ⟨w.heap.size,4,none⟩ = some b4:=
 ⟨by simpa [zch] using h.one.cell (i:=0) (by omega),by simpa [zch] using h.one.cell (i:=1) (by omega),by simpa [zch] using h.one.cell (i:=2) (by omega),by simpa [zch] using h.one.cell (i:=3) (by omega),by simpa [zch] using h.one.cell (i:=4) (by omega)⟩
structure Bx2 (w:World) (t u:TypeId) (f g:Nat → Value) (W:World):Prop where
 below:Below w.heap.size w W
 one:W.rowIs w.heap.size t 5 f
 two:W.rowIs (w.heap.size + 1) u 5 g
theorem Bx2.call {w:World} {t u:TypeId} {f g:Nat → Value} {W W':World} (h:Bx2 w t u f g W) (hb:Below W.heap.size W W'):Bx2 w t u f g W':=
 ⟨h.below.trans (hb.mono h.below.size),zal h.one hb,zal h.two hb⟩
theorem Bx2.start (w:World) (t u:TypeId) (b0 b1 b2 b3 b4 z0 z1 z2 z3 z4:Value) :
  Bx2 w t u (zch b0 b1 b2 b3 b4) (zch z0 z1 z2 z3 z4) ((w.alloc (.cells #[b0,b1,b2,b3,b4] t)).alloc (.cells #[z0,z1,z2,z3,z4] u)):=by
 refine ⟨(((Below.refl _ _).alloc (Nat.le_refl _) _).alloc (by simp) _),(zak _ _ _).alloc _,?_⟩;have:=zak (w.alloc (.cells #[b0,b1,b2,b3,b4] t)) u #[z0,z1,z2,z3,z4];rw [show (w.alloc (.cells #[b0,b1,b2,b3,b4] t)).heap.size = w.heap.size + 1 by simp] at this;exact this
theorem Bx2.cells {w:World} {t u:TypeId} {b0 b1 b2 b3 b4 z0 z1 z2 z3 z4:Value} {W:World} (h:Bx2 w t u (zch b0 b1 b2 b3 b4) (zch z0 z1 z2 z3 z4) W) :
  (W.cell? ⟨w.heap.size,0,none⟩ = some b0 ∧ W.cell? ⟨w.heap.size,1,none⟩ = some b1 ∧ W.cell? ⟨w.heap.size,2,none⟩ = some b2 ∧ W.cell? ⟨w.heap.size,3,none⟩ = some b3 ∧ W.cell? ⟨w.heap.size,4,none⟩ = some b4) ∧
  (W.cell? ⟨w.heap.size + 1,0,none⟩ = some z0 ∧ W.cell? ⟨w.heap.size + 1,1,none⟩ = some z1 ∧ W.cell? ⟨w.heap.size + 1,2,none⟩ = some z2 ∧ W.cell? ⟨w.heap.size + 1,3,none⟩ = some z3 ∧ W.cell? ⟨w.heap.size + 1,4,none⟩ = some z4):=
 ⟨⟨by simpa [zch] using h.one.cell (i:=0) (by omega),by simpa [zch] using h.one.cell (i:=1) (by omega),by simpa [zch] using h.one.cell (i:=2) (by omega),by simpa [zch] using h.one.cell (i:=3) (by omega),by simpa [zch] using h.one.cell (i:=4) (by omega)⟩,
  ⟨by simpa [zch] using h.two.cell (i:=0) (by omega),by simpa [zch] using h.two.cell (i:=1) (by omega),by simpa [zch] using h.two.cell (i:=2) (by omega),by simpa [zch] using h.two.cell (i:=3) (by omega),by simpa [zch] using h.two.cell (i:=4) (by omega)⟩⟩
theorem zab (w:World) (o:Obj):Below w.heap.size w (w.alloc o):=(Below.refl _ _).alloc (Nat.le_refl _) _
theorem zaf (w:World):Below w.heap.size w w.drew:=(Below.refl _ _).drew
end Go.Proofs.YtdhinkgjiapigabGreatDoor
namespace Go.Proofs.YtdhinkgjiapigabGreatDoor
open Go.RowKit Go.Deep
theorem Tryz.infoPoint:(Tryz.prog.info? 90).map (fun i=>(i.zero,i.size,i.bytes)) = some (some (.agg #[.int .i64 0,.int .i64 0]),2,16):=by kernel_rfl
theorem Tryz.infoHeld:(Tryz.prog.info? 93).map (fun i=>(i.zero,i.size,i.bytes)) = some (some (.agg #[.int .i64 0,.int .i64 0,.slice none 0 0,.bool false,.int .i64 0]),5,56):=by kernel_rfl
end Go.Proofs.YtdhinkgjiapigabGreatDoor
namespace Go.Proofs.YtdhinkgjiapigabGreatDoor
open Go.RowKit
structure Ext (W:World) where
 w:World
 below:Below W.heap.size W w
theorem zaj {P:Program} {id:Nat} {Q:Exit → Act → World → Prop} {a:Act} {w:World} {l:List Oper} (hm:P.follows .mixedOrders = true) (hB:Region.lexB .any l.toArray = true)
  (h:wpQuiet P l.toArray (fun w'=>∃ n:Ext w,w' = n.w) (fun a'=>∀ w',(∃ n:Ext w,w' = n.w) → Q .normal a' w') l a):(Code.region id l.toArray true).wp P Q a w:=
 wp_region_quiet (C:=fun w'=>∃ n:Ext w,w' = n.w) hm hB ⟨⟨w.drew,(Below.refl _ _).drew⟩,rfl⟩ (by simpa using h)
theorem zaz {P:Program} {f:FuncId} {args:Array Value} {W:World} {n:Ext W} {v:Value}
  (h:Calls P f args n.w fun e w'=>e = .returned v ∧ Below n.w.heap.size n.w w'):Calls P f args n.w fun e w''=>e = .returned v ∧ ∃ m:Ext W,w'' = m.w:=
 h.mono fun _ w' ⟨he,hb⟩=>⟨he,⟨w',n.below.trans (hb.mono n.below.size)⟩,rfl⟩
theorem Ext.any (W:World):Nonempty (Ext W):=⟨⟨W,Below.refl _ _⟩⟩
theorem Ext.cell {W:World} {b o:Nat} {v:Value} (h:W.cell? ⟨b,o,none⟩ = some v) (n:Ext W):n.w.cell? ⟨b,o,none⟩ = some v:=
 (n.below.cell (p:=⟨b,o,none⟩) (World.block_lt_of_cell? _ _ h)).trans h
end Go.Proofs.YtdhinkgjiapigabGreatDoor
namespace Go.Proofs.YtdhinkgjiapigabGreatDoor
open Go.RowKit Go.Deep
structure But (K:Nat → Prop) (w w':World):Prop where
 os:w'.os = w.os
 tape:w'.tape = w.tape
 output:w'.output = w.output
 size:w.heap.size ≤ w'.heap.size
 block:∀ b,b < w.heap.size → K b → w'.heap[b]? = w.heap[b]?
theorem But.refl (K:Nat → Prop) (w:World):But K w w:=⟨rfl,rfl,rfl,Nat.le_refl _,fun _ _ _=>rfl⟩
theorem But.trans {K:Nat → Prop} {a b c:World} (h:But K a b) (k:But K b c):But K a c:=
 ⟨k.os.trans h.os,k.tape.trans h.tape,k.output.trans h.output,Nat.le_trans h.size k.size,fun x hx hk=>(k.block x (Nat.lt_of_lt_of_le hx h.size) hk).trans (h.block x hx hk)⟩
theorem But.mono {K L:Nat → Prop} {a b:World} (h:But K a b) (hl:∀ x,x < a.heap.size → L x → K x):But L a b:=⟨h.os,h.tape,h.output,h.size,fun x hx hk=>h.block x hx (hl x hx hk)⟩
theorem But.of_below {K:Nat → Prop} {B:Nat} {a b:World} (h:Below B a b) (hK:∀ x,x < a.heap.size → K x → x < B):But K a b:=⟨h.os,h.tape,h.output,h.size,fun x hx hk=>h.block x (hK x hx hk)⟩
theorem But.of_calls {K:Nat → Prop} {a b:World} (h:Below a.heap.size a b):But K a b:=But.of_below h fun _ hx _=>hx
theorem But.call {K:Nat → Prop} {a b c:World} (h:But K a b) (k:Below b.heap.size b c):But K a c:=h.trans (But.of_calls k)
theorem But.below {K:Nat → Prop} {B:Nat} {a b:World} (h:But K a b) (hB:B ≤ a.heap.size) (hK:∀ x,x < B → K x):Below B a b:=⟨h.os,h.tape,h.output,h.size,fun x hx=>h.block x (by omega) (hK x hx)⟩
theorem But.alloc {K:Nat → Prop} {a w:World} (h:But K a w) (o:Obj):But K a (w.alloc o):=h.call ((Below.refl _ _).alloc (Nat.le_refl _) _)
theorem But.setCell {K:Nat → Prop} {a w:World} (h:But K a w) {p:Addr} (hp:¬ K p.block) (u:Value):But K a (w.setCell p u):=
 h.trans ⟨rfl,rfl,rfl,by simp [World.setCell],fun x _ hk=>Below.heap_setCell _ _ _ _ fun e=>hp (e ▸ hk)⟩
theorem But.setNew {K:Nat → Prop} {a w:World} (h:But K a w) {p:Addr} (hp:a.heap.size ≤ p.block) (u:Value):But K a (w.setCell p u):=
 ⟨h.os,h.tape,h.output,by simpa [World.setCell] using h.size,fun x hx hk=>by rw [Below.heap_setCell _ _ _ _ (by omega)]; exact h.block x hx hk⟩
theorem But.same {K P:Nat → Prop} {w w':World} (h:But K w w') (hP:∀ b,P b → b < w.heap.size ∧ K b):Same P w w':=
 fun b hb _o=>World.cell?_of_block (w:=w) (h.block b (hP b hb).1 (hP b hb).2)
theorem But.row {K:Nat → Prop} {w w':World} {b t n:Nat} {f:Nat → Value} (h:But K w w') (hr:w.rowIs b t n f) (hk:K b):w'.rowIs b t n f:=hr.of_block (h.block b hr.lt hk)
theorem But.cell {K:Nat → Prop} {w w':World} {b o:Nat} {v:Value} (h:But K w w') (hc:w.cell? ⟨b,o,none⟩ = some v) (hk:K b):w'.cell? ⟨b,o,none⟩ = some v:=
 (World.cell?_of_block (w:=w) (h.block b (World.block_lt_of_cell? _ _ hc) hk)).trans hc
theorem zbb {w:World} {b c t u n m:Nat} {f g:Nat → Value} (h:w.rowIs b t n f) (k:w.rowIs c u m g) (ht:t ≠ u):b ≠ c:=by
 rintro rfl;obtain ⟨x,hx,-⟩:=h;obtain ⟨y,hy,-⟩:=k;rw [hx] at hy
 cases hy
 exact ht rfl
def OBools (w:World) (v:Value) (l:List Bool) (b:Nat):Prop:=
 ∃ f N cap,v = .slice (some ⟨b,0,none⟩) l.length cap ∧ w.rowIs b 4 N f ∧ l.length ≤ N ∧ ∀ (i:Nat) x,l[i]? = some x → f i = .bool x
def OPoints (w:World) (v:Value) (l:List (Int × Int)) (b:Nat):Prop:=
 ∃ a cap,v = .slice a l.length cap ∧ (l.length = 0 ∨ a = some ⟨b,0,none⟩ ∧ ∃ f N,w.rowIs b 90 N f ∧ l.length * 2 ≤ N ∧ ∀ (i:Nat) x,l[i]? = some x → f (i * 2) = .int .i64 x.1 ∧ f (i * 2 + 1) = .int .i64 x.2)
def HeldO (w:World) (f:Nat → Value) (i:Nat) (x:HeldD) (b:Nat):Prop:=
 f (i * 5) = .int .i64 x.state ∧ f (i * 5 + 1) = .int .i64 x.gone ∧ OBools w (f (i * 5 + 2)) x.been b ∧ f (i * 5 + 3) = .bool x.shown ∧ f (i * 5 + 4) = .int .i64 x.timer
def OHelds (w:World) (v:Value) (l:List HeldD) (bw:Nat) (bb:Nat → Nat):Prop:=
 ∃ a cap,v = .slice a l.length cap ∧ (l.length = 0 ∨ a = some ⟨bw,0,none⟩ ∧ ∃ f N,w.rowIs bw 93 N f ∧ l.length * 5 ≤ N ∧ ∀ (i:Nat) x,l[i]? = some x → HeldO w f i x (bb i))
theorem OBools.lt {w:World} {v:Value} {l:List Bool} {b:Nat} (h:OBools w v l b):b < w.heap.size:=by
 obtain ⟨f,N,cap,-,hr,-⟩:=h; exact hr.lt
theorem OBools.of_block {w w':World} {v:Value} {l:List Bool} {b:Nat} (h:OBools w v l b) (e:w'.heap[b]? = w.heap[b]?):OBools w' v l b:=by
 obtain ⟨f,N,cap,hv,hr,k⟩:=h; exact ⟨f,N,cap,hv,hr.of_block e,k⟩
theorem OBools.but {K:Nat → Prop} {w w':World} {v:Value} {l:List Bool} {b:Nat} (h:OBools w v l b) (e:But K w w') (hk:K b):OBools w' v l b:=h.of_block (e.block b h.lt hk)
theorem OBools.read {P:Nat → Prop} {w:World} {v:Value} {l:List Bool} {b:Nat} (h:OBools w v l b) (hb:P b):Bools P w v l:=by
 obtain ⟨f,N,cap,rfl,hr,hN,hf⟩:=h;exact ⟨_,_,rfl,.inr ⟨b,0,rfl,hb,fun i hi x hx=>by rw [Nat.zero_add,hr.cell (by omega),hf i x hx]⟩⟩
theorem OPoints.read {P:Nat → Prop} {w:World} {v:Value} {l:List (Int × Int)} {b:Nat} (h:OPoints w v l b) (hb:l.length ≠ 0 → P b):Lies P w v l:=by
 obtain ⟨a,cap,rfl,h0 | ⟨rfl,f,N,hr,hN,hf⟩⟩:=h
 ·exact ⟨_,_,rfl,.inl h0⟩
 ·rcases Nat.eq_zero_or_pos l.length with e | e
  ·exact ⟨_,_,rfl,.inl e⟩
  refine ⟨_,_,rfl,.inr ⟨b,0,rfl,hb (by omega),fun i hi x hx=>?_⟩⟩;rw [Nat.zero_add,hr.cell (by omega),hr.cell (by omega),(hf i x hx).1,(hf i x hx).2];exact ⟨rfl,rfl⟩
theorem OPoints.but {K:Nat → Prop} {w w':World} {v:Value} {l:List (Int × Int)} {b:Nat} (h:OPoints w v l b) (e:But K w w') (hk:l.length ≠ 0 → K b):OPoints w' v l b:=by
 obtain ⟨a,cap,rfl,h0 | ⟨rfl,f,N,hr,hN,hf⟩⟩:=h
 ·exact ⟨_,_,rfl,.inl h0⟩
 ·rcases Nat.eq_zero_or_pos l.length with q | q
  ·exact ⟨_,_,rfl,.inl q⟩
  exact ⟨_,_,rfl,.inr ⟨rfl,f,N,e.row hr (hk (by omega)),hN,hf⟩⟩
theorem HeldO.but {K:Nat → Prop} {w w':World} {f:Nat → Value} {i:Nat} {x:HeldD} {b:Nat} (h:HeldO w f i x b) (e:But K w w') (hk:K b):HeldO w' f i x b:=⟨h.1,h.2.1,h.2.2.1.but e hk,h.2.2.2⟩
theorem OHelds.but {K:Nat → Prop} {w w':World} {v:Value} {l:List HeldD} {bw:Nat} {bb:Nat → Nat} (h:OHelds w v l bw bb) (e:But K w w') (hk:l.length ≠ 0 → K bw) (hb:∀ i,i < l.length → K (bb i)):OHelds w' v l bw bb:=by
 obtain ⟨a,cap,rfl,h0 | ⟨rfl,f,N,hr,hN,hf⟩⟩:=h
 ·exact ⟨_,_,rfl,.inl h0⟩
 ·rcases Nat.eq_zero_or_pos l.length with q | q
  ·exact ⟨_,_,rfl,.inl q⟩
  exact ⟨_,_,rfl,.inr ⟨rfl,f,N,e.row hr (hk (by omega)),hN,fun i x hx=>(hf i x hx).but e (hb i (List.getElem?_eq_some_iff.1 hx).1)⟩⟩
theorem OHelds.read {P:Nat → Prop} {w:World} {v:Value} {l:List HeldD} {bw:Nat} {bb:Nat → Nat} (h:OHelds w v l bw bb) (hk:l.length ≠ 0 → P bw) (hb:∀ i,i < l.length → P (bb i)):Helds P w v l:=by
 obtain ⟨a,cap,rfl,h0 | ⟨rfl,f,N,hr,hN,hf⟩⟩:=h
 ·exact ⟨_,_,rfl,.inl h0⟩
 ·rcases Nat.eq_zero_or_pos l.length with q | q
  ·exact ⟨_,_,rfl,.inl q⟩
  refine ⟨_,_,rfl,.inr ⟨bw,0,rfl,hk (by omega),fun i hi x hx=>?_⟩⟩;obtain ⟨h0,h1,h2,h3,h4⟩:=hf i x hx;rw [Nat.zero_add,hr.cell (by omega),hr.cell (by omega),hr.cell (by omega),hr.cell (by omega),hr.cell (by omega),h0,h1,h3,h4];exact ⟨_,h2.read (hb i hi),rfl,rfl,rfl,rfl,rfl⟩
structure OFrame (P:Nat → Prop) (w:World) (v1 v2 v3:Value) (d:FrameD) (bo bp bw:Nat) (bb:Nat → Nat):Prop where
 occ:OBools w v1 d.occ bo
 points:OPoints w v2 d.points bp
 ways:OHelds w v3 d.ways bw bb
 po:P bo
 pp:d.points.length ≠ 0 → P bp
 pw:d.ways.length ≠ 0 → P bw
 pb:∀ i,i < d.ways.length → P (bb i)
 inj:∀ i j,i < d.ways.length → j < d.ways.length → bb i = bb j → i = j
 off:∀ i,i < d.ways.length → bb i ≠ bo
theorem OFrame.read {P:Nat → Prop} {w:World} {v1 v2 v3:Value} {d:FrameD} {bo bp bw:Nat} {bb:Nat → Nat} (h:OFrame P w v1 v2 v3 d bo bp bw bb):FrameAt P w v1 v2 v3 d:=
 ⟨h.occ.read h.po,h.points.read h.pp,h.ways.read h.pw h.pb⟩
theorem OFrame.but {P Q K:Nat → Prop} {w w':World} {v1 v2 v3:Value} {d:FrameD} {bo bp bw:Nat} {bb:Nat → Nat} (h:OFrame P w v1 v2 v3 d bo bp bw bb) (e:But K w w') (hk:∀ b,P b → K b) (hq:∀ b,P b → Q b):OFrame Q w' v1 v2 v3 d bo bp bw bb:=
 ⟨h.occ.but e (hk _ h.po),h.points.but e fun z=>hk _ (h.pp z),h.ways.but e (fun z=>hk _ (h.pw z)) fun i hi=>hk _ (h.pb i hi),hq _ h.po,fun z=>hq _ (h.pp z),fun z=>hq _ (h.pw z),fun i hi=>hq _ (h.pb i hi),h.inj,h.off⟩
theorem OFrame.bound {P Q:Nat → Prop} {w:World} {v1 v2 v3:Value} {d:FrameD} {bo bp bw:Nat} {bb:Nat → Nat} (h:OFrame P w v1 v2 v3 d bo bp bw bb) (hq:∀ c,P c → c < w.heap.size → Q c):OFrame Q w v1 v2 v3 d bo bp bw bb:=by
 refine ⟨h.occ,h.points,h.ways,hq _ h.po h.occ.lt,fun z=>hq _ (h.pp z) ?_,fun z=>hq _ (h.pw z) ?_,fun i hi=>hq _ (h.pb i hi) ?_,h.inj,h.off⟩
 ·obtain ⟨a,cap,-,h0 | ⟨-,f,N,hr,-⟩⟩:=h.points
  ·exact absurd h0 z
  ·exact hr.lt
 ·obtain ⟨a,cap,-,h0 | ⟨-,f,N,hr,-⟩⟩:=h.ways
  ·exact absurd h0 z
  ·exact hr.lt
 ·obtain ⟨a,cap,-,h0 | ⟨-,f,N,hr,-,hf⟩⟩:=h.ways
  ·omega
  ·obtain ⟨y,hy⟩:∃ y,d.ways[i]? = some y:=⟨_,List.getElem?_eq_getElem hi⟩;exact (hf i y hy).2.2.1.lt
def HeldStep (w w':World) (bw N i:Nat) (f:Nat → Value) (b:Nat) (x:HeldD):Prop:=
 But (fun c=>c ≠ bw ∧ c ≠ b) w w' ∧ ∃ f' b',w'.rowIs bw 93 N f' ∧ HeldO w' f' i x b' ∧ (∀ q,q < N → q < i * 5 ∨ i * 5 + 5 ≤ q → f' q = f q) ∧ (b' = b ∨ w.heap.size ≤ b')
theorem OFrame.step {P Q:Nat → Prop} {w w':World} {v1 v2 v3:Value} {d:FrameD} {bo bp bw:Nat} {bb:Nat → Nat} (h:OFrame P w v1 v2 v3 d bo bp bw bb) {i:Nat} (hi:i < d.ways.length) {x:HeldD}
  (hs:∀ f N,w.rowIs bw 93 N f → d.ways.length * 5 ≤ N → (∀ y,d.ways[i]? = some y → HeldO w f i y (bb i)) → HeldStep w w' bw N i f (bb i) x) (hq:∀ b,P b → Q b) (hn:∀ b,w.heap.size ≤ b → b < w'.heap.size → Q b) :
  ∃ bb',OFrame Q w' v1 v2 v3 { d with ways:=d.ways.set i x } bo bp bw bb' ∧ But (fun c=>c ≠ bw ∧ c ≠ bb i) w w':=by
 obtain ⟨ho,hp,⟨a,cap,rfl,h0 | ⟨rfl,f,N,hr,hN,hf⟩⟩,po,pp,pw,pb,inj,off⟩:=h
 ·omega
 obtain ⟨e,f',b',hr',ho',hf',hb'⟩:=hs f N hr hN fun y hy=>hf i y hy
 have hlt:∀ j,j < d.ways.length → bb j < w.heap.size:=fun j hj=>by
  obtain ⟨y,hy⟩:∃ y,d.ways[j]? = some y:=⟨_,List.getElem?_eq_getElem hj⟩;exact (hf j y hy).2.2.1.lt
 have hbw:∀ j,j < d.ways.length → bb j ≠ bw:=fun j hj=>by
  obtain ⟨y,hy⟩:∃ y,d.ways[j]? = some y:=⟨_,List.getElem?_eq_getElem hj⟩;obtain ⟨-,-,⟨g,M,c,-,hg,-⟩,-⟩:=hf j y hy;exact zbb hg hr (by decide)
 have hbo:bo ≠ bw:=by
  obtain ⟨g,M,c,-,hg,-⟩:=ho;exact zbb hg hr (by decide)
 have hbl:=ho.lt
 have hb2:∀ j,j < d.ways.length → j ≠ i → bb j ≠ b':=fun j hj hji e2=>by
  rcases hb' with q | q
  ·exact hji (inj j i hj hi (e2.trans q))
  ·have:=hlt j hj; omega
 have hb3:b' ≠ bo:=fun e2=>by
  rcases hb' with q | q
  ·exact off i hi (q.symm.trans e2)
  ·omega
 refine ⟨fun j=>if j = i then b' else bb j,⟨ho.but e ⟨hbo,fun z=>off i hi z.symm⟩,hp.but e fun z=>?_,⟨_,_,by rw [List.length_set],.inr ⟨rfl,f',N,hr',by rw [List.length_set]; exact hN,fun j y hy=>?_⟩⟩,hq _ po,fun z=>hq _ (pp z),fun _=>hq _ (pw (by omega)),fun j hj=>?_,fun j k hj hk=>?_,fun j hj=>?_⟩,e⟩
 ·obtain ⟨a2,c2,-,q | ⟨-,g,M,hg,-⟩⟩:=hp
  ·exact absurd q z
  ·obtain ⟨y,hy⟩:∃ y,d.ways[i]? = some y:=⟨_,List.getElem?_eq_getElem hi⟩;obtain ⟨-,-,⟨g2,M2,c3,-,hg2,-⟩,-⟩:=hf i y hy;exact ⟨zbb hg hr (by decide),zbb hg hg2 (by decide)⟩
 ·by_cases e2:j = i
  ·subst e2;rw [List.getElem?_set_self hi] at hy
   cases hy
   simpa using ho'
  ·rw [List.getElem?_set_ne (Ne.symm e2)] at hy;have hj:=(List.getElem?_eq_some_iff.1 hy).1;obtain ⟨k0,k1,k2,k3,k4⟩:=hf j y hy;have hk:=k2.but e ⟨hbw j hj,fun z=>e2 (inj j i hj hi z)⟩;simp only [if_neg e2];have hx:∀ q,q < 5 → f' (j * 5 + q) = f (j * 5 + q):=fun q hq=>hf' _ (by omega) (by omega);have x0:f' (j * 5) = f (j * 5):=hx 0 (by omega);exact ⟨x0.trans k0,(hx 1 (by omega)).trans k1,by rw [hx 2 (by omega)]; exact hk,(hx 3 (by omega)).trans k3,(hx 4 (by omega)).trans k4⟩
 ·rw [List.length_set] at hj;by_cases e2:j = i
  ·simp only [e2,if_true];rcases hb' with q | q
   ·rw [q]; exact hq _ (pb i hi)
   ·exact hn _ q ho'.2.2.1.lt
  ·simp only [if_neg e2]; exact hq _ (pb j hj)
 ·rw [List.length_set] at hj hk
  by_cases e2:j = i <;> by_cases e3:k = i
  ·intro _; rw [e2,e3]
  ·simp only [e2,if_true,if_neg e3]; intro z; exact absurd z.symm (hb2 k hk e3)
  ·simp only [e3,if_true,if_neg e2]; intro z; exact absurd z (hb2 j hj e2)
  ·simp only [if_neg e2,if_neg e3]; exact inj j k hj hk
 ·rw [List.length_set] at hj;by_cases e2:j = i
  ·simp only [e2,if_true]; exact hb3
  ·simp only [if_neg e2]; exact off j hj
theorem zng {w:World} {b t u n m:Nat} {f g:Nat → Value} (h:w.rowIs b t n f) (k:w.rowIs b u m g):n = m ∧ ∀ j,j < n → f j = g j:=by
 obtain ⟨x,hx,hn,hf⟩:=h;obtain ⟨y,hy,hm,hg⟩:=k;rw [hx] at hy
 cases hy
 have e:n = m:=hn.symm.trans hm;exact ⟨e,fun j hj=>Option.some.inj ((hf j hj).symm.trans (hg j (by omega)))⟩
theorem HeldStep.from {w w':World} {bw N M i:Nat} {f g:Nat → Value} {b t:Nat} {x:HeldD} (h:HeldStep w w' bw N i f b x) (hf:w.rowIs bw t N f) (hg:w.rowIs bw t M g):HeldStep w w' bw M i g b x:=by
 obtain ⟨rfl,e⟩:=zng hf hg;obtain ⟨h1,f',b',h2,h3,h4,h5⟩:=h;exact ⟨h1,f',b',h2,h3,fun q hq hq2=>(h4 q hq hq2).trans (e q hq),h5⟩
theorem HeldO.state {w:World} {bw N i:Nat} {f:Nat → Value} {h:HeldD} {b:Nat} (ho:HeldO w f i h b) (hr:w.rowIs bw 93 N f) (s:Int) :
  HeldO (w.setCell ⟨bw,i * 5,none⟩ (.int .i64 s)) (fun j=>if j = i * 5 then .int .i64 s else f j) i { h with state:=s } b:=by
 obtain ⟨h0,h1,h2,h3,h4⟩:=ho;refine ⟨if_pos rfl,(if_neg (by omega)).trans h1,?_,(if_neg (by omega)).trans h3,(if_neg (by omega)).trans h4⟩;simp only [if_neg (show ¬ i * 5 + 2 = i * 5 by omega)];obtain ⟨g,M,cap,hv,hg,k⟩:=h2;exact ⟨g,M,cap,hv,hg.setOther (zbb hg hr (by decide)) _,k⟩
theorem HeldO.shown {w:World} {bw N i:Nat} {f:Nat → Value} {h:HeldD} {b:Nat} (ho:HeldO w f i h b) (hr:w.rowIs bw 93 N f) (s:Bool) :
  HeldO (w.setCell ⟨bw,i * 5 + 3,none⟩ (.bool s)) (fun j=>if j = i * 5 + 3 then .bool s else f j) i { h with shown:=s } b:=by
 obtain ⟨h0,h1,h2,h3,h4⟩:=ho;refine ⟨(if_neg (by omega)).trans h0,(if_neg (by omega)).trans h1,?_,if_pos rfl,(if_neg (by omega)).trans h4⟩;simp only [if_neg (show ¬ i * 5 + 2 = i * 5 + 3 by omega)];obtain ⟨g,M,cap,hv,hg,k⟩:=h2;exact ⟨g,M,cap,hv,hg.setOther (zbb hg hr (by decide)) _,k⟩
theorem HeldO.timer {w:World} {bw N i:Nat} {f:Nat → Value} {h:HeldD} {b:Nat} (ho:HeldO w f i h b) (hr:w.rowIs bw 93 N f) (s:Int) :
  HeldO (w.setCell ⟨bw,i * 5 + 4,none⟩ (.int .i64 s)) (fun j=>if j = i * 5 + 4 then .int .i64 s else f j) i { h with timer:=s } b:=by
 obtain ⟨h0,h1,h2,h3,h4⟩:=ho;refine ⟨(if_neg (by omega)).trans h0,(if_neg (by omega)).trans h1,?_,(if_neg (by omega)).trans h3,if_pos rfl⟩;simp only [if_neg (show ¬ i * 5 + 2 = i * 5 + 4 by omega)];obtain ⟨g,M,cap,hv,hg,k⟩:=h2;exact ⟨g,M,cap,hv,hg.setOther (zbb hg hr (by decide)) _,k⟩
theorem HeldStep.store {w:World} {bw N i b q:Nat} {f:Nat → Value} {h:HeldD} {u:Value} (hr:w.rowIs bw 93 N f) (hq:i * 5 ≤ q ∧ q < i * 5 + 5) (ho:HeldO (w.setCell ⟨bw,q,none⟩ u) (fun j=>if j = q then u else f j) i h b) :
  HeldStep w (w.setCell ⟨bw,q,none⟩ u) bw N i f b h:=
 ⟨(But.refl _ _).setCell (fun z=>z.1 rfl) _,_,b,hr.set q u,ho,fun j _ hj=>if_neg (by omega),.inl rfl⟩
theorem HeldStep.none {w w':World} {bw N i b:Nat} {f:Nat → Value} {h:HeldD} (hr:w.rowIs bw 93 N f) (ho:HeldO w f i h b) (hb:Below w.heap.size w w'):HeldStep w w' bw N i f b h:=
 ⟨But.of_calls hb,f,b,zah hr hb,ho.but (K:=fun _=>True) (But.of_calls hb) trivial,fun _ _ _=>rfl,.inl rfl⟩
end Go.Proofs.YtdhinkgjiapigabGreatDoor
namespace Go.Proofs.YtdhinkgjiapigabGreatDoor
open Go.RowKit Go.Deep
end Go.Proofs.YtdhinkgjiapigabGreatDoor
namespace Go.Proofs.YtdhinkgjiapigabGreatDoor
open Go.RowKit Go.Deep
end Go.Proofs.YtdhinkgjiapigabGreatDoor
namespace Go.Proofs.YtdhinkgjiapigabGreatDoor
open Go.RowKit Go.Deep
end Go.Proofs.YtdhinkgjiapigabGreatDoor
namespace Go.Proofs.YtdhinkgjiapigabGreatDoor
open Go.RowKit
end Go.Proofs.YtdhinkgjiapigabGreatDoor
namespace Go.Proofs.YtdhinkgjiapigabGreatDoor
open Go.RowKit
end Go.Proofs.YtdhinkgjiapigabGreatDoor
namespace Go.Proofs.YtdhinkgjiapigabGreatDoor
open Go.RowKit
end Go.Proofs.YtdhinkgjiapigabGreatDoor
namespace Go.Proofs.YtdhinkgjiapigabGreatDoor
open Go.RowKit
end Go.Proofs.YtdhinkgjiapigabGreatDoor
namespace Go.Proofs.YtdhinkgjiapigabGreatDoor
open Go.RowKit Go.Deep
theorem zci (w:World) (m:Nat):Below w.heap.size w (w.drewN m):=below_drewN (Below.refl _ _) m
end Go.Proofs.YtdhinkgjiapigabGreatDoor
namespace Go.Proofs.YtdhinkgjiapigabGreatDoor
open Go.RowKit Go.Deep
end Go.Proofs.YtdhinkgjiapigabGreatDoor
namespace Go.Proofs.YtdhinkgjiapigabGreatDoor
open Go.RowKit Go.Deep
theorem zkd {α:Type} (l:List α) {i:Nat} (h:i < l.length):∃ x,l[i]? = some x:=⟨l[i],List.getElem?_eq_getElem h⟩
end Go.Proofs.YtdhinkgjiapigabGreatDoor
namespace Go.Proofs.YtdhinkgjiapigabGreatDoor
open Go.RowKit Go.Deep
end Go.Proofs.YtdhinkgjiapigabGreatDoor
namespace Go.Proofs.YtdhinkgjiapigabGreatDoor
open Go.RowKit Go.Deep
end Go.Proofs.YtdhinkgjiapigabGreatDoor
namespace Go.Proofs.YtdhinkgjiapigabGreatDoor
open Go.RowKit Go.Deep
def m3 (k:Int):Bool:=k % 3 == 0
def zrl (k:Int) (n:Nat):List Bool:=(List.range n).map fun i:Nat=>m3 (k + i)
def zqx (k:Int) (x:HeldD):HeldD:=⟨k,k + 1,zrl (k + 1 + 1) x.been.length,m3 (k + 1 + 1 + x.been.length),k + 1 + 1 + x.been.length + 1⟩
def zr4 (l:List HeldD):Nat:=(l.map fun x=>4 + x.been.length).sum
def zr0 (k:Int) (l:List HeldD) (j:Nat):Int:=k + zr4 (l.take j)
def zie (k:Int) (l:List HeldD):List HeldD:=l.mapIdx fun i x=>zqx (zr0 k l i) x
theorem zjg (k:Int) (l:List HeldD):(zie k l).length = l.length:=by simp [zie]
theorem zm8 {k:Int} {l:List HeldD} {i:Nat} {x:HeldD} (h:l[i]? = some x):(zie k l)[i]? = some (zqx (zr0 k l i) x):=by simp [zie,h]
end Go.Proofs.YtdhinkgjiapigabGreatDoor
namespace Go.Proofs.YtdhinkgjiapigabGreatDoor
open Go.RowKit Go.Deep
def MarkR (P:Nat → Prop) (W0:World) (v1 v2 v3:Value) (d:FrameD) (k:Int) (bo bp bw:Nat) (i:Nat) (W:World):Prop:=
 ∃ (cur:List HeldD) (bb:Nat → Nat),cur.length = d.ways.length ∧ (∀ (j:Nat) h,j < i → d.ways[j]? = some h → cur[j]? = some (zqx (zr0 k d.ways j) h)) ∧ (∀ j:Nat,i ≤ j → cur[j]? = d.ways[j]?) ∧
  OFrame P W v1 v2 v3 { d with ways:=cur } bo bp bw bb ∧ But (fun c=>¬ P c) W0 W
theorem MarkR.end {P:Nat → Prop} {W0:World} {v1 v2 v3:Value} {d:FrameD} {k:Int} {bo bp bw:Nat} {n:Nat} {W:World} (h:MarkR P W0 v1 v2 v3 d k bo bp bw n W) (hn:n = d.ways.length) :
  ∃ bb,OFrame P W v1 v2 v3 { d with ways:=zie k d.ways } bo bp bw bb ∧ But (fun c=>¬ P c) W0 W:=by
 obtain ⟨cur,bb,h0,h1,-,hf,hb⟩:=h
 have:cur = zie k d.ways:=by
  apply List.ext_getElem?;intro j;by_cases hj:j < d.ways.length
  ·obtain ⟨x,hx⟩:=zkd d.ways hj;rw [h1 j x (by omega) hx,zm8 hx]
  ·rw [List.getElem?_eq_none (by omega),List.getElem?_eq_none (by rw [zjg]; omega)]
 rw [this] at hf;exact ⟨bb,hf,hb⟩
end Go.Proofs.YtdhinkgjiapigabGreatDoor
namespace Go.Proofs.YtdhinkgjiapigabGreatDoor
open Go.RowKit Go.Deep
def FrameM (B0:Nat) (w:World) (v1 v2 v3:Value) (d:FrameD):Prop:=
 (∃ bo bp bw bb,OFrame (fun c=>B0 ≤ c) w v1 v2 v3 d bo bp bw bb) ∨ (v1 = .slice none 0 0 ∧ v2 = .slice none 0 0 ∧ v3 = .slice none 0 0 ∧ d.occ = [] ∧ d.points = [] ∧ d.ways = [])
theorem FrameM.read {B0:Nat} {w:World} {v1 v2 v3:Value} {d:FrameD} (h:FrameM B0 w v1 v2 v3 d):FrameAt (In w) w v1 v2 v3 d:=by
 rcases h with ⟨bo,bp,bw,bb,h⟩ | ⟨rfl,rfl,rfl,e1,e2,e3⟩
 ·exact (h.bound (Q:=In w) fun c _ hc=>hc).read
 ·exact ⟨⟨_,_,by rw [e1]; rfl,.inl (by rw [e1]; rfl)⟩,⟨_,_,by rw [e2]; rfl,.inl (by rw [e2]; rfl)⟩,⟨_,_,by rw [e3]; rfl,.inl (by rw [e3]; rfl)⟩⟩
theorem FrameM.but {B0 B1:Nat} {w w':World} {v1 v2 v3:Value} {d:FrameD} (h:FrameM B0 w v1 v2 v3 d) (e:But (fun c=>B0 ≤ c) w w') (hB:B1 ≤ B0):FrameM B1 w' v1 v2 v3 d:=by
 rcases h with ⟨bo,bp,bw,bb,h⟩ | h
 ·exact .inl ⟨bo,bp,bw,bb,h.but e (fun _ z=>z) fun _ z=>Nat.le_trans hB z⟩
 ·exact .inr h
theorem FrameM.call {B0:Nat} {w w':World} {v1 v2 v3:Value} {d:FrameD} (h:FrameM B0 w v1 v2 v3 d) (e:Below w.heap.size w w'):FrameM B0 w' v1 v2 v3 d:=h.but (But.of_calls e) (Nat.le_refl _)
theorem FrameM.slices {B0:Nat} {w:World} {v1 v2 v3:Value} {d:FrameD} (h:FrameM B0 w v1 v2 v3 d):∃ a1 c1 a2 c2 a3 c3,v1 = .slice a1 d.occ.length c1 ∧ v2 = .slice a2 d.points.length c2 ∧ v3 = .slice a3 d.ways.length c3:=by
 obtain ⟨⟨a1,c1,e1,-⟩,⟨a2,c2,e2,-⟩,⟨a3,c3,e3,-⟩⟩:=h.read;exact ⟨a1,c1,a2,c2,a3,c3,e1,e2,e3⟩
end Go.Proofs.YtdhinkgjiapigabGreatDoor
namespace Go.Proofs.YtdhinkgjiapigabGreatDoor
open Go.RowKit Go.Deep
theorem zdn {w:World} {b t t' n n':Nat} {f f':Nat → Value} (h:w.rowIs b t n f) (g:w.rowIs b t' n' f'):t = t':=by
 obtain ⟨x,hx,-⟩:=h;obtain ⟨y,hy,-⟩:=g;rw [hx] at hy
 cases hy
 rfl
theorem OBools.row {w:World} {v:Value} {l:List Bool} {b:Nat} (h:OBools w v l b):∃ N f,w.rowIs b 4 N f:=by
 obtain ⟨f,N,c,-,hr,-⟩:=h;exact ⟨N,f,hr⟩
theorem OHelds.been {w:World} {v:Value} {l:List HeldD} {bw:Nat} {bb:Nat → Nat} (h:OHelds w v l bw bb) {i:Nat} (hi:i < l.length):∃ N f,w.rowIs (bb i) 4 N f:=by
 obtain ⟨a,cap,-,h0 | ⟨-,f,N,hr,-,hf⟩⟩:=h
 ·omega
 ·obtain ⟨y,hy⟩:=zkd l hi;exact (hf i y hy).2.2.1.row
theorem OHelds.row {w:World} {v:Value} {l:List HeldD} {bw:Nat} {bb:Nat → Nat} (h:OHelds w v l bw bb) (hi:l.length ≠ 0):∃ N f,w.rowIs bw 93 N f:=by
 obtain ⟨a,cap,-,h0 | ⟨-,f,N,hr,-⟩⟩:=h
 ·omega
 ·exact ⟨N,f,hr⟩
theorem OPoints.row {w:World} {v:Value} {l:List (Int × Int)} {b:Nat} (h:OPoints w v l b) (hi:l.length ≠ 0):∃ N f,w.rowIs b 90 N f:=by
 obtain ⟨a,cap,-,h0 | ⟨-,f,N,hr,-⟩⟩:=h
 ·omega
 ·exact ⟨N,f,hr⟩
theorem OFrame.setOcc {P:Nat → Prop} {w w':World} {v1 v2 v3:Value} {d:FrameD} {bo bp bw:Nat} {bb:Nat → Nat} {l:List Bool} (h:OFrame P w v1 v2 v3 d bo bp bw bb) (hb:But (fun c=>c ≠ bo) w w') (ho:OBools w' v1 l bo):OFrame P w' v1 v2 v3 { d with occ:=l } bo bp bw bb:=by
 obtain ⟨No,fo,hro⟩:=h.occ.row;refine ⟨ho,h.points.but hb fun z e=>?_,h.ways.but hb (fun z e=>?_) fun i hi=>h.off i hi,h.po,h.pp,h.pw,h.pb,h.inj,h.off⟩
 ·obtain ⟨N,f,hr⟩:=h.points.row z;rw [e] at hr;exact absurd (zdn hr hro) (by decide)
 ·obtain ⟨N,f,hr⟩:=h.ways.row z;rw [e] at hr;exact absurd (zdn hr hro) (by decide)
theorem OFrame.setPoints {P:Nat → Prop} {w w':World} {v1 v2 v3:Value} {d:FrameD} {bo bp bw:Nat} {bb:Nat → Nat} {l:List (Int × Int)} (h:OFrame P w v1 v2 v3 d bo bp bw bb) (h1:bp ≠ bo) (h2:d.ways.length ≠ 0 → bp ≠ bw) (h3:∀ i,i < d.ways.length → bp ≠ bb i) (hb:But (fun c=>c ≠ bp) w w') (hp:OPoints w' v2 l bp) (hl:l.length = d.points.length):OFrame P w' v1 v2 v3 { d with points:=l } bo bp bw bb:=
 ⟨h.occ.but hb (Ne.symm h1),hp,h.ways.but hb (fun z=>Ne.symm (h2 z)) fun i hi=>Ne.symm (h3 i hi),h.po,fun z=>h.pp (by rw [← hl]; exact z),h.pw,h.pb,h.inj,h.off⟩
end Go.Proofs.YtdhinkgjiapigabGreatDoor

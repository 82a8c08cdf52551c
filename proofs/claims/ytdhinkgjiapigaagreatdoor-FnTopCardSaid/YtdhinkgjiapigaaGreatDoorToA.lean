import Derived.Test.YtdhinkgjiapigaaGreatDoorProg
import Derived.Test.YtdhinkgjiapigaaGreatDoorBase
import Derived.BigQuiet
import Derived.Deep.RegionWith
namespace Go.Proofs.YtdhinkgjiapigaaGreatDoor
open Go.RowKit
section
open Go.Deep
theorem Tryz.dA:(Tryz.prog.info? 3).map (fun i=>(i.zero,i.size,i.bytes))=some (some (.int .i64 0),1,8):=by kernel_rfl
theorem Tryz.bZ:(Tryz.prog.info? 4).map (fun i=>(i.zero,i.size,i.bytes))=some (some (.bool false),1,1):=by kernel_rfl
theorem Tryz.fX:(Tryz.prog.info? 58).map (fun i=>(i.zero,i.size,i.bytes))=some (some (.agg #[.int .i64 0,.int .i64 0]),2,16):=by kernel_rfl
theorem eV {w w':World}{b t n:Nat}{f:Nat->Value}(h:w.rowIs b t n f) (a:Below w.heap.size w w'):w'.rowIs b t n f:=h.of_block (a.block b h.lt)
theorem dH (u:World) (t:TypeId) (c:Array Value):(u.alloc (.cells c t)).rowIs u.heap.size t c.size (fun i=>c[i]!):=
 World.rowIs_alloc u c t _ fun i hi=>by rw[getElem!_pos _ i hi]; exact Array.getElem?_eq_getElem hi
def dE (b0 b1 b2 b3 b4:Value):Nat->Value:=fun i=>(#[b0,b1,b2,b3,b4]:Array Value)[i]!
structure jD (w:World) (t:TypeId) (f:Nat->Value) (W:World):Prop where
 below:Below w.heap.size w W
 one:W.rowIs w.heap.size t 5 f
theorem jD.call {w:World}{t:TypeId}{f:Nat->Value}{W W':World}(h:jD w t f W) (a:Below W.heap.size W W'):jD w t f W':=
 ⟨h.below.trans (a.mono h.below.size),eV h.one a⟩
theorem jD.start (w:World) (t:TypeId) (a b c d e:Value):jD w t (dE a b c d e) (w.alloc (.cells #[a,b,c,d,e] t)):=
 ⟨(Below.refl _ _).alloc (Nat.le_refl _) _,dH _ _ _⟩
theorem jD.cells {w:World}{t:TypeId}{a b c d e:Value}{W:World}(h:jD w t (dE a b c d e) W) :
  W.cell? ⟨w.heap.size,0,none⟩=some a∧W.cell? ⟨w.heap.size,1,none⟩=some b∧W.cell? ⟨w.heap.size,2,none⟩=some c∧W.cell? ⟨w.heap.size,3,none⟩=some d∧W.cell? ⟨w.heap.size,4,none⟩=some e:=
 ⟨by simpa [dE] using h.one.cell (i:=0) (by omega),by simpa [dE] using h.one.cell (i:=1) (by omega),by simpa [dE] using h.one.cell (i:=2) (by omega),by simpa [dE] using h.one.cell (i:=3) (by omega),by simpa [dE] using h.one.cell (i:=4) (by omega)⟩
structure lL (w:World) (t u:TypeId) (f g:Nat->Value) (W:World):Prop where
 below:Below w.heap.size w W
 one:W.rowIs w.heap.size t 5 f
 two:W.rowIs (w.heap.size+1) u 5 g
theorem lL.call {w:World}{t u:TypeId}{f g:Nat->Value}{W W':World}(h:lL w t u f g W) (a:Below W.heap.size W W'):lL w t u f g W':=
 ⟨h.below.trans (a.mono h.below.size),eV h.one a,eV h.two a⟩
theorem lL.start (w:World) (t u:TypeId) (a b c d e f g h i j:Value) :
  lL w t u (dE a b c d e) (dE f g h i j) ((w.alloc (.cells #[a,b,c,d,e] t)).alloc (.cells #[f,g,h,i,j] u)):=by
 refine⟨(((Below.refl _ _).alloc (Nat.le_refl _) _).alloc (by simp) _),(dH _ _ _).alloc _,?_⟩;have:=dH (w.alloc (.cells #[a,b,c,d,e] t)) u #[f,g,h,i,j];rw[show (w.alloc (.cells #[a,b,c,d,e] t)).heap.size=w.heap.size+1 by simp] at this;exact this
theorem lL.cells {w:World}{t u:TypeId}{a b c d e f g j k l:Value}{W:World}(h:lL w t u (dE a b c d e) (dE f g j k l) W) :
  (W.cell? ⟨w.heap.size,0,none⟩=some a∧W.cell? ⟨w.heap.size,1,none⟩=some b∧W.cell? ⟨w.heap.size,2,none⟩=some c∧W.cell? ⟨w.heap.size,3,none⟩=some d∧W.cell? ⟨w.heap.size,4,none⟩=some e) ∧
  (W.cell? ⟨w.heap.size+1,0,none⟩=some f∧W.cell? ⟨w.heap.size+1,1,none⟩=some g∧W.cell? ⟨w.heap.size+1,2,none⟩=some j∧W.cell? ⟨w.heap.size+1,3,none⟩=some k∧W.cell? ⟨w.heap.size+1,4,none⟩=some l):=
 ⟨⟨by simpa [dE] using h.one.cell (i:=0) (by omega),by simpa [dE] using h.one.cell (i:=1) (by omega),by simpa [dE] using h.one.cell (i:=2) (by omega),by simpa [dE] using h.one.cell (i:=3) (by omega),by simpa [dE] using h.one.cell (i:=4) (by omega)⟩,
  ⟨by simpa [dE] using h.two.cell (i:=0) (by omega),by simpa [dE] using h.two.cell (i:=1) (by omega),by simpa [dE] using h.two.cell (i:=2) (by omega),by simpa [dE] using h.two.cell (i:=3) (by omega),by simpa [dE] using h.two.cell (i:=4) (by omega)⟩⟩
theorem bC (w:World) (o:Obj):Below w.heap.size w (w.alloc o):=(Below.refl _ _).alloc (Nat.le_refl _) _
theorem cT (w:World):Below w.heap.size w w.drew:=(Below.refl _ _).drew
theorem Tryz.fY:(Tryz.prog.info? 46).map (fun i=>(i.zero,i.size,i.bytes))=some (some (.agg #[.int .i64 0,.int .i64 0]),2,16):=by kernel_rfl
theorem Tryz.gU:(Tryz.prog.info? 44).map (fun i=>(i.zero,i.size,i.bytes))=some (some (.agg #[.int .i64 0,.int .i64 0,.slice none 0 0,.bool false,.int .i64 0]),5,56):=by kernel_rfl
end
structure Ext (W:World) where
 w:World
 below:Below W.heap.size W w
theorem gQ {P:Program}{id:Nat}{Q:Exit->Act->World->Prop}{a:Act}{w:World}{l:List Oper}(c:P.follows .mixedOrders=true) (b:Region.lexB .any l.toArray=true)
  (h:wpQuiet P l.toArray (fun w'=>∃n:Ext w,w'=n.w) (fun a'=>∀w',(∃n:Ext w,w'=n.w)->Q .normal a' w') l a):(Code.region id l.toArray true).wp P Q a w:=
 wp_region_quiet (C:=fun w'=>∃n:Ext w,w'=n.w) c b ⟨⟨w.drew,(Below.refl _ _).drew⟩,rfl⟩ (by simpa using h)
theorem eO {P:Program}{f:FuncId}{args:Array Value}{W:World}{n:Ext W}{v:Value}
  (h:Calls P f args n.w fun e w'=>e=.returned v∧Below n.w.heap.size n.w w'):Calls P f args n.w fun e w''=>e=.returned v∧∃m:Ext W,w''=m.w:=
 h.mono fun _ w' ⟨he,hb⟩=>⟨he,⟨w',n.below.trans (hb.mono n.below.size)⟩,rfl⟩
theorem Ext.any (W:World):Nonempty (Ext W):=⟨⟨W,Below.refl _ _⟩⟩
theorem Ext.cell {W:World}{b o:Nat}{v:Value}(h:W.cell? ⟨b,o,none⟩=some v) (n:Ext W):n.w.cell? ⟨b,o,none⟩=some v:=
 (n.below.cell (p:=⟨b,o,none⟩) (World.block_lt_of_cell? _ _ h)).trans h
section
open Go.Deep
structure But (K:Nat->Prop) (w w':World):Prop where
 os:w'.os=w.os
 tape:w'.tape=w.tape
 output:w'.output=w.output
 size:w.heap.size<=w'.heap.size
 block:∀b,b<w.heap.size->K b->w'.heap[b]?=w.heap[b]?
theorem But.refl (K:Nat->Prop) (w:World):But K w w:=⟨rfl,rfl,rfl,Nat.le_refl _,fun _ _ _=>rfl⟩
theorem But.trans {K:Nat->Prop}{a b c:World}(h:But K a b) (k:But K b c):But K a c:=
 ⟨k.os.trans h.os,k.tape.trans h.tape,k.output.trans h.output,Nat.le_trans h.size k.size,fun x e d=>(k.block x (Nat.lt_of_lt_of_le e h.size) d).trans (h.block x e d)⟩
theorem But.mono {K L:Nat->Prop}{a b:World}(h:But K a b) (e:∀x,x<a.heap.size->L x->K x):But L a b:=⟨h.os,h.tape,h.output,h.size,fun x c d=>h.block x c (e x c d)⟩
theorem But.of_below {K:Nat->Prop}{B:Nat}{a b:World}(h:Below B a b) (c:∀x,x<a.heap.size->K x->x<B):But K a b:=⟨h.os,h.tape,h.output,h.size,fun x e d=>h.block x (c x e d)⟩
theorem But.aG {K:Nat->Prop}{a b:World}(h:Below a.heap.size a b):But K a b:=But.of_below h fun _ c _=>c
theorem But.call {K:Nat->Prop}{a b c:World}(h:But K a b) (k:Below b.heap.size b c):But K a c:=h.trans (But.aG k)
theorem But.below {K:Nat->Prop}{B:Nat}{a b:World}(h:But K a b) (e:B<=a.heap.size) (c:∀x,x<B->K x):Below B a b:=⟨h.os,h.tape,h.output,h.size,fun x d=>h.block x (by omega) (c x d)⟩
theorem But.alloc {K:Nat->Prop}{a w:World}(h:But K a w) (o:Obj):But K a (w.alloc o):=h.call ((Below.refl _ _).alloc (Nat.le_refl _) _)
theorem But.setCell {K:Nat->Prop}{a w:World}(h:But K a w) {p:Addr}(c:¬K p.block) (u:Value):But K a (w.setCell p u):=
 h.trans ⟨rfl,rfl,rfl,by simp[World.setCell],fun x _ b=>Below.heap_setCell _ _ _ _ fun e=>c (e ▸ b)⟩
theorem But.cN {K:Nat->Prop}{a w:World}(h:But K a w) {p:Addr}(d:a.heap.size<=p.block) (u:Value):But K a (w.setCell p u):=
 ⟨h.os,h.tape,h.output,by simpa [World.setCell] using h.size,fun x c b=>by rw[Below.heap_setCell _ _ _ _ (by omega)]; exact h.block x c b⟩
theorem But.same {K P:Nat->Prop}{w w':World}(h:But K w w') (a:∀b,P b->b<w.heap.size∧K b):Same P w w':=
 fun b c _o=>World.cell?_of_block (w:=w) (h.block b (a b c).1 (a b c).2)
theorem But.row {K:Nat->Prop}{w w':World}{b t n:Nat}{f:Nat->Value}(h:But K w w') (a:w.rowIs b t n f) (c:K b):w'.rowIs b t n f:=a.of_block (h.block b a.lt c)
theorem But.cell {K:Nat->Prop}{w w':World}{b o:Nat}{v:Value}(h:But K w w') (a:w.cell? ⟨b,o,none⟩=some v) (c:K b):w'.cell? ⟨b,o,none⟩=some v:=
 (World.cell?_of_block (w:=w) (h.block b (World.block_lt_of_cell? _ _ a) c)).trans a
theorem iU {w:World}{b c t u n m:Nat}{f g:Nat->Value}(h:w.rowIs b t n f) (k:w.rowIs c u m g) (d:t≠u):b≠c:=by
 rintro rfl;obtain⟨x,e,-⟩:=h;obtain⟨y,a,-⟩:=k;rw[e] at a
 cases a
 exact d rfl
def aV (w:World) (v:Value) (l:List Bool) (b:Nat):Prop:=
 ∃f N cap,v=.slice (some ⟨b,0,none⟩) l.length cap∧w.rowIs b 4 N f∧l.length<=N∧∀(i:Nat) x,l[i]?=some x->f i=.bool x
def bH (w:World) (v:Value) (l:List (Int×Int)) (b:Nat):Prop:=
 ∃a cap,v=.slice a l.length cap∧(l.length=0∨a=some ⟨b,0,none⟩∧∃f N,w.rowIs b 46 N f∧l.length*2<=N∧∀(i:Nat) x,l[i]?=some x->f (i*2)=.int .i64 x.1∧f (i*2+1)=.int .i64 x.2)
def cB (w:World) (f:Nat->Value) (i:Nat) (x:aM) (b:Nat):Prop:=
 f (i*5)=.int .i64 x.state∧f (i*5+1)=.int .i64 x.gone∧aV w (f (i*5+2)) x.aL b∧f (i*5+3)=.bool x.aR∧f (i*5+4)=.int .i64 x.aN
def dK (w:World) (v:Value) (l:List aM) (bw:Nat) (bb:Nat->Nat):Prop:=
 ∃a cap,v=.slice a l.length cap∧(l.length=0∨a=some ⟨bw,0,none⟩∧∃f N,w.rowIs bw 44 N f∧l.length*5<=N∧∀(i:Nat) x,l[i]?=some x->cB w f i x (bb i))
theorem aV.lt {w:World}{v:Value}{l:List Bool}{b:Nat}(h:aV w v l b):b<w.heap.size:=by
 obtain⟨f,N,a,-,c,-⟩:=h; exact c.lt
theorem aV.of_block {w w':World}{v:Value}{l:List Bool}{b:Nat}(h:aV w v l b) (e:w'.heap[b]?=w.heap[b]?):aV w' v l b:=by
 obtain⟨f,N,a,d,c,k⟩:=h; exact⟨f,N,a,d,c.of_block e,k⟩
theorem aV.but {K:Nat->Prop}{w w':World}{v:Value}{l:List Bool}{b:Nat}(h:aV w v l b) (e:But K w w') (a:K b):aV w' v l b:=h.of_block (e.block b h.lt a)
theorem aV.read {P:Nat->Prop}{w:World}{v:Value}{l:List Bool}{b:Nat}(h:aV w v l b) (c:P b):Bools P w v l:=by
 obtain⟨f,N,a,rfl,e,j,d⟩:=h;exact⟨_,_,rfl,.inr ⟨b,0,rfl,c,fun i hi x g=>by rw[Nat.zero_add,e.cell (by omega),d i x g]⟩⟩
theorem bH.read {P:Nat->Prop}{w:World}{v:Value}{l:List (Int×Int)}{b:Nat}(h:bH w v l b) (m:l.length≠0->P b):Lies P w v l:=by
 obtain⟨a,j,rfl,k | ⟨rfl,f,N,d,n,c⟩⟩:=h
 ·exact⟨_,_,rfl,.inl k⟩
 ·rcases Nat.eq_zero_or_pos l.length with e | e
  ·exact⟨_,_,rfl,.inl e⟩
  refine⟨_,_,rfl,.inr ⟨b,0,rfl,m (by omega),fun i hi x g=>?_⟩⟩;rw[Nat.zero_add,d.cell (by omega),d.cell (by omega),(c i x g).1,(c i x g).2];exact⟨rfl,rfl⟩
theorem bH.but {K:Nat->Prop}{w w':World}{v:Value}{l:List (Int×Int)}{b:Nat}(h:bH w v l b) (e:But K w w') (j:l.length≠0->K b):bH w' v l b:=by
 obtain⟨a,c,rfl,d | ⟨rfl,f,N,k,g,i⟩⟩:=h
 ·exact⟨_,_,rfl,.inl d⟩
 ·rcases Nat.eq_zero_or_pos l.length with q | q
  ·exact⟨_,_,rfl,.inl q⟩
  exact⟨_,_,rfl,.inr ⟨rfl,f,N,e.row k (j (by omega)),g,i⟩⟩
theorem cB.but {K:Nat->Prop}{w w':World}{f:Nat->Value}{i:Nat}{x:aM}{b:Nat}(h:cB w f i x b) (e:But K w w') (a:K b):cB w' f i x b:=⟨h.1,h.2.1,h.2.2.1.but e a,h.2.2.2⟩
theorem dK.but {K:Nat->Prop}{w w':World}{v:Value}{l:List aM}{b:Nat}{bb:Nat->Nat}(h:dK w v l b bb) (e:But K w w') (n:l.length≠0->K b) (k:∀i,i<l.length->K (bb i)):dK w' v l b bb:=by
 obtain⟨a,d,rfl,g | ⟨rfl,f,N,o,j,m⟩⟩:=h
 ·exact⟨_,_,rfl,.inl g⟩
 ·rcases Nat.eq_zero_or_pos l.length with q | q
  ·exact⟨_,_,rfl,.inl q⟩
  exact⟨_,_,rfl,.inr ⟨rfl,f,N,e.row o (n (by omega)),j,fun i x c=>(m i x c).but e (k i (List.getElem?_eq_some_iff.1 c).1)⟩⟩
theorem dK.read {P:Nat->Prop}{w:World}{v:Value}{l:List aM}{c:Nat}{bb:Nat->Nat}(h:dK w v l c bb) (p:l.length≠0->P c) (n:∀i,i<l.length->P (bb i)):dF P w v l:=by
 obtain⟨a,e,rfl,d | ⟨rfl,f,N,b,s,o⟩⟩:=h
 ·exact⟨_,_,rfl,.inl d⟩
 ·rcases Nat.eq_zero_or_pos l.length with q | q
  ·exact⟨_,_,rfl,.inl q⟩
  refine⟨_,_,rfl,.inr ⟨c,0,rfl,p (by omega),fun i hi x r=>?_⟩⟩;obtain⟨d,g,j,k,m⟩:=o i x r;rw[Nat.zero_add,b.cell (by omega),b.cell (by omega),b.cell (by omega),b.cell (by omega),b.cell (by omega),d,g,k,m];exact⟨_,j.read (n i hi),rfl,rfl,rfl,rfl,rfl⟩
structure aP (P:Nat->Prop) (w:World) (v1 v2 v3:Value) (d:aF) (bo bp bw:Nat) (bb:Nat->Nat):Prop where
 aH:aV w v1 d.aH bo
 aC:bH w v2 d.aC bp
 aB:dK w v3 d.aB bw bb
 po:P bo
 pp:d.aC.length≠0->P bp
 pw:d.aB.length≠0->P bw
 pb:∀i,i<d.aB.length->P (bb i)
 inj:∀i j,i<d.aB.length->j<d.aB.length->bb i=bb j->i=j
 off:∀i,i<d.aB.length->bb i≠bo
theorem aP.read {P:Nat->Prop}{w:World}{v1 v2 v3:Value}{d:aF}{a b c:Nat}{bb:Nat->Nat}(h:aP P w v1 v2 v3 d a b c bb):bB P w v1 v2 v3 d:=
 ⟨h.aH.read h.po,h.aC.read h.pp,h.aB.read h.pw h.pb⟩
theorem aP.but {P Q K:Nat->Prop}{w w':World}{v1 v2 v3:Value}{d:aF}{f g j:Nat}{bb:Nat->Nat}(h:aP P w v1 v2 v3 d f g j bb) (e:But K w w') (a:∀b,P b->K b) (c:∀b,P b->Q b):aP Q w' v1 v2 v3 d f g j bb:=
 ⟨h.aH.but e (a _ h.po),h.aC.but e fun z=>a _ (h.pp z),h.aB.but e (fun z=>a _ (h.pw z)) fun i hi=>a _ (h.pb i hi),c _ h.po,fun z=>c _ (h.pp z),fun z=>c _ (h.pw z),fun i hi=>c _ (h.pb i hi),h.inj,h.off⟩
theorem aP.bound {P Q:Nat->Prop}{w:World}{v1 v2 v3:Value}{d:aF}{k l m:Nat}{bb:Nat->Nat}(h:aP P w v1 v2 v3 d k l m bb) (g:∀c,P c->c<w.heap.size->Q c):aP Q w v1 v2 v3 d k l m bb:=by
 refine⟨h.aH,h.aC,h.aB,g _ h.po h.aH.lt,fun z=>g _ (h.pp z) ?_,fun z=>g _ (h.pw z) ?_,fun i hi=>g _ (h.pb i hi) ?_,h.inj,h.off⟩
 ·obtain⟨a,b,-,e | ⟨-,f,N,j,-⟩⟩:=h.aC
  ·exact absurd e z
  ·exact j.lt
 ·obtain⟨a,b,-,e | ⟨-,f,N,j,-⟩⟩:=h.aB
  ·exact absurd e z
  ·exact j.lt
 ·obtain⟨a,b,-,e | ⟨-,f,N,j,-,n⟩⟩:=h.aB
  ·omega
  ·obtain⟨y,o⟩:∃y,d.aB[i]?=some y:=⟨_,List.getElem?_eq_getElem hi⟩;exact (n i y o).2.2.1.lt
def aX (w w':World) (bw N i:Nat) (f:Nat->Value) (b:Nat) (x:aM):Prop:=
 But (fun c=>c≠bw∧c≠b) w w'∧∃f' b',w'.rowIs bw 44 N f'∧cB w' f' i x b'∧(∀q,q<N->q<i*5∨i*5+5<=q->f' q=f q)∧(b'=b∨w.heap.size<=b')
theorem aP.step {P Q:Nat->Prop}{w w':World}{v1 v2 v3:Value}{d:aF}{D T o:Nat}{bb:Nat->Nat}(h:aP P w v1 v2 v3 d D T o bb) {i:Nat}(hi:i<d.aB.length) {x:aM}
  (Z:∀f N,w.rowIs o 44 N f->d.aB.length*5<=N->(∀y,d.aB[i]?=some y->cB w f i y (bb i))->aX w w' o N i f (bb i) x) (s:∀b,P b->Q b) (Y:∀b,w.heap.size<=b->b<w'.heap.size->Q b) :
  ∃bb',aP Q w' v1 v2 v3 { d with aB:=d.aB.set i x } D T o bb'∧But (fun c=>c≠o∧c≠bb i) w w':=by
 obtain⟨R,V,⟨a,W,rfl,h0 | ⟨rfl,f,N,E,U,v⟩⟩,po,pp,pw,pb,inj,off⟩:=h
 ·omega
 obtain⟨e,F,b',S,B,J,p⟩:=Z f N E U fun y n=>v i y n
 have O:∀j,j<d.aB.length->bb j<w.heap.size:=fun j m=>by
  obtain⟨y,n⟩:∃y,d.aB[j]?=some y:=⟨_,List.getElem?_eq_getElem m⟩;exact (v j y n).2.2.1.lt
 have I:∀j,j<d.aB.length->bb j≠o:=fun j m=>by
  obtain⟨y,n⟩:∃y,d.aB[j]?=some y:=⟨_,List.getElem?_eq_getElem m⟩;obtain⟨-,-,⟨g,M,c,-,r,-⟩,-⟩:=v j y n;exact iU r E (by decide)
 have H:D≠o:=by
  obtain⟨g,M,c,-,r,-⟩:=R;exact iU r E (by decide)
 have X:=R.lt
 have u:∀j,j<d.aB.length->j≠i->bb j≠b':=fun j m L l=>by
  rcases p with q | q
  ·exact L (inj j i m hi (l.trans q))
  ·have:=O j m; omega
 have G:b'≠D:=fun l=>by
  rcases p with q | q
  ·exact off i hi (q.symm.trans l)
  ·omega
 refine⟨fun j=>if j=i then b' else bb j,⟨R.but e ⟨H,fun z=>off i hi z.symm⟩,V.but e fun z=>?_,⟨_,_,by rw[List.length_set],.inr ⟨rfl,F,N,S,by rw[List.length_set]; exact U,fun j y n=>?_⟩⟩,s _ po,fun z=>s _ (pp z),fun _=>s _ (pw (by omega)),fun j m=>?_,fun j k m A=>?_,fun j m=>?_⟩,e⟩
 ·obtain⟨a2,c2,-,q | ⟨-,g,M,r,-⟩⟩:=V
  ·exact absurd q z
  ·obtain⟨y,n⟩:∃y,d.aB[i]?=some y:=⟨_,List.getElem?_eq_getElem hi⟩;obtain⟨-,-,⟨g2,M2,c3,-,K,-⟩,-⟩:=v i y n;exact⟨iU r E (by decide),iU r K (by decide)⟩
 ·by_cases l:j=i
  ·subst l;rw[List.getElem?_set_self hi] at n
   cases n
   simpa using B
  ·rw[List.getElem?_set_ne (Ne.symm l)] at n;have m:=(List.getElem?_eq_some_iff.1 n).1;obtain⟨k0,k1,k2,k3,k4⟩:=v j y n;have A:=k2.but e ⟨I j m,fun z=>l (inj j i m hi z)⟩;simp only[if_neg l];have C:∀q,q<5->F (j*5+q)=f (j*5+q):=fun q s=>J _ (by omega) (by omega);have x0:F (j*5)=f (j*5):=C 0 (by omega);exact⟨x0.trans k0,(C 1 (by omega)).trans k1,by rw[C 2 (by omega)]; exact A,(C 3 (by omega)).trans k3,(C 4 (by omega)).trans k4⟩
 ·rw[List.length_set] at m;by_cases l:j=i
  ·simp only[l,if_true];rcases p with q | q
   ·rw[q]; exact s _ (pb i hi)
   ·exact Y _ q B.2.2.1.lt
  ·simp only[if_neg l]; exact s _ (pb j m)
 ·rw[List.length_set] at m A
  by_cases l:j=i <;> by_cases t:k=i
  ·intro _; rw[l,t]
  ·simp only[l,if_true,if_neg t]; intro z; exact absurd z.symm (u k A t)
  ·simp only[t,if_true,if_neg l]; intro z; exact absurd z (u j m l)
  ·simp only[if_neg l,if_neg t]; exact inj j k m A
 ·rw[List.length_set] at m;by_cases l:j=i
  ·simp only[l,if_true]; exact G
  ·simp only[if_neg l]; exact off j m
theorem Hj {w:World}{b t u n m:Nat}{f g:Nat->Value}(h:w.rowIs b t n f) (k:w.rowIs b u m g):n=m∧∀j,j<n->f j=g j:=by
 obtain⟨x,p,o,c⟩:=h;obtain⟨y,a,l,d⟩:=k;rw[p] at a
 cases a
 have e:n=m:=o.symm.trans l;exact⟨e,fun j i=>Option.some.inj ((c j i).symm.trans (d j (by omega)))⟩
theorem aX.from {w w':World}{a N M i:Nat}{f g:Nat->Value}{b t:Nat}{x:aM}(h:aX w w' a N i f b x) (p:w.rowIs a t N f) (r:w.rowIs a t M g):aX w w' a M i g b x:=by
 obtain⟨rfl,e⟩:=Hj p r;obtain⟨k,j,b',l,m,n,o⟩:=h;exact⟨k,j,b',l,m,fun q d c=>(n q d c).trans (e q d),o⟩
theorem cB.state {w:World}{c N i:Nat}{f:Nat->Value}{h:aM}{b:Nat}(o:cB w f i h b) (p:w.rowIs c 44 N f) (s:Int) :
  cB (w.setCell ⟨c,i*5,none⟩ (.int .i64 s)) (fun j=>if j=i*5 then .int .i64 s else f j) i { h with state:=s } b:=by
 obtain⟨r,e,l,m,n⟩:=o;refine⟨if_pos rfl,(if_neg (by omega)).trans e,?_,(if_neg (by omega)).trans m,(if_neg (by omega)).trans n⟩;simp only[if_neg (show ¬i*5+2=i*5 by omega)];obtain⟨g,M,a,q,d,k⟩:=l;exact⟨g,M,a,q,d.setOther (iU d p (by decide)) _,k⟩
theorem cB.aR {w:World}{c N i:Nat}{f:Nat->Value}{h:aM}{b:Nat}(o:cB w f i h b) (p:w.rowIs c 44 N f) (s:Bool) :
  cB (w.setCell ⟨c,i*5+3,none⟩ (.bool s)) (fun j=>if j=i*5+3 then .bool s else f j) i { h with aR:=s } b:=by
 obtain⟨e,l,m,r,n⟩:=o;refine⟨(if_neg (by omega)).trans e,(if_neg (by omega)).trans l,?_,if_pos rfl,(if_neg (by omega)).trans n⟩;simp only[if_neg (show ¬i*5+2=i*5+3 by omega)];obtain⟨g,M,a,q,d,k⟩:=m;exact⟨g,M,a,q,d.setOther (iU d p (by decide)) _,k⟩
theorem cB.aN {w:World}{c N i:Nat}{f:Nat->Value}{h:aM}{b:Nat}(o:cB w f i h b) (p:w.rowIs c 44 N f) (s:Int) :
  cB (w.setCell ⟨c,i*5+4,none⟩ (.int .i64 s)) (fun j=>if j=i*5+4 then .int .i64 s else f j) i { h with aN:=s } b:=by
 obtain⟨e,l,m,n,r⟩:=o;refine⟨(if_neg (by omega)).trans e,(if_neg (by omega)).trans l,?_,(if_neg (by omega)).trans n,if_pos rfl⟩;simp only[if_neg (show ¬i*5+2=i*5+4 by omega)];obtain⟨g,M,a,q,d,k⟩:=m;exact⟨g,M,a,q,d.setOther (iU d p (by decide)) _,k⟩
theorem aX.store {w:World}{a N i b q:Nat}{f:Nat->Value}{h:aM}{u:Value}(d:w.rowIs a 44 N f) (g:i*5<=q∧q<i*5+5) (c:cB (w.setCell ⟨a,q,none⟩ u) (fun j=>if j=q then u else f j) i h b) :
  aX w (w.setCell ⟨a,q,none⟩ u) a N i f b h:=
 ⟨(But.refl _ _).setCell (fun z=>z.1 rfl) _,_,b,d.set q u,c,fun j _ e=>if_neg (by omega),.inl rfl⟩
theorem aX.none {w w':World}{c N i b:Nat}{f:Nat->Value}{h:aM}(e:w.rowIs c 44 N f) (d:cB w f i h b) (a:Below w.heap.size w w'):aX w w' c N i f b h:=
 ⟨But.aG a,f,b,dP e a,d.but (K:=fun _=>True) (But.aG a) trivial,fun _ _ _=>rfl,.inl rfl⟩
theorem pG (w:World) (m:Nat):Below w.heap.size w (w.drewN m):=below_drewN (Below.refl _ _) m
theorem zR {α:Type}(l:List α) {i:Nat}(h:i<l.length):∃x,l[i]?=some x:=⟨l[i],List.getElem?_eq_getElem h⟩
def cQ (B0:Nat) (w:World) (v1 v2 v3:Value) (d:aF):Prop:=
 (∃bo bp bw bb,aP (fun c=>B0<=c) w v1 v2 v3 d bo bp bw bb)∨(v1=.slice none 0 0∧v2=.slice none 0 0∧v3=.slice none 0 0∧d.aH=[]∧d.aC=[]∧d.aB=[])
theorem cQ.read {f:Nat}{w:World}{v1 v2 v3:Value}{d:aF}(h:cQ f w v1 v2 v3 d):bB (In w) w v1 v2 v3 d:=by
 rcases h with ⟨i,j,k,bb,h⟩ | ⟨rfl,rfl,rfl,a,b,e⟩
 ·exact (h.bound (Q:=In w) fun c _ g=>g).read
 ·exact⟨⟨_,_,by rw[a]; rfl,.inl (by rw[a]; rfl)⟩,⟨_,_,by rw[b]; rfl,.inl (by rw[b]; rfl)⟩,⟨_,_,by rw[e]; rfl,.inl (by rw[e]; rfl)⟩⟩
theorem cQ.but {a b:Nat}{w w':World}{v1 v2 v3:Value}{d:aF}(h:cQ a w v1 v2 v3 d) (e:But (fun c=>a<=c) w w') (j:b<=a):cQ b w' v1 v2 v3 d:=by
 rcases h with ⟨f,g,i,bb,h⟩ | h
 ·exact .inl ⟨f,g,i,bb,h.but e (fun _ z=>z) fun _ z=>Nat.le_trans j z⟩
 ·exact .inr h
theorem cQ.call {a:Nat}{w w':World}{v1 v2 v3:Value}{d:aF}(h:cQ a w v1 v2 v3 d) (e:Below w.heap.size w w'):cQ a w' v1 v2 v3 d:=h.but (But.aG e) (Nat.le_refl _)
theorem cQ.slices {a:Nat}{w:World}{v1 v2 v3:Value}{d:aF}(h:cQ a w v1 v2 v3 d):∃a1 c1 a2 c2 a3 c3,v1=.slice a1 d.aH.length c1∧v2=.slice a2 d.aC.length c2∧v3=.slice a3 d.aB.length c3:=by
 obtain⟨⟨a1,c1,b,-⟩,⟨a2,c2,c,-⟩,⟨a3,c3,e,-⟩⟩:=h.read;exact⟨a1,c1,a2,c2,a3,c3,b,c,e⟩
theorem xK {w:World}{b t c n i:Nat}{f d:Nat->Value}(h:w.rowIs b t n f) (g:w.rowIs b c i d):t=c:=by
 obtain⟨x,e,-⟩:=h;obtain⟨y,a,-⟩:=g;rw[e] at a
 cases a
 rfl
theorem aV.row {w:World}{v:Value}{l:List Bool}{b:Nat}(h:aV w v l b):∃N f,w.rowIs b 4 N f:=by
 obtain⟨f,N,c,-,a,-⟩:=h;exact⟨N,f,a⟩
theorem dK.aL {w:World}{v:Value}{l:List aM}{b:Nat}{bb:Nat->Nat}(h:dK w v l b bb) {i:Nat}(hi:i<l.length):∃N f,w.rowIs (bb i) 4 N f:=by
 obtain⟨a,c,-,g | ⟨-,f,N,j,-,d⟩⟩:=h
 ·omega
 ·obtain⟨y,e⟩:=zR l hi;exact (d i y e).2.2.1.row
theorem dK.row {w:World}{v:Value}{l:List aM}{b:Nat}{bb:Nat->Nat}(h:dK w v l b bb) (hi:l.length≠0):∃N f,w.rowIs b 44 N f:=by
 obtain⟨a,c,-,e | ⟨-,f,N,d,-⟩⟩:=h
 ·omega
 ·exact⟨N,f,d⟩
theorem bH.row {w:World}{v:Value}{l:List (Int×Int)}{b:Nat}(h:bH w v l b) (hi:l.length≠0):∃N f,w.rowIs b 46 N f:=by
 obtain⟨a,c,-,e | ⟨-,f,N,d,-⟩⟩:=h
 ·omega
 ·exact⟨N,f,d⟩
theorem aP.uT {P:Nat->Prop}{w w':World}{v1 v2 v3:Value}{d:aF}{g j k:Nat}{bb:Nat->Nat}{l:List Bool}(h:aP P w v1 v2 v3 d g j k bb) (m:But (fun c=>c≠g) w w') (n:aV w' v1 l g):aP P w' v1 v2 v3 { d with aH:=l } g j k bb:=by
 obtain⟨o,p,b⟩:=h.aH.row;refine⟨n,h.aC.but m fun z e=>?_,h.aB.but m (fun z e=>?_) fun i hi=>h.off i hi,h.po,h.pp,h.pw,h.pb,h.inj,h.off⟩
 ·obtain⟨N,f,a⟩:=h.aC.row z;rw[e] at a;exact absurd (xK a b) (by decide)
 ·obtain⟨N,f,a⟩:=h.aB.row z;rw[e] at a;exact absurd (xK a b) (by decide)
theorem aP.pB {P:Nat->Prop}{w w':World}{v1 v2 v3:Value}{d:aF}{b a e:Nat}{bb:Nat->Nat}{l:List (Int×Int)}(h:aP P w v1 v2 v3 d b a e bb) (g:a≠b) (j:d.aB.length≠0->a≠e) (k:∀i,i<d.aB.length->a≠bb i) (f:But (fun c=>c≠a) w w') (n:bH w' v2 l a) (m:l.length=d.aC.length):aP P w' v1 v2 v3 { d with aC:=l } b a e bb:=
 ⟨h.aH.but f (Ne.symm g),n,h.aB.but f (fun z=>Ne.symm (j z)) fun i hi=>Ne.symm (k i hi),h.po,fun z=>h.pp (by rw[← m]; exact z),h.pw,h.pb,h.inj,h.off⟩
end
end Go.Proofs.YtdhinkgjiapigaaGreatDoor

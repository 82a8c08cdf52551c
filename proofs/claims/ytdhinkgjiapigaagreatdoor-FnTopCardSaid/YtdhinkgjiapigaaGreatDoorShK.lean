import Derived.Shelf.Lay
import Derived.Shelf.Strings.Builder1
import Derived.Test.YtdhinkgjiapigaaGreatDoorConc
import Derived.Test.YtdhinkgjiapigaaGreatDoorShS
namespace Go.Proofs
open Go.Shelf
shelf_lay Lays.n169 Nm 169 at Tryz as Tryz.lays169
theorem Tryz.Builder_Extra_169 : Builder.Extra Tryz.prog Tryz.lays169_ren where
 sizeBuilder:=by kernel_rfl
 liesBuilder:=by kernel_rfl
 t5:=Tryz.underlying5
 a5:=Tryz.isAgg5
 z5:=Tryz.sizeOf5
 v5:=Tryz.zeroValue5
 infoByte:=by kernel_rfl
 cellsByte:=by kernel_rfl
 sizeByte:=by kernel_rfl
 neB5:=by decide
end Go.Proofs
namespace Go.Proofs.YtdhinkgjiapigaaGreatDoor
open Go.Deep Go.RowKit Go.Shelf
theorem Ev (B b:Nat) (l:List UInt8) (w:World) (h:Lib.IsBuilder 81 5 B b (Lib.byteCells l) w) (a:l≠[]) :
  Calls Tryz.prog 47 #[.pointer (some ⟨b,0,none⟩)] w fun e w'=>e=.returned (.string ⟨l.toArray⟩)∧Below B w w':=Any.Builder_String Tryz.lays169 Tryz.Builder_Extra_169 B b l w h a
set_option maxRecDepth 100000 in
set_option maxHeartbeats 1000000 in
theorem Jy (b:Nat) (w:World) (g:w.cell? ⟨b,0,none⟩=some (.pointer none)) (a:w.shape? b=some (81,2)) (f:w.frozen? ⟨b,0,none⟩=false) :
  Calls Tryz.prog 88 #[.pointer (some ⟨b,0,none⟩)] w fun e w'=>e=.returned (.tuple #[])∧w'=w.setCell ⟨b,0,none⟩ (.pointer (some ⟨b,0,none⟩)):=by
 obtain⟨j,d,c⟩:=Option.map_eq_some_iff.1 (show (Tryz.prog.info? 81).map (·.size)=some 2 by kernel_rfl);go_enter Tryz.func88,Tryz.ntmps88;go_wp2;rw[Lib.run_to_unsafe w ⟨b,0,none⟩ Tryz.underlying79 Tryz.underlying158 d (by rw[c]; decide) a (Nat.zero_lt_succ 1)];simp only[Result.andThen];rw[Oper.upon_value];go_wp2;rw[run_callFunc_extern Tryz.func139 (by kernel_rfl) (by kernel_rfl) (by kernel_rfl) (e:=Extern.AbiNoEscape.same) (by kernel_rfl)];rw[Lib.run_noEscape];simp only[Result.andThen];rw[Oper.upon_value];go_wp2;rw[Lib.run_from_unsafe w ⟨b,0,none⟩ Tryz.underlying158 Tryz.underlying79 d a (by kernel_rfl)];simp only[Result.andThen];rw[Oper.upon_value];go_wp2
 go_end0
 exact⟨rfl,rfl⟩
set_option maxRecDepth 100000 in
set_option maxHeartbeats 1000000 in
theorem KJ (b:Nat) (w:World) (c:w.cell? ⟨b,0,none⟩=some (.pointer (some ⟨b,0,none⟩))) :
  Calls Tryz.prog 88 #[.pointer (some ⟨b,0,none⟩)] w fun e w'=>e=.returned (.tuple #[])∧w'=w:=by
 obtain⟨j,a,-⟩:=Option.map_eq_some_iff.1 (show (Tryz.prog.info? 81).map (·.size)=some 2 by kernel_rfl);go_enter Tryz.func88,Tryz.ntmps88;go_wp2;rw[Lib.run_neq_ptr_same w _ Tryz.underlying79 a];go_wp2
 go_end0
 exact⟨rfl,rfl⟩
theorem Tryz.oV:(Tryz.prog.info? 5).map (fun i=>(i.zero,i.size,i.bytes))=some (some (.int .u8 0),1,1):=by kernel_rfl
structure aY (b:Nat) (w w':World):Prop where
 size:w.heap.size<=w'.heap.size
 block:∀(g:Nat) cur t,w.heap[g]?=some (.cells cur t (0,0))->t≠5->g≠b->w'.heap[g]?=some (.cells cur t (0,0))
 other:∀(g:Nat) o,w.heap[g]?=some o->o.isCells=false->g≠b->w'.heap[g]?=some o
theorem aY.refl (b:Nat) (w:World):aY b w w:=⟨Nat.le_refl _,fun _ _ _ h _ _=>h,fun _ _ h _ _=>h⟩
theorem aY.trans {b:Nat}{x y z:World}(h:aY b x y) (k:aY b y z):aY b x z:=⟨Nat.le_trans h.size k.size,fun g cur t c e a=>k.block g cur t (h.block g cur t c e a) e a,fun g o c d a=>k.other g o (h.other g o c d a) d a⟩
theorem aY.set (b o:Nat) (u:Value) (w:World):aY b w (w.setCell ⟨b,o,none⟩ u):=⟨by rw[World.size_setCell]; exact Nat.le_refl _,fun g _ _ a _ c=>by rw[heap_setCell_other _ _ _ _ c]; exact a,fun g _ a _ c=>by rw[heap_setCell_other _ _ _ _ c]; exact a⟩
theorem aY.aG {b:Nat}{w w':World}(h:Below w.heap.size w w'):aY b w w':=⟨h.size,fun g _ _ a _ _=>(h.block g (Array.getElem?_eq_some_iff.1 a).1).trans a,fun g _ a _ _=>(h.block g (Array.getElem?_eq_some_iff.1 a).1).trans a⟩
theorem aY.row {b g t n:Nat}{f:Nat->Value}{w w':World}(h:aY b w w') (j:w.rowIs g t n f) (k:t≠5) (i:g≠b):w'.rowIs g t n f:=by
 obtain⟨c,e,a,d⟩:=j;exact⟨c,h.block g c t e k i,a,d⟩
theorem aY.grown {b:Nat}{w w':World}{B size n:Nat}{v:Value}{xs:List Value}(i:w.ownsRow B 5 size v n xs) (f:w.grownBy w' v.ownBlock):aY b w w':=⟨f.size,fun g cur t c k _=>by
 rw[f.block g (Array.getElem?_eq_some_iff.1 c).1 fun z=>?_]
 ·exact c
 ·obtain⟨-,⟨rfl,rfl⟩ | ⟨j,e,d,rfl,-,a,-⟩⟩:=i
  ·cases z
  ·cases z
   rw[c] at a
   cases a
   exact k rfl,fun g o c h _=>by
 rw[f.block g (Array.getElem?_eq_some_iff.1 c).1 fun z=>?_]
 ·exact c
 ·obtain⟨-,⟨rfl,rfl⟩ | ⟨j,e,d,rfl,-,a,-⟩⟩:=i
  ·cases z
  ·cases z
   rw[c] at a
   cases a
   cases h⟩
theorem Et (B b:Nat) (a:List Value) (w:World) (h:Lib.IsBuilder 81 5 B b a w) :
  Calls Tryz.prog 88 #[.pointer (some ⟨b,0,none⟩)] w fun e w'=>e=.returned (.tuple #[])∧Lib.BuilderAt 81 5 B b (.pointer (some ⟨b,0,none⟩)) a w'∧Below B w w'∧aY b w w':=by
 obtain h | h:=h
 ·exact (Jy b w h.cell0 h.shape h.frozen0).mono fun e w' ⟨h1,h2⟩=>by
   subst h2;exact⟨h1,h.used _,(Below.refl B w).setCell (p:=⟨b,0,none⟩) h.1 _,aY.set b 0 _ w⟩
 ·exact (KJ b w h.cell0).mono fun e w' ⟨h1,h2⟩=>by
   subst h2;exact⟨h1,h,Below.refl B _,aY.refl _ _⟩
set_option maxRecDepth 100000 in
set_option maxHeartbeats 1000000 in
theorem Bt (B b:Nat) (f:List Value) (c:Int) (w:World) (h:Lib.IsBuilder 81 5 B b f w) (F:f.length<=1000000000) (hB:B<=w.heap.size) :
  Calls Tryz.prog 45 #[.pointer (some ⟨b,0,none⟩),.int .u8 c] w fun e w'=>e=.returned .nilIface∧Lib.IsBuilder 81 5 B b (f++[.int .u8 c]) w'∧Below B w w'∧aY b w w':=by
 have z:=aD (Et B b f w h);clear h;go_enter Tryz.func45,Tryz.ntmps45
 go_wp2_with fail
 refine z.out.mono ?_;rintro e y ⟨rfl,⟨D,v,l,d,G⟩,r,E⟩;obtain⟨I,J,rfl⟩:=zag d
 have c1:y.cell? ⟨b,1,none⟩=some (.slice I f.length J):=by rw[Lib.cell_of_heap l]; rfl
 have X:b<y.heap.size:=(Array.getElem?_eq_some_iff.1 l).1;have i:=aD (d.alloc (.cells #[.int .u8 c] 5));have C:=aD (Bb (W:=y) (t:=5) (x:=.int .u8 c))
 have A:Hid (∀u∈([.int .u8 c]:List Value),u.oneCell'=true):=by
  show ∀u∈([.int .u8 c]:List Value),u.oneCell'=true;intro u hu;rw[List.mem_singleton.1 hu];rfl
 obtain⟨g,s⟩:∃n,n=f.length:=⟨_,rfl⟩;rw[← s] at i c1 F
 have N:Hid (g+1<=maxLen):=by show g+1<=maxLen; unfold maxLen; omega
 have O:Hid ((g+1)*1<=140737488355328):=by show (g+1)*1<=140737488355328; omega
 have R:Hid (B<=(y.alloc (.cells #[.int .u8 c] 5)).heap.size):=by show B<=_; have:=r.size; rw[World.size_alloc]; omega
 have q:=aD s;have L:=aD l;have Q:=aD d;have P:=aD G;have o:=aD r;have M:=aD E;clear s l d G r E z
 go_wp2_with (at_builtin; refine iN rfl _ _ 22 rfl B 5 (.int .u8 0) 1 1 Tryz.underlying22 Tryz.oV rfl (by decide) (.slice I g J) g f rfl i.out (some ⟨y.heap.size,0,none⟩) 1 1 [.int .u8 c] rfl rfl C.out A.out N.out O.out R.out ?_)
 intro v' H a m;obtain⟨S,U,rfl⟩:=zag a
 have j:H.heap[b]?=some (.cells #[.pointer (some ⟨b,0,none⟩),.slice I f.length J] 81 (0,0)):=by
  rw[m.block b (by rw[World.size_alloc]; omega) (fun e=>P.out (by rw[← q.out]; exact e.symm)),Lib.alloc_old y _ b X];exact L.out
 have d1:H.cell? ⟨b,1,none⟩=some (.slice I f.length J):=by rw[Lib.cell_of_heap j]; rfl
 have f1:H.frozen? ⟨b,1,none⟩=false:=Lib.frozen_of_heap j 1
 have V:(f++[Value.int .u8 c]).length=g+1:=by rw[q.out,List.length_append]; rfl
 have K:=aD (Lib.BuilderAt.put (T:=81) (e:=5) D j (bs':=f++[.int .u8 c]) (v':=.slice S (g+1) U) (by rw[V]; exact a) (by decide));have Y:Hid (Below B w (H.setCell ⟨b,1,none⟩ (.slice S (g+1) U))):=((o.out.alloc (by have:=o.out.size; omega) _).grown m (by rw[World.size_alloc]; have:=o.out.size; omega) (fun k hk=>(Q.out.lt k (by rw[← q.out]; exact hk)).1)).setCell (p:=⟨b,1,none⟩) D _;have Z:Hid (aY b w (H.setCell ⟨b,1,none⟩ (.slice S (g+1) U))):=((M.out.trans (aY.aG (bC _ _))).trans (aY.grown i.out m)).trans (aY.set b 1 _ _);clear a m j i C A;go_wp2;go_ret;exact⟨rfl,.inr K.out,Y.out,Z.out⟩
section
open Classical
def mC:List UInt8:=[45,115,67,116,117,46,61,35,60,62,63,33,32]
def cF (w:World):Prop:=∀(k:Nat) c,mC[k]?=some c->w.cell? ⟨0,k,none⟩=some (.int .u8 (c.toNat:Int))
theorem cF.below {B:Nat}{w w':World}(h:cF w) (b:Below B w w') (a : 0<B):cF w':=fun k c d=>(b.cell (p:=⟨0,k,none⟩) a).trans (h k c d)
abbrev eN (B b:Nat) (l:List UInt8) (w:World):Prop:=Lib.IsBuilder 81 5 B b (Lib.byteCells l) w
theorem Bq (l:List UInt8) (c:UInt8):Lib.byteCells l++[.int .u8 (c.toNat:Int)]=Lib.byteCells (l++[c]):=by unfold Lib.byteCells; rw[List.map_append]; rfl
def rG (B b:Nat) (l:List UInt8) (w:World) (e:Ending) (w':World):Prop:=e=.returned (.tuple #[])∧eN B b l w'∧Below B w w'∧aY b w w'
set_option maxRecDepth 100000 in
theorem uF (B b:Nat) (l:List UInt8) (s:Nat) (c:UInt8) (w:World) (h:eN B b l w) (q:l.length<=1000000) (n:B<=w.heap.size) (g:mC[s]?=some c) (a:cF w) :
  Calls Tryz.prog 90 #[.int .i64 (s:Int),.pointer (some ⟨b,0,none⟩)] w fun e w'=>rG B b (l++[c]) w e w':=by
 have z:=a s c g;have m:s<13:=(List.getElem?_eq_some_iff.1 g).1
 have o:(s:Int)<13:=by omega
 have f:=aD (Bt B b (Lib.byteCells l) (c.toNat:Int) w h (by rw[Lib.byteCells_length]; omega) n);rw[Bq] at f;clear h g a;go_enter Tryz.func90,Tryz.ntmps90
 go_wp2_with fail
 refine f.out.mono ?_;rintro e p ⟨rfl,i,j,k⟩;have d:=aD (show rG B b (l++[c]) w (.returned (.tuple #[])) p from ⟨rfl,i,j,k⟩);clear i j k z f;go_wp2
 go_end0
 exact d.out
theorem eN.lt {B b:Nat}{l:List UInt8}{w:World}(h:eN B b l w):b<w.heap.size:=by
 obtain h | h:=h
 ·exact h.lt
 ·exact h.lt
theorem eN.call {B b:Nat}{l:List UInt8}{w w':World}(h:eN B b l w) (d:Below w.heap.size w w'):eN B b l w':=by
 have a:∀q,Lib.BuilderAt 81 5 B b q (Lib.byteCells l) w->Lib.BuilderAt 81 5 B b q (Lib.byteCells l) w':=fun q i=>by
  obtain⟨e,v,c,f,g⟩:=i;exact⟨e,v,(d.block b (Array.getElem?_eq_some_iff.1 c).1).trans c,gD (K:=fun _=>True) f (But.aG d) fun _ _=>trivial,g⟩
 obtain h | h:=h
 ·exact .inl (a _ h)
 ·exact .inr (a _ h)
theorem qU {s:Nat}(h:s<=4):mC[s]?=some (nT (s:Int)):=by
 obtain rfl | rfl | rfl | rfl | rfl:s=0∨s=1∨s=2∨s=3∨s=4:=by omega
 ·rfl
 ·rfl
 ·rfl
 ·rfl
 ·rfl
set_option maxRecDepth 100000 in
set_option maxHeartbeats 2000000 in
theorem KR (B b:Nat) (l:List UInt8) (f1 f2 f3:Value) (d:aF) (w:World) (h:eN B b l w) (hl:l.length<=10000) (hB:B<=w.heap.size) (O:bB (fun c=>c<B) w f1 f2 f3 d) (T:∀(i:Nat) h,d.aB[i]?=some h->bN h.state 0 4) (hn:d.aB.length<=100) (R:cF w) (a2 : 0<B) :
  Calls Tryz.prog 93 #[.agg #[.bool d.ok,f1,f2,f3],.func (.func 90) #[] #[.pointer (some ⟨b,0,none⟩)]] w fun e w'=>rG B b (l++lG d d.aB.length) w e w':=by
 have KF:=aD fun (W:World) (k:Below B w W)=>O.keep (Q:=fun c=>c<B) (fW k fun _ z=>z) fun _ z=>z;obtain⟨o1,m1,rfl⟩:=O.1.size;obtain⟨o2,m2,rfl⟩:=O.2.1.size;obtain⟨o3,m3,rfl⟩:=O.2.2.size;obtain⟨q,D⟩:∃n,n=d.aB.length:=⟨_,rfl⟩;rw[← D] at KF hn ⊢;have t:=aD D;have a3:=h.lt;have L:=cZ w 40 #[.bool d.ok,.slice o1 d.aH.length m1,.slice o2 d.aC.length m2,.slice o3 q m3];have p:=L.row 0 _ _ rfl;rw[Nat.add_zero] at p;have A:Below B w _:=L.below.mono hB;have x:eN B b l _:=h.call L.below;have C:aY b w _:=aY.aG L.below;obtain⟨W0,y⟩:∃W,W=w.alloc (.cells #[.bool d.ok,.slice o1 d.aH.length m1,.slice o2 d.aC.length m2,.slice o3 q m3] 40):=⟨_,rfl⟩;rw[← y] at p A x C;have K:=aD p;have F:=aD A;have I:=aD x;have s:=aD C;have a0:=aD R;have a1:=aD T;clear O h L p A x C R T D;go_enter Tryz.func93,Tryz.ntmps93
 go_upto_region 1 with fail
 rw[← y];clear y;have q3:=K.out.cell (i:=3) (by show 3<4; omega);go_wp2;clear q3
 go_loopw [9] (fun z wr=>∃k:Nat,k<=q∧z=.int .i64 (k:Int)∧eN B b (l++lG d k) wr∧Below B w wr∧aY b w wr∧B<=wr.heap.size) (fun z _=>q-(intOf z).toNat)
 case atStart=>exact⟨0,Nat.zero_le _,rfl,by show eN B b (l++[]) W0; rw[List.append_nil]; exact I.out,F.out,s.out,Nat.le_trans hB s.out.size⟩
 case round=>
  obtain⟨k,hk,rfl,m,a,o,g⟩:=hrel;rename World=>wr;clear K F I s;by_cases a6:k<q
  ·have P:decide ((k:Int)<(q:Int))=true:=decide_eq_true (by omega)
   have a5:(k:Int)<(q:Int):=by omega
   obtain⟨h,X⟩:=eU d.aB (show k<d.aB.length by have:=t.out; omega);obtain⟨ax,kx,ex,h0 | ⟨bw,ow,M,a4,N⟩⟩:=(KF.out _ a).2.2
   ·have:=t.out; omega
   obtain rfl:o3=some ⟨bw,ow,none⟩:=by cases ex; exact M
   clear ex M;obtain⟨vb,U,z0,z1,z2,z3,z4⟩:=N k (by have:=t.out; omega) h X;obtain⟨ab,kb,rfl⟩:=U.size;have hs:=a1.out k h X;obtain⟨Y,E⟩:∃n:Nat,h.state=(n:Int):=⟨h.state.toNat,by have h2:(0:Int)<=h.state:=hs.1; omega⟩
   have S:Y<=4:=by have h3:h.state<=(4:Int):=hs.2; omega
   rw[E] at z0;have v:=cZ wr 44 #[.int .i64 (Y:Int),.int .i64 h.gone,.slice ab h.aL.length kb,.bool h.aR,.int .i64 h.aN];have y0:=v.c 0 0 rfl rfl;rw[Nat.add_zero] at y0;have f:Below B w _:=a.trans (v.below.mono g);have u:=aD (uF B b (l++lG d k) Y _ _ (m.call v.below) (by rw[List.length_append,Br]; omega) (Nat.le_trans g v.below.size) (qU S) (a0.out.below f a2))
   have V:l++lG d k++[nT (Y:Int)]=l++lG d (k+1):=by
    rw[Ex,X,List.append_assoc];show _=l++(lG d k++[nT h.state]);rw[E]
   rw[V] at u;have G:=aD f;have J:=aD (o.trans (aY.aG (b:=b) v.below));have H:=aD (Nat.le_trans g v.below.size);clear m a o N U X hs E v f V g
   go_wp2_with fail
   refine u.out.mono ?_;rintro e Z ⟨rfl,g1,g2,g3⟩;have r:=aD (show eN B b (l++lG d (k+1)) Z∧Below B w Z∧aY b w Z∧B<=Z.heap.size from ⟨g1,G.out.trans g2,J.out.trans g3,Nat.le_trans H.out g3.size⟩);clear g1 g2 g3 u G J H y0 z0 z1 z2 z3 z4;go_wp2;go_roundw
   case rel=>exact⟨k+1,by omega,by go_num,r.out⟩
   case measure=>simp[intOf]; omega
  ·have P:decide ((k:Int)<(q:Int))=false:=decide_eq_false (by omega)
   obtain rfl:k=q:=by omega
   have r:=aD (show rG B b (l++lG d k) w (.returned (.tuple #[])) wr from ⟨rfl,m,a,o⟩);clear m a o;go_wp2
   go_end0
   exact r.out
def iD (x:Int×Int):Nat:=if x.2=x.1 then (if x.2=1 then 8 else 9) else 10
theorem qJ (x:Int×Int):mC[iD x]?=some (iC x):=by
 unfold iD iC;split
 ·split
  ·rfl
  ·rfl
 ·rfl
theorem Bo {a c:Nat}(h:a=c):Ending.returned (.int .i64 (c:Int))=.returned (.int .i64 (a:Int)):=by rw[h]
set_option maxHeartbeats 1000000 in
theorem KN (x:Int×Int) (w:World):Calls Tryz.prog 141 #[.agg #[.int .i64 x.1,.int .i64 x.2]] w fun e w'=>e=.returned (.int .i64 (iD x:Int))∧Below w.heap.size w w':=by
 have d:=cZ w 46 #[.int .i64 x.1,.int .i64 x.2];have k:=d.c 0 0 rfl rfl;have l:=d.c 0 1 rfl rfl;rw[Nat.add_zero] at k l;have f:=aD d.below;clear d;go_enter Tryz.func141,Tryz.ntmps141;by_cases b:x.2=x.1
 ·have g:(x.2 != x.1)=false:=by simp[b]
  by_cases c:x.2=1
  ·have h:(x.2 == 1)=true:=by simp[c]
   have a:Hid (iD x=8):=by show iD x=8; unfold iD; rw[if_pos b,if_pos c]
   clear b c;go_wp2;go_ret;exact⟨Bo a.out,f.out⟩
  ·have h:(x.2 == 1)=false:=by simp[c]
   have a:Hid (iD x=9):=by show iD x=9; unfold iD; rw[if_pos b,if_neg c]
   clear b c;go_wp2;go_ret;exact⟨Bo a.out,f.out⟩
 ·have g:(x.2 != x.1)=true:=by simp[b]
  have a:Hid (iD x=10):=by show iD x=10; unfold iD; rw[if_neg b]
  clear b;go_wp2;go_ret;exact⟨Bo a.out,f.out⟩
set_option maxRecDepth 100000 in
set_option maxHeartbeats 4000000 in
theorem Jz (B b:Nat) (l:List UInt8) (p1 p2 p3 f1 f2 f3:Value) (p:aK) (d:aF) (w:World) (h:eN B b l w) (hl:l.length<=10000) (hB:B<=w.heap.size) (hp:aZ (fun c=>c<B) w p1 p2 p3 p) (hc:cE (fun c=>c<B) w p2 p.aB) (hf:bB (fun c=>c<B) w f1 f2 f3 d) (hs:p.Small 1048576) (hd:d.Small 1048576) (hR:cJ p d) (bE:cF w) (bD : 0<B) :
  Calls Tryz.prog 92 #[.agg #[.int .i64 p.aA,p1,p2,p3,.int .i64 p.aI],.agg #[.bool d.ok,f1,f2,f3],.func (.func 90) #[] #[.pointer (some ⟨b,0,none⟩)]] w fun e w'=>rG B b (l++jX p d d.aC.length) w e w':=by
 have KF:=aD fun (W:World) (k:Below B w W)=>hf.keep (Q:=fun c=>c<B) (fW k fun _ z=>z) fun _ z=>z;have KI:=aD fun (W:World) (k:Below B w W) (z:B<=W.heap.size)=>And.intro (hp.keep (Q:=In W) (fW k fun _ z=>z) fun _ y=>Nat.lt_of_lt_of_le y z) (And.intro (hc.keep (Q:=In W) (fW k fun _ z=>z) fun _ y=>Nat.lt_of_lt_of_le y z) (hf.keep (Q:=In W) (fW k fun _ z=>z) fun _ y=>Nat.lt_of_lt_of_le y z));obtain⟨a1,c1,rfl⟩:=hp.1.size;obtain⟨a2,c2,rfl⟩:=hp.2.1.size;obtain⟨a3,c3,rfl⟩:=hp.2.2.size;obtain⟨o1,m1,rfl⟩:=hf.1.size;obtain⟨o2,m2,rfl⟩:=hf.2.1.size;obtain⟨o3,m3,rfl⟩:=hf.2.2.size;obtain⟨K,P⟩:∃n,n=d.aC.length:=⟨_,rfl⟩;have aJ:d.aC.length=p.aE.length:=hR.2.2.2.1
 have bH:K<=100:=by rw[P,aJ]; have:=hR.1.parts.1.2.1; omega
 rw[← P] at KF KI ⊢;have L:=aD P;have bF:=aD aJ;have HR:=aD hR;have HS:=aD hs;have HD:=aD hd;have bI:=h.lt;have T0:=eB w 27 40 #[.int .i64 p.aA,.slice a1 p.aE.length c1,.slice a2 p.aB.length c2,.slice a3 p.aO.length c3,.int .i64 p.aI] #[.bool d.ok,.slice o1 d.aH.length m1,.slice o2 K m2,.slice o3 d.aB.length m3];have a:=T0.row 0 _ _ rfl;rw[Nat.add_zero] at a;have f:=T0.row 1 _ _ rfl;have a8:Below B w _:=T0.below.mono hB;have a5:eN B b l _:=h.call T0.below;have a9:aY b w _:=aY.aG T0.below;obtain⟨W0,a7⟩:∃W,W=(w.alloc (.cells #[.int .i64 p.aA,.slice a1 p.aE.length c1,.slice a2 p.aB.length c2,.slice a3 p.aO.length c3,.int .i64 p.aI] 27)).alloc (.cells #[.bool d.ok,.slice o1 d.aH.length m1,.slice o2 K m2,.slice o3 d.aB.length m3] 40):=⟨_,rfl⟩;rw[← a7] at a f a8 a5 a9;have bG:=aD a;have aV:=aD f;have aL:=aD a8;have aP:=aD a5;have aR:=aD a9;have aW:=aD bE;clear hf hp hc h T0 a f a8 a5 a9 bE P aJ hR hs hd;go_enter Tryz.func92,Tryz.ntmps92
 go_upto_region 1 with fail
 rw[← a7];clear a7;have q2:=aV.out.cell (i:=2) (by show 2<4; omega);go_wp2;clear q2
 go_loopw [11] (fun z wr=>∃k:Nat,k<=K∧z=.int .i64 (k:Int)∧eN B b (l++jX p d k) wr∧Below B w wr∧aY b W0 wr∧B<=wr.heap.size) (fun z _=>K-(intOf z).toNat)
 case atStart=>exact⟨0,Nat.zero_le _,rfl,by show eN B b (l++[]) W0; rw[List.append_nil]; exact aP.out,aL.out,aY.refl _ _,Nat.le_trans hB aR.out.size⟩
 case round=>
  obtain⟨k,hk,rfl,M,F,N,a6⟩:=hrel;rename World=>wr;clear aL aP;by_cases bL:k<K
  ·have b8:decide ((k:Int)<(K:Int))=true:=decide_eq_true (by omega)
   have bK:(k:Int)<(K:Int):=by omega
   obtain⟨x,hx⟩:=eU d.aC (show k<d.aC.length by have:=L.out; omega);obtain⟨ax,kx,ex,h0 | ⟨bq,oq,aX,bJ,b6⟩⟩:=(KF.out _ F).2.1
   ·have:=L.out; omega
   obtain rfl:o2=some ⟨bq,oq,none⟩:=by cases ex; exact aX
   clear ex aX;obtain⟨z0,z1⟩:=b6 k (by have:=L.out; omega) x hx;have TB:=cZ wr 46 #[.int .i64 x.1,.int .i64 x.2];have y0:=TB.c 0 0 rfl rfl;have y1:=TB.c 0 1 rfl rfl;rw[Nat.add_zero] at y0 y1;have a4:Below B w _:=F.trans (TB.below.mono a6);have aS:=aD (KN x (wr.alloc (.cells #[.int .i64 x.1,.int .i64 x.2] 46)));have V:=aD (M.call TB.below);have R:=aD a4;have X:=aD (N.trans (aY.aG (b:=b) TB.below));have t:=aD (Nat.le_trans a6 TB.below.size);have HX:=aD hx;clear M F N b6 hx TB a4 a6
   go_wp2_with fail
   refine aS.out.mono ?_;rintro e w3 ⟨rfl,D⟩;have G:Below B w w3:=R.out.trans (D.mono t.out);have A:B<=w3.heap.size:=Nat.le_trans t.out D.size;have r:=aD (uF B b (l++jX p d k) (iD x) _ w3 (V.out.call D) (by rw[List.length_append]; have:=vZ p d k; omega) A (qJ x) (aW.out.below G bD));have S:=aD G;have Y:=aD (X.out.trans (aY.aG (b:=b) D));have U:=aD A;clear D G A aS V R X t y0 y1 z0 z1
   go_wp2_with fail
   refine r.out.mono ?_;rintro e w4 ⟨rfl,g1,g2,g3⟩;have H:Below B w w4:=S.out.trans g2;have C:B<=w4.heap.size:=Nat.le_trans U.out g3.size;have q:=Y.out.trans g3;have a:=q.row bG.out (by decide) (by omega);have f:=q.row aV.out (by decide) (by omega);obtain⟨bA,b5,b7⟩:=KI.out w4 H C;have aU:=aD (Aj _ _ _ _ _ _ p d k w4 bA b5 b7 HS.out HD.out HR.out (by have:=L.out; have:=bF.out; omega));have b0:=a.cell (i:=0) (by show 0<5; omega);have b1:=a.cell (i:=1) (by show 1<5; omega);have b2:=a.cell (i:=2) (by show 2<5; omega);have b3:=a.cell (i:=3) (by show 3<5; omega);have b4:=a.cell (i:=4) (by show 4<5; omega);have q0:=f.cell (i:=0) (by show 0<4; omega);have q1:=f.cell (i:=1) (by show 1<4; omega);have q2:=f.cell (i:=2) (by show 2<4; omega);have q3:=f.cell (i:=3) (by show 3<4; omega);have aQ:=aD g1;have T:=aD H;have Z:=aD q;have u:=aD C;clear g1 g2 g3 H C q a f bA b5 b7 r S Y U
   go_wp2_with fail
   refine aU.out.mono ?_;clear b0 b1 b2 b3 b4 q0 q1 q2 q3 aU;rintro e w5 ⟨v,rfl,E,mm,I⟩;obtain⟨av,cv,rfl⟩:=zag I;have b9:mm=(gS p d (k:Int)).length:=(oF I).1
   have bC:tM p d k=iC x :: if 0<mm then [33] else []:=by
    unfold tM;rw[List.getD_eq_getElem?_getD,HX.out,b9];rfl
   have aT:=aD bC;have m:Below B w w5:=T.out.trans (E.mono u.out);have g:B<=w5.heap.size:=Nat.le_trans u.out E.size;have o:=aQ.out.call E;have a0:=aD (Z.out.trans (aY.aG (b:=b) E));clear I b9 bC E aQ T Z u;by_cases O:0<mm
   ·have bN:decide ((0:Int)<(mm:Int))=true:=decide_eq_true (by omega)
    have bM:(0:Int)<(mm:Int):=by omega
    have r:=aD (uF B b (l++jX p d k++[iC x]) 11 33 w5 o (by rw[List.length_append,List.length_append]; have:=vZ p d k; show _+1<=_; omega) g rfl (aW.out.below m bD))
    have J:l++jX p d k++[iC x]++[33]=l++jX p d (k+1):=by rw[yI,aT.out,if_pos O]; simp
    rw[J] at r;have aM:=aD m;have aN:=aD g;clear J m g o O
    go_wp2_with fail
    refine r.out.mono ?_;rintro e w6 ⟨rfl,k1,k2,k3⟩;have s:=aD (show eN B b (l++jX p d (k+1)) w6∧Below B w w6∧aY b W0 w6∧B<=w6.heap.size from ⟨k1,aM.out.trans k2,a0.out.trans k3,Nat.le_trans aN.out k3.size⟩);clear k1 k2 k3 r;go_wp2;go_roundw
    case rel=>exact⟨k+1,by omega,by go_num,s.out⟩
    case measure=>simp[intOf]; omega
   ·obtain rfl:mm=0:=by omega
    have J:l++jX p d k++[iC x]=l++jX p d (k+1):=by rw[yI,aT.out,if_neg O]; simp
    rw[J] at o;have s:=aD (show eN B b (l++jX p d (k+1)) w5∧Below B w w5∧aY b W0 w5∧B<=w5.heap.size from ⟨o,m,a0.out,g⟩);clear J m g o O;go_wp2;go_roundw
    case rel=>exact⟨k+1,by omega,by go_num,s.out⟩
    case measure=>simp[intOf]; omega
  ·have b8:decide ((k:Int)<(K:Int))=false:=decide_eq_false (by omega)
   obtain rfl:k=K:=by omega
   have s:=aD (show rG B b (l++jX p d k) w (.returned (.tuple #[])) wr from ⟨rfl,M,F,aR.out.trans N⟩);clear M F N;go_wp2
   go_end0
   exact s.out
def rX {α:Type}(id:Nat) (B c n0:Nat) (I Ix:List α->World->Prop) (xs:List α) (W:World):Exit->Act->World->Prop
 | .normal,_,W'=>Mid B (B+2+c) W W'∧Below n0 W W'∧I xs W'
 | .exit x,_,W'=>x=id∧Mid B (B+2+c) W W'∧Ix xs W'
 | _,_,_=>False
theorem KT {α:Type}{id:Nat}{P:Program}{g:Operand}{ps:Array Tmp}{assign body:Code}{Q:Exit->Act->World->Prop}{a:Act}{w w0:World}{X:Nat}{lb:Array Value}{E:α->Array Value}{n0 c:Nat}{xs:List α}
  (hg:a.eval g=.func (.func X) #[] lb) (eg:∀args w,(callFunc X args).run P w=.ok (.enter X args) w) (a5:nX P X lb E n0 c xs w0) (a2:Below w0.heap.size w0 w) (hn:n0<=w.heap.size) (aA:∀x,(E x).size=ps.size)
  (I Ix:List α->World->Prop) (hI:OwnFrom w.heap.size I) (M:OwnFrom w.heap.size Ix) (h0:I [] w) (a1:α->Act)
  (F:∀(l:Nat) (x:α) (W:World) (K:Act->World->Prop),K (a1 x) W ->
   assign.wpIn (Fence.wide.inRound l) 0 P (Exit.then K (fun _ _ _=>False)) { tmps:=(ps.zip (E x)).foldl (fun t (p,v)=>t.setIfInBounds p v) a.tmps,defers:=[] } W)
  (N:∀(l:Nat) (pre:List α) (x:α) (W:World),pre++[x] <+: xs->w.heap.size+2+c<=W.heap.size->(∀k,w.heap.size<=k->k<w.heap.size+2->∃o:Obj,W.heap[k]?=some o∧o.isCells=false)->I pre W->body.wpIn (Fence.wide.inRound l) 0 P (rX id w.heap.size c n0 I Ix (pre++[x]) W) (a1 x) W)
  (O:∀(D:Nat) (W:World),w.heap.size<=D->I xs W->W.heap[D]?=some (.deferred (some []))->Q .normal { a with defers:={ target:=.collected D,args:=#[] } :: a.defers } W)
  (V:∀(D:Nat) (pre:List α) (W:World),w.heap.size<=D->pre <+: xs->Ix pre W->W.heap[D]?=some (.deferred (some []))->(Code.exit id).wpIn Fence.wide 0 P Q { a with defers:={ target:=.collected D,args:=#[] } :: a.defers } W) :
  (Code.rangeFunc g ps assign body).wpIn Fence.wide 0 P Q a w:=by
 refine wpIn_rangeFunc fun fn a8=>?_
 let rec0:Loop:={ state:=.ready,pending:=none,fn,tmps:=a.tmps,params:=ps,assign,body,defers:=w.heap.size }
 let Fact (r:Loop) (W:World):Prop:=W.heap[w.heap.size]?=some (.deferred (some []))∧W.heap[w.heap.size+1]?=some (.loop r)
 have q:∀r s W W' row,Fact r W->W.grownBy W' row->(∀b,row=some b->w.heap.size+2<=b)->(fun (_:List α)=>Fact r) s W':=fun r s W W' row i u C=>
  ⟨(u.block _ (Array.getElem?_eq_some_iff.1 i.1).1 fun e=>by have:=C _ e.symm; omega).trans i.1,(u.block _ (Array.getElem?_eq_some_iff.1 i.2).1 fun e=>by have:=C _ e.symm; omega).trans i.2⟩
 have d:∀r r' W,Fact r W->Fact r' (W.putObj (w.heap.size+1) (.loop r')):=fun r r' W i=>
  ⟨(World.putObj_heap_other (by omega)).trans i.1,World.putObj_heap_same (Array.getElem?_eq_some_iff.1 i.2).1⟩
 have z:∀r W W',Fact r W->Mid w.heap.size (w.heap.size+2+c) W W'->Fact r W':=fun r W W' i L=>⟨(L _ (Nat.le_refl _) (by omega)).trans i.1,(L _ (by omega) (by omega)).trans i.2⟩;have y:∀W o,Mid (w.heap.size+2) (w.heap.size+2+c) W (W.putObj (w.heap.size+1) o):=fun W o k h1 _=>World.putObj_heap_other (by omega)
 have m:∀r W o,Fact r W->Below n0 W (W.putObj (w.heap.size+1) o):=fun r W o i=>
  (Below.refl n0 W).grown (grownBy_putObj' _ _ _) (by have:=(Array.getElem?_eq_some_iff.1 i.2).1; omega) fun k e=>by cases e; omega
 have f:∀ {K:List α->World->Prop},OwnFrom w.heap.size K->∀r s W o,Fact r W->K s W->K s (W.putObj (w.heap.size+1) o):=fun hK r s W o i U=>hK.putObj o U (by omega) i.2 rfl;obtain⟨H,J⟩:∃H,H=(w.alloc (.deferred (some []))).alloc (.loop rec0):=⟨_,rfl⟩
 have aB:H.heap.size=w.heap.size+2:=by rw[J]; simp
 have a7:Fact rec0 H:=by
  have h1:=World.alloc_heap_new (w.alloc (.deferred (some []))) (.loop rec0);rw[World.size_alloc] at h1;rw[J];exact⟨(Below.heap_alloc _ _ _ (by simp)).trans (World.alloc_heap_new w _),h1⟩
 have a4:Below w.heap.size w H:=by rw[J]; exact ((Below.refl _ w).alloc (Nat.le_refl _) _).alloc (by simp) _
 refine⟨w.heap.size+1,[{ target:=.collected w.heap.size,args:=#[] }],H,{ target:=.fn (.func X) lb,args:=#[.func (.yield (w.heap.size+1)) #[] #[]] },H,X,
  #[.func (.yield (w.heap.size+1)) #[] #[]]++lb,H,?_,?_,fun _ _=>trivial,?_,fun h=>(by cases h),?_⟩
 ·rw[J]; exact run_enterLoop_outer _ _ _ _ _
 ·simp only[resolve,hg];simp[go_sem]
 ·simp[invoke,go_sem,eg]
 refine (a5 (w.heap.size+1) (fun pre W=>I pre W∧Fact rec0 W) (fun pre W=>Ix pre W∧Fact { rec0 with state:=.done,pending:=some (.exit id) } W) H (a2.trans (a4.mono a2.size))
  (fun s A B row U u C=>⟨vT hI (by omega) s A B row U.1 u C,q _ s A B row U.2 u fun b e=>by have:=(C b e).1; omega⟩)
  (fun s A B row U u C=>⟨vT M (by omega) s A B row U.1 u C,q _ s A B row U.2 u fun b e=>by have:=(C b e).1; omega⟩) ?_ ⟨rL hI h0 a4,a7⟩).mono ?_
 ·rintro pre x W G a6 ⟨hi,i⟩;rw[aB] at a6 ⊢;refine⟨fn,_,assign,body,run_yield i.2 (aA x),roundIn_of_wpIn a8 (F _ x W _ ⟨_,run_beginRound i.2 rfl,?_⟩)⟩;have R:=d _ { rec0 with state:=.busy } W i
  have a9:∀k,w.heap.size<=k->k<w.heap.size+2->∃o:Obj,(W.putObj (w.heap.size+1) (.loop { rec0 with state:=.busy })).heap[k]?=some o∧o.isCells=false:=fun k h1 h2=>by
   obtain rfl | rfl:k=w.heap.size∨k=w.heap.size+1:=by omega
   ·exact⟨_,R.1,rfl⟩
   ·exact⟨_,R.2,rfl⟩
  refine wpIn_mono (N _ pre x _ G (by simpa using a6) a9 (f hI _ _ _ _ i hi)) ?_;rintro e a3 Z Y
  have a0:∀(j:Option Code),Mid w.heap.size (w.heap.size+2+c) (W.putObj (w.heap.size+1) (.loop { rec0 with state:=.busy })) Z ->
    Fact { rec0 with state:=.busy } Z∧(Instr.endRound (w.heap.size+1) j).run P Z=.ok (.bool j.isNone) (Z.putObj (w.heap.size+1) (.loop { rec0 with state:=if j.isNone then .ready else .done,pending:=j })) ∧
    Mid (w.heap.size+2) (w.heap.size+2+c) W (Z.putObj (w.heap.size+1) (.loop { rec0 with state:=if j.isNone then .ready else .done,pending:=j })):=fun j L=>by
   have n:=z _ _ _ R L;exact⟨n,run_endRound (r:={ rec0 with state:=.busy }) j n.2,((y _ _).trans (L.part (by omega) (by omega))).trans (y _ _)⟩
  cases e with
  | normal=>
   obtain⟨L,hb,S⟩:=Y;obtain⟨n,C,T⟩:=a0 none L;exact⟨_,_,C,.inl ⟨rfl,⟨f hI _ _ _ _ n S,d _ _ _ n⟩,((m _ _ _ i).trans hb).trans (m _ _ _ n),T⟩⟩
  | exit x=>
   obtain⟨rfl,L,S⟩:=Y;obtain⟨n,C,T⟩:=a0 (some (.exit x)) L;exact⟨_,_,C,.inr ⟨rfl,⟨f M _ _ _ _ n S,d _ _ _ n⟩,T⟩⟩
  | ret=>exact Y.elim
  | goto t=>exact Y.elim
  | panic ch=>exact Y.elim
  | outgrown=>exact Y.elim
 ·rintro e W2 ⟨⟨v,rfl⟩,⟨hi,i⟩ | ⟨pre,G,hi,i⟩⟩
  ·exact⟨none,_,run_endLoop i.2 (by simp[rec0]),O _ _ (Nat.le_refl _) (f hI _ _ _ _ i hi) (d _ _ _ i).1⟩
  ·exact⟨some (.exit id),_,run_endLoop i.2 (by simp),V _ pre _ (Nat.le_refl _) G (f M _ _ _ _ i hi) (d _ _ _ i).1⟩
def mark (D:Nat):Deferred:={ target:=.collected D,args:=#[] }
def Marks (n:Nat) (ds:List Nat) (w:World):Prop:=ds.Pairwise (fun a b=>b<a)∧∀D∈ds,n<=D∧w.heap[D]?=some (.deferred (some []))
theorem Marks.nil (n:Nat) (w:World):Marks n [] w:=⟨List.Pairwise.nil,fun _ h=>by cases h⟩
theorem Marks.lt {n:Nat}{ds:List Nat}{w:World}(h:Marks n ds w) {D:Nat}(a:D∈ds):D<w.heap.size:=(Array.getElem?_eq_some_iff.1 (h.2 D a).2).1
theorem Marks.cons {n D:Nat}{ds:List Nat}{w:World}(h:Marks n ds w) (d:n<=D) (b:w.heap[D]?=some (.deferred (some []))) (c:∀x∈ds,x<D):Marks n (D :: ds) w:=
 ⟨List.Pairwise.cons c h.1,fun x a=>by
  obtain rfl | a:=List.mem_cons.1 a
  ·exact⟨d,b⟩
  ·exact h.2 x a⟩
theorem Marks.keep {n b:Nat}{ds:List Nat}{w w':World}(h:Marks n ds w) (k:aY b w w') (c:∀D∈ds,D≠b):Marks n ds w':=
 ⟨h.1,fun D a=>⟨(h.2 D a).1,k.other D _ (h.2 D a).2 rfl (c D a)⟩⟩
theorem Marks.grown {n N:Nat}{ds:List Nat}{w w':World}{row:Option Nat}(h:Marks n ds w) (g:w.grownBy w' row) (c:∀r,row=some r->N<=r) (b:∀D∈ds,D<N):Marks n ds w':=
 ⟨h.1,fun D a=>⟨(h.2 D a).1,(g.block D (h.lt a) fun e=>by have:=c D e.symm; have:=b D a; omega).trans (h.2 D a).2⟩⟩
theorem Eu {P:Program}{fn:Func}{tmps:Array Value}{R:Ending->World->Prop}{n:Nat}{I:Unit->World->Prop}(e:OwnFrom n I) (a:fn.results=#[]) (f:∀W,I () W->R (.returned (.tuple #[])) W) :
  ∀(ds:List Nat) (w:World),Marks n ds w->I () w->LeavesInM Fence.wide 0 P fn tmps R (ds.map mark) .returning w
 | [],w,_,h=>⟨_,results_none a _ _ _,f w h⟩
 | D :: ds,w,hm,h=>by
  obtain⟨k,b⟩:=hm
  obtain⟨g,i⟩:=List.pairwise_cons.1 k
  obtain⟨j,d⟩:=b D (List.mem_cons_self ..)
  exact⟨by simp,.inl ⟨D,_,rfl,run_takeDeferred d,Eu e a f ds _ ⟨i,fun x c=>⟨(b x (List.mem_cons_of_mem _ c)).1,(World.putObj_heap_other (by have:=g x c; omega)).trans (b x (List.mem_cons_of_mem _ c)).2⟩⟩ (e.putObj _ h j d rfl)⟩⟩
theorem eN.grown {B b N:Nat}{l:List UInt8}{w w':World}{row:Option Nat}(h:eN B b l w) (g:w.grownBy w' row) (s:∀r,row=some r->N<=r∧∃o:Obj,w.heap[r]?=some o∧o.isCells=false):eN B b l w':=by
 have f:∀q,Lib.BuilderAt 81 5 B b q (Lib.byteCells l) w->Lib.BuilderAt 81 5 B b q (Lib.byteCells l) w':=fun q C=>by
  obtain⟨y,v,n,p,A⟩:=C
  have a:∀(x:Nat) cur t z,w.heap[x]?=some (.cells cur t z)->w'.heap[x]?=w.heap[x]?:=fun x cur t z c=>g.block x (Array.getElem?_eq_some_iff.1 c).1 fun e=>by
   obtain⟨-,o,d,i⟩:=s x e.symm;rw[c] at d
   cases d
   cases i
  refine⟨y,v,(a b _ _ _ n).trans n,gD (K:=fun x=>some x≠row) p ⟨g.os,g.tape,g.output,g.size,fun x c k=>g.block x c k⟩ fun x c k=>?_,A⟩;obtain⟨-,⟨rfl,-⟩ | ⟨D,u,m,rfl,-,j,-⟩⟩:=p
  ·cases c
  ·cases c
   obtain⟨-,o,d,i⟩:=s _ k.symm;rw[j] at d
   cases d
   cases i
 obtain h | h:=h
 ·exact .inl (f _ h)
 ·exact .inr (f _ h)
theorem aY.turn {b N:Nat}{x w w':World}{row:Option Nat}(h:aY b x w) (g:w.grownBy w' row) (d:∀r,row=some r->N<=r∧∃o:Obj,w.heap[r]?=some o∧o.isCells=false) (j:x.heap.size<=N):aY b x w':=
 ⟨Nat.le_trans h.size g.size,fun k cur t a i c=>(g.block k (Nat.lt_of_lt_of_le (Array.getElem?_eq_some_iff.1 a).1 h.size) fun e=>by
   have:=(d k e.symm).1; have:=(Array.getElem?_eq_some_iff.1 a).1; omega).trans (h.block k cur t a i c),fun k o a f c=>(g.block k (Nat.lt_of_lt_of_le (Array.getElem?_eq_some_iff.1 a).1 h.size) fun e=>by
   have:=(d k e.symm).1; have:=(Array.getElem?_eq_some_iff.1 a).1; omega).trans (h.other k o a f c)⟩
theorem pZ {p:aK}{d:aF}{s:Int}{i:Nat}(hi:i∈gI d.aB d.aB.length) (b:zub p d s i=true) (e:d.aB.length=p.aB.length):oP p d s p.aB.length=true:=by
 obtain⟨c,a⟩:=xQ hi;unfold oP;rw[List.any_eq_true];exact⟨i,List.mem_range.2 (by omega),by show zud p d s i=true; rw[Er,b,a]; rfl⟩
theorem oZ {p:aK}{d:aF}{s:Int}(h:(gI d.aB d.aB.length).all (fun i=>!zub p d s i)=true) (c:d.aB.length=p.aB.length):oP p d s p.aB.length=false:=by
 unfold oP;rw[List.any_eq_false];intro i hi;show ¬zud p d s i=true;rw[Er,Bool.and_eq_true];rintro⟨a,b⟩;have:=List.all_eq_true.1 h i (by unfold gI; exact List.mem_filter.2 ⟨List.mem_range.2 (by have:=List.mem_range.1 hi; omega),b⟩);rw[a] at this
 cases this
attribute [local go_sem] Oper.semAt_some
set_option maxRecDepth 100000 in
set_option maxHeartbeats 8000000 in
theorem KA (B b:Nat) (l:List UInt8) (p1 p2 p3 f1 f2 f3:Value) (p:aK) (d:aF) (w:World) (h:eN B b l w) (hl:l.length<=10000) (hB:B<=w.heap.size) (hp:aZ (fun c=>c<B) w p1 p2 p3 p) (hc:cE (fun c=>c<B) w p2 p.aB) (hf:bB (fun c=>c<B) w f1 f2 f3 d) (E:p.Small 1048576) (hd:d.Small 1048576) (hR:cJ p d) (bZ:cF w) (bC : 0<B) :
  Calls Tryz.prog 91 #[.agg #[.int .i64 p.aA,p1,p2,p3,.int .i64 p.aI],.agg #[.bool d.ok,f1,f2,f3],.func (.func 90) #[] #[.pointer (some ⟨b,0,none⟩)]] w fun e w'=>rG B b (l++eM p d d.aH.length) w e w':=by
 have KF:=aD fun (W:World) (k:Below B w W)=>hf.keep (Q:=fun c=>c<B) (fW k fun _ z=>z) fun _ z=>z;have KC:=aD fun (W:World) (k:Below B w W)=>hc.keep (Q:=fun c=>c<B) (fW k fun _ z=>z) fun _ z=>z;obtain⟨a1,c1,rfl⟩:=hp.1.size;obtain⟨a2,c2,rfl⟩:=hp.2.1.size;obtain⟨a3,c3,rfl⟩:=hp.2.2.size;obtain⟨o1,P,rfl⟩:=hf.1.size;obtain⟨V,T,rfl⟩:=hf.2.1.size;obtain⟨o3,U,rfl⟩:=hf.2.2.size;obtain⟨q,aJ⟩:∃n,n=d.aH.length:=⟨_,rfl⟩
 have cL:q<=100:=by rw[aJ]; have h1:=hR.2.2.1; have h2:p.aA<=60:=hR.1.parts.1.1.2; omega
 rw[← aJ] at KF ⊢;have aW:=aD aJ;have HR:=aD hR;have HS:=aD E;have HD:=aD hd;have cN:=h.lt;have T0:=iE w 27 40 127 #[.int .i64 p.aA,.slice a1 p.aE.length c1,.slice a2 p.aB.length c2,.slice a3 p.aO.length c3,.int .i64 p.aI] #[.bool d.ok,.slice o1 q P,.slice V d.aC.length T,.slice o3 d.aB.length U] #[.func (.func 90) #[] #[.pointer (some ⟨b,0,none⟩)]];have u:=T0.row 0 _ _ rfl;rw[Nat.add_zero] at u;have v:=T0.row 1 _ _ rfl;have S:=T0.row 2 _ _ rfl;have b8:Below B w _:=T0.below.mono hB;have b5:eN B b l _:=h.call T0.below;have bA:aY b w _:=aY.aG T0.below;obtain⟨F,a7⟩:∃W,W=((w.alloc (.cells #[.int .i64 p.aA,.slice a1 p.aE.length c1,.slice a2 p.aB.length c2,.slice a3 p.aO.length c3,.int .i64 p.aI] 27)).alloc (.cells #[.bool d.ok,.slice o1 q P,.slice V d.aC.length T,.slice o3 d.aB.length U] 40)).alloc (.cells #[.func (.func 90) #[] #[.pointer (some ⟨b,0,none⟩)]] 127):=⟨_,rfl⟩
 have cR:F.heap.size=w.heap.size+3:=by rw[a7]; simp
 have g1:=T0.c 1 1 rfl rfl;rw[← a7] at g1 u v S b8 b5 bA;have cB:=aD u;have cA:=aD v;have cC:=aD S;have bG:=aD b8;have Y:=aD b5;have aS:=aD bA;have aX:=aD bZ;have bO:=aD a7;clear hf hp hc h T0 u v S b8 b5 bA bZ aJ hR E hd a7;refine (callsIn_wide (n:=0)).1 (callsIn_of_wp_marks Tryz.func91 rfl trivial ?_ rfl);simp only[Tryz.ntmps91,List.size_toArray,List.length_cons,List.length_nil,Nat.reduceAdd,Nat.reduceSub,Array.replicate_succ,Array.replicate_zero,List.push_toArray,List.append_toArray,List.nil_append,List.cons_append]
 gi_wp2_with fail
 rw[← bO.out];clear bO;refine wpIn_wide.2 (wp_scope_straight ((wpIn_wide (n:=0)).1 ?_))
 gi_wp2_with fail
 refine wpIn_label ?_
 gi_wp2_with fail
 clear g1;refine wpIn_loop (fun a wr=>∃u6 u7 u8 u9 u14 u15 u16 u17 u18 u19 u20 u21 u22 u23 u24 u25 u26 u27 u28 u29 u30 u31 u32 u33 u34 bE:Value,∃(ds:List Nat) (k:Nat),k<=q∧a={ tmps:=#[.agg #[.int .i64 p.aA,.slice a1 p.aE.length c1,.slice a2 p.aB.length c2,.slice a3 p.aO.length c3,.int .i64 p.aI],.agg #[.bool d.ok,.slice o1 q P,.slice V d.aC.length T,.slice o3 d.aB.length U],.func (.func 90) #[] #[.pointer (some ⟨b,0,none⟩)],.pointer (some ⟨w.heap.size,0,none⟩),.pointer (some ⟨w.heap.size+1,0,none⟩),.pointer (some ⟨w.heap.size+1+1,0,none⟩),u6,u7,u8,u9,.pointer (some ⟨w.heap.size+1,1,none⟩),.slice o1 q P,.int .i64 (q:Int),.int .i64 (k:Int),u14,u15,u16,u17,u18,u19,u20,u21,u22,u23,u24,u25,u26,u27,u28,u29,u30,u31,u32,u33,u34,bE],defers:=ds.map mark }∧eN B b (l++eM p d k) wr∧Below B w wr∧aY b F wr∧B<=wr.heap.size∧Marks F.heap.size ds wr) (fun a _=>q-(intOf (a.tmps.getD 13 undef)).toNat) ?start ?round
 case start=>exact⟨_,_,_,_,_,_,_,_,_,_,_,_,_,_,_,_,_,_,_,_,_,_,_,_,_,_,[],0,Nat.zero_le _,rfl,by show eN B b (l++[]) F; rw[List.append_nil]; exact Y.out,bG.out,aY.refl _ _,Nat.le_trans hB aS.out.size,Marks.nil _ _⟩
 case round=>
  rintro a wr ⟨u6,u7,u8,u9,u14,u15,u16,u17,u18,u19,u20,u21,u22,u23,u24,u25,u26,u27,u28,u29,u30,u31,u32,u33,u34,bE,ds,k,hk,rfl,a8,a5,O,b6,a9⟩;clear bG Y;by_cases bT:k<q
  ·have bU:decide ((k:Int)<(q:Int))=true:=decide_eq_true (by omega)
   have cP:(k:Int)<(q:Int):=by omega
   obtain⟨x,hx⟩:=eU d.aH (show k<d.aH.length by have:=aW.out; omega);obtain⟨ax,kx,ex,h0 | ⟨R,oq,bP,cO,bQ⟩⟩:=(KF.out _ a5).1
   ·have:=aW.out; omega
   obtain rfl:o1=some ⟨R,oq,none⟩:=by cases ex; exact bP
   clear ex bP;have z0:=bQ k (by have:=aW.out; omega) x hx;have u:=O.row cB.out (by decide) (by omega);have v:=O.row cA.out (by decide) (by omega);have S:=O.row cC.out (by decide) (by omega);have b0:=u.cell (i:=0) (by show 0<5; omega);have b1:=u.cell (i:=1) (by show 1<5; omega);have b2:=u.cell (i:=2) (by show 2<5; omega);have b3:=u.cell (i:=3) (by show 3<5; omega);have b4:=u.cell (i:=4) (by show 4<5; omega);have q0:=v.cell (i:=0) (by show 0<4; omega);have q1:=v.cell (i:=1) (by show 1<4; omega);have q2:=v.cell (i:=2) (by show 2<4; omega);have q3:=v.cell (i:=3) (by show 3<4; omega);have t0:wr.cell? ⟨w.heap.size+1+1,0,none⟩=some (.func (.func 90) #[] #[.pointer (some ⟨b,0,none⟩)]):=S.cell (i:=0) (by show 0<1; omega);have Y:=aD a8;have aQ:=aD a5;have aT:=aD O;have Z:=aD a9;clear a8 a5 O a9 bQ u v S
   have bW:∀D∈ds,D≠b:=fun D hD e=>by have:=(Z.out.2 D hD).1; omega
   have a0:=aD bW;clear bW
   cases x
   ·have HX:=aD hx;clear hx;have cT:=aT.out.size;have cS:=aS.out.size;have TA:=cZ wr 101 #[.int .i64 p.aA,.slice a1 p.aE.length c1,.slice a2 p.aB.length c2,.slice a3 p.aO.length c3,.int .i64 p.aI,.bool d.ok,.slice (some ⟨R,oq,none⟩) q P,.slice V d.aC.length T,.slice o3 d.aB.length U,.int .i64 (k:Int)];have r0:=(TA.below.cell (p:=⟨w.heap.size+1,0,none⟩) (by show w.heap.size+1<_; omega)).trans q0;have r1:=(TA.below.cell (p:=⟨w.heap.size+1,1,none⟩) (by show w.heap.size+1<_; omega)).trans q1;have r2:=(TA.below.cell (p:=⟨w.heap.size+1,2,none⟩) (by show w.heap.size+1<_; omega)).trans q2;have r3:=(TA.below.cell (p:=⟨w.heap.size+1,3,none⟩) (by show w.heap.size+1<_; omega)).trans q3;clear TA
    gi_wp2_with fail
    refine⟨trivial,rfl,(callsIn_wide.2 (Ah _ _ _ _ _)).mono ?_⟩;clear r0 r1 r2 r3 b0 b1 b2 b3 b4 q0 q1 q2 q3 z0;rintro e wc ⟨rfl,bD⟩;have X:=eB wr 101 40 #[.int .i64 p.aA,.slice a1 p.aE.length c1,.slice a2 p.aB.length c2,.slice a3 p.aO.length c3,.int .i64 p.aI,.bool d.ok,.slice (some ⟨R,oq,none⟩) q P,.slice V d.aC.length T,.slice o3 d.aB.length U,.int .i64 (k:Int)] #[.bool d.ok,.slice (some ⟨R,oq,none⟩) q P,.slice V d.aC.length T,.slice o3 d.aB.length U];rw[← bD] at X
    have cQ:wc.heap.size=wr.heap.size+2:=by rw[bD]; simp
    have bY:(wr.alloc (.cells #[.int .i64 p.aA,.slice a1 p.aE.length c1,.slice a2 p.aB.length c2,.slice a3 p.aO.length c3,.int .i64 p.aI,.bool d.ok,.slice (some ⟨R,oq,none⟩) q P,.slice V d.aC.length T,.slice o3 d.aB.length U,.int .i64 (k:Int)] 101)).heap.size=wr.heap.size+1:=by simp
    rw[bY];clear bD bY;have tc:=(X.below.cell (p:=⟨w.heap.size+1+1,0,none⟩) (by show w.heap.size+1+1<_; omega)).trans t0;have cD:=aD X;have bN:=aD tc;have f0:wc.cell? ⟨wr.heap.size+1,0,none⟩=some (.bool d.ok):=X.c 1 0 rfl rfl;have f1:wc.cell? ⟨wr.heap.size+1,1,none⟩=some (.slice (some ⟨R,oq,none⟩) q P):=X.c 1 1 rfl rfl;have f2:wc.cell? ⟨wr.heap.size+1,2,none⟩=some (.slice V d.aC.length T):=X.c 1 2 rfl rfl;have f3:wc.cell? ⟨wr.heap.size+1,3,none⟩=some (.slice o3 d.aB.length U):=X.c 1 3 rfl rfl;have b9:Below B w wc:=aQ.out.trans (X.below.mono b6);have bH:=aD b9;have bK:=aD (aT.out.trans (aY.aG (b:=b) X.below));have bI:=aD (Y.out.call X.below);have aU:=aD (Z.out.keep (aY.aG (b:=b) X.below) a0.out);have bV:∀D∈ds,D<wc.heap.size:=fun D hD=>aU.out.lt hD;have aV:=aD bV;have bS:d.aB.length=p.aB.length:=HR.out.2.2.2.2.1;have HL:=aD bS
    have a6:∀x W,x∈gI d.aB d.aB.length->Below B w W->B<=W.heap.size->Calls Tryz.prog 57 #[.agg #[.int .i64 p.aA,.slice a1 p.aE.length c1,.slice a2 p.aB.length c2,.slice a3 p.aO.length c3,.int .i64 p.aI,.bool d.ok,.slice (some ⟨R,oq,none⟩) q P,.slice V d.aC.length T,.slice o3 d.aB.length U,.int .i64 (k:Int)],.int .i64 (x:Int)] W fun e W'=>e=.returned (.bool (zub p d (k:Int) x))∧Below W.heap.size W W':=fun x W hx hW a4=>by
     have bT:=(xQ hx).1;obtain⟨y,hy⟩:=eU p.aB (show x<p.aB.length by omega);obtain⟨g,N⟩:=eU d.aB bT;obtain⟨v1,v2⟩:=zF HR.out hy N;rw[Ju hy N];exact Db _ _ _ _ _ _ _ _ _ p.aB d.aB x y g (k:Int) W ((KC.out W hW).keep (hU _ _) fun _ hb=>Nat.lt_of_lt_of_le hb a4) ((KF.out W hW).2.2.keep (hU _ _) fun _ hb=>Nat.lt_of_lt_of_le hb a4) hy N HS.out.2.1 HD.out.2.2.1 (HS.out.2.2.1 y (List.mem_of_getElem? hy)).1 v1 v2
    have c6:=aD a6;have c5:=aD (AZ _ _ _ _ d.aB wc.heap.size (wr.heap.size+1) wc (by omega) (Nat.le_refl _) f0 f1 f2 f3 ((KF.out wc b9).2.2.keep (hU _ _) fun _ hb=>Nat.lt_of_lt_of_le hb (by omega)) HD.out.2.2.1)
    have c0:nO p d k=if oP p d (k:Int) p.aB.length=true then 61 else 46:=by
     unfold nO;rw[List.getD_eq_getElem?_getD,HX.out];rfl
    have bM:=aD c0;clear a6 f0 f1 f2 f3 X tc b9 bV bS c0 t0
    gi_wp2_with fail
    refine KT (id:=1) (w0:=wc) (n0:=wc.heap.size) (c:=0) rfl (enters_of Tryz.func99 (by kernel_rfl) rfl) c5.out (Below.refl _ _) (Nat.le_refl _) (fun _=>rfl)
     (fun aL W=>aL.all (fun i=>!zub p d (k:Int) i)=true∧Below wc.heap.size wc W)
     (fun _ W=>eN B b (l++eM p d (k+1)) W∧Below B w W∧aY b F W∧B<=W.heap.size∧Marks F.heap.size ds W)
     (fun _ A C row E N hr=>⟨E.1,E.2.grown N E.2.size fun r e=>(hr r e).1⟩)
     (fun _ A C row E N hr=>⟨E.1.grown N hr,E.2.1.grown N E.2.2.2.1 fun r e=>by have:=(hr r e).1; omega,E.2.2.1.turn N hr (by omega),Nat.le_trans E.2.2.2.1 N.size,E.2.2.2.2.grown N (fun r e=>(hr r e).1) aV.out⟩)
     ⟨rfl,Below.refl _ _⟩
     (fun x=>{ tmps:=#[.agg #[.int .i64 p.aA,.slice a1 p.aE.length c1,.slice a2 p.aB.length c2,.slice a3 p.aO.length c3,.int .i64 p.aI],.agg #[.bool d.ok,.slice (some ⟨R,oq,none⟩) q P,.slice V d.aC.length T,.slice o3 d.aB.length U],.func (.func 90) #[] #[.pointer (some ⟨b,0,none⟩)],.pointer (some ⟨w.heap.size,0,none⟩),.pointer (some ⟨w.heap.size+1,0,none⟩),.pointer (some ⟨w.heap.size+1+1,0,none⟩),.int .i64 (k:Int),.bool false,.pointer (some ⟨wr.heap.size,0,none⟩),.int .i64 (x:Int),.pointer (some ⟨w.heap.size+1,1,none⟩),.slice (some ⟨R,oq,none⟩) q P,.int .i64 (q:Int),.int .i64 (k:Int),.bool true,.int .i64 (k:Int),.pointer (some ⟨R,oq+k,none⟩),.bool false,.bool false,u19,u20,.agg #[.int .i64 p.aA,.slice a1 p.aE.length c1,.slice a2 p.aB.length c2,.slice a3 p.aO.length c3,.int .i64 p.aI],.agg #[.bool d.ok,.slice (some ⟨R,oq,none⟩) q P,.slice V d.aC.length T,.slice o3 d.aB.length U],.int .i64 (k:Int),.agg #[.int .i64 p.aA,.slice a1 p.aE.length c1,.slice a2 p.aB.length c2,.slice a3 p.aO.length c3,.int .i64 p.aI,.bool d.ok,.slice (some ⟨R,oq,none⟩) q P,.slice V d.aC.length T,.slice o3 d.aB.length U,.int .i64 (k:Int)],.agg #[.bool d.ok,.slice (some ⟨R,oq,none⟩) q P,.slice V d.aC.length T,.slice o3 d.aB.length U],.func (.func 99) #[] #[.pointer (some ⟨wr.heap.size+1,0,none⟩)],.int .i64 (x:Int),u28,u29,u30,u31,u32,u33,u34,bE],defers:=[] }) ?assign ?body ?done ?stop
    case assign=>
     intro lr x J K hK
     gi_wp2
     exact hK
    case body=>
     rintro lr aL x J aN cM bX ⟨G,f⟩;have aM:x∈gI d.aB d.aB.length:=aN.subset (by simp);have TW:=cD.out.call f;have y0:=TW.c 0 0 rfl rfl;have y1:=TW.c 0 1 rfl rfl;have y2:=TW.c 0 2 rfl rfl;have y3:=TW.c 0 3 rfl rfl;have y4:=TW.c 0 4 rfl rfl;have y5:=TW.c 0 5 rfl rfl;have y6:=TW.c 0 6 rfl rfl;have y7:=TW.c 0 7 rfl rfl;have y8:=TW.c 0 8 rfl rfl;have y9:=TW.c 0 9 rfl rfl;rw[Nat.add_zero] at y0 y1 y2 y3 y4 y5 y6 y7 y8 y9;clear TW;have tw:=(f.cell (p:=⟨w.heap.size+1+1,0,none⟩) (by show w.heap.size+1+1<_; omega)).trans bN.out
     have a4:B<=J.heap.size:=by omega
     have M:Below B w J:=bH.out.trans (f.mono (by omega));have hI:=c6.out x J aM M a4;have aP:=aD f;have aR:=aD M;have cG:=aD tw;have c9:=aD bX;have bF:=aD G;clear f M tw bX G
     cases hkx:zub p d (k:Int) x
     ·rw[hkx] at hI;have HI:=aD hI;have c8:=aD hkx;clear hI hkx
      gi_wp2_with fail
      refine⟨trivial,rfl,CallsIn.inRound lr ((callsIn_wide.2 HI.out).mono ?_)⟩;clear y0 y1 y2 y3 y4 y5 y6 y7 y8 y9;rintro e v1 ⟨rfl,m⟩;have s:=aD (show Mid wc.heap.size (wc.heap.size+2+0) J v1∧Below wc.heap.size J v1∧(aL++[x]).all (fun i=>!zub p d (k:Int) i)=true∧Below wc.heap.size wc v1 from ⟨Mid.call m (by omega),m.mono (by omega),by rw[List.all_append,bF.out]; simp[c8.out],aP.out.trans (m.mono (by omega))⟩);clear m HI
      gi_wp2
      exact s.out
     ·rw[hkx] at hI;have HI:=aD hI
      have H:l++eM p d k++[61]=l++eM p d (k+1):=by rw[yH,bM.out,pZ aM hkx HL.out]; simp
      have cI:=aD H;clear hI hkx H
      gi_wp2_with fail
      refine⟨trivial,rfl,CallsIn.inRound lr ((callsIn_wide.2 HI.out).mono ?_)⟩;clear y0 y1 y2 y3 y4 y5 y6 y7 y8 y9;rintro e v1 ⟨rfl,m⟩;have cV:=m.size;have t1:=(m.cell (p:=⟨w.heap.size+1+1,0,none⟩) (by show w.heap.size+1+1<_; omega)).trans cG.out;have b7:Below B w v1:=aR.out.trans (m.mono a4);have t:=aD (uF B b (l++eM p d k) 6 61 v1 ((bI.out.call aP.out).call m) (by rw[List.length_append,pV]; omega) (by omega) rfl (aX.out.below b7 bC));rw[cI.out] at t;have c4:=aD b7;have bR:aY b wc v1:=(aY.aG aP.out).trans (aY.aG m);have bJ:=aD bR;have cH:=aD m;clear bR m b7 HI
      gi_wp2_with fail
      refine⟨trivial,rfl,CallsIn.inRound lr ((callsIn_wide.2 t.out).mono ?_)⟩;rintro e v2 ⟨rfl,g1,g2,L⟩
      have s:=aD (show Mid wc.heap.size (wc.heap.size+2+0) J v2∧eN B b (l++eM p d (k+1)) v2∧Below B w v2∧aY b F v2∧B<=v2.heap.size∧Marks F.heap.size ds v2 from ⟨fun j h1 h2=>by
        obtain⟨o,ho,cK⟩:=c9.out j h1 (by omega)
        exact (L.other j o ((cH.out.block j (by omega)).trans ho) cK (by omega)).trans ho.symm,g1,c4.out.trans g2,(bK.out.trans bJ.out).trans L,by have:=L.size; omega,(aU.out.keep bJ.out a0.out).keep L a0.out⟩)
      clear g1 g2 L t t1
      gi_wp2
      exact⟨rfl,s.out⟩
    case done=>
     rintro D J hD ⟨G,f⟩ hK;have cU:=f.size;have tw:=(f.cell (p:=⟨w.heap.size+1+1,0,none⟩) (by show w.heap.size+1+1<_; omega)).trans bN.out;have M:Below B w J:=bH.out.trans (f.mono (by omega))
     have H:l++eM p d k++[46]=l++eM p d (k+1):=by rw[yH,bM.out,oZ G HL.out]; simp
     have t:=aD (uF B b (l++eM p d k) 5 46 J (bI.out.call f) (by rw[List.length_append,pV]; omega) (by omega) rfl (aX.out.below M bC));rw[H] at t;have bL:=aD ((aU.out.keep (aY.aG (b:=b) f) a0.out).cons (show F.heap.size<=D by omega) hK fun z hz=>Nat.lt_of_lt_of_le (aV.out z hz) hD);have c7:=aD (bK.out.trans (aY.aG (b:=b) f));have aR:=aD M;clear G f M H hK
     gi_wp2_with fail
     refine⟨trivial,rfl,(callsIn_wide.2 t.out).mono ?_⟩;rintro e v2 ⟨rfl,g1,g2,L⟩;have s:=aD (show eN B b (l++eM p d (k+1)) v2∧Below B w v2∧aY b F v2∧B<=v2.heap.size∧Marks F.heap.size (D :: ds) v2 from ⟨g1,aR.out.trans g2,c7.out.trans L,by have:=L.size; omega,bL.out.keep L fun z hz e=>by have:=(bL.out.2 z hz).1; omega⟩);clear g1 g2 L t tw
     gi_wp2
     rw[show (k:Int)+1=((k+1:Nat):Int) from rfl];exact⟨⟨_,_,_,_,_,_,_,_,_,_,_,_,_,_,_,_,_,_,_,_,_,_,_,_,_,_,D :: ds,k+1,by omega,rfl,s.out⟩,by simp[intOf]; omega⟩
    case stop=>
     rintro D aL J hD aN ⟨h1,h2,h3,h4,h5⟩ hK;have s:=aD (show eN B b (l++eM p d (k+1)) J∧Below B w J∧aY b F J∧B<=J.heap.size∧Marks F.heap.size (D :: ds) J from ⟨h1,h2,h3,h4,h5.cons (show F.heap.size<=D by omega) hK fun z hz=>Nat.lt_of_lt_of_le (aV.out z hz) hD⟩);clear h1 h2 h3 h4 h5 hK
     gi_wp2
     rw[show (k:Int)+1=((k+1:Nat):Int) from rfl];exact⟨⟨_,_,_,_,_,_,_,_,_,_,_,_,_,_,_,_,_,_,_,_,_,_,_,_,_,_,D :: ds,k+1,by omega,rfl,s.out⟩,by simp[intOf]; omega⟩
   ·have H:l++eM p d k++[35]=l++eM p d (k+1):=by
     rw[yH,List.append_assoc];unfold nO;rw[List.getD_eq_getElem?_getD,hx];rfl
    have t:=aD (uF B b (l++eM p d k) 7 35 wr Y.out (by rw[List.length_append,pV]; omega) b6 rfl (aX.out.below aQ.out bC));rw[H] at t;clear H hx
    gi_wp2_with fail
    refine⟨trivial,rfl,(callsIn_wide.2 t.out).mono ?_⟩;rintro e w3 ⟨rfl,g1,g2,L⟩;clear b0 b1 b2 b3 b4 q0 q1 q2 q3 t0 z0;have s:=aD (show eN B b (l++eM p d (k+1)) w3∧Below B w w3∧aY b F w3∧B<=w3.heap.size∧Marks F.heap.size ds w3 from ⟨g1,aQ.out.trans g2,aT.out.trans L,Nat.le_trans b6 L.size,Z.out.keep L a0.out⟩);clear g1 g2 L t
    gi_wp2
    rw[show (k:Int)+1=((k+1:Nat):Int) from rfl];exact⟨⟨_,_,_,_,_,_,_,_,_,_,_,_,_,_,_,_,_,_,_,_,_,_,_,_,_,_,ds,k+1,by omega,rfl,s.out⟩,by simp[intOf]; omega⟩
  ·have bU:decide ((k:Int)<(q:Int))=false:=decide_eq_false (by omega)
   obtain rfl:k=q:=by omega
   have s:=aD (show rG B b (l++eM p d k) w (.returned (.tuple #[])) wr from ⟨rfl,a8,a5,aS.out.trans O⟩);have Z:=aD a9;clear a8 a5 O a9
   gi_wp2
   exact Eu (n:=F.heap.size) (I:=fun _ W=>rG B b (l++eM p d k) w (.returned (.tuple #[])) W) (fun _ A C row E N hr=>⟨rfl,E.2.1.grown N hr,E.2.2.1.grown N (Nat.le_trans hB E.2.2.2.size) fun r e=>by have:=(hr r e).1; omega,E.2.2.2.turn N hr (by omega)⟩) rfl (fun W hW=>hW) ds wr Z.out s.out
end
end Go.Proofs.YtdhinkgjiapigaaGreatDoor

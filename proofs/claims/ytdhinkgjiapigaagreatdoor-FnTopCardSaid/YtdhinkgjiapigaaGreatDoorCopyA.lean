import Derived.Test.YtdhinkgjiapigaaGreatDoorSpec5
import Derived.Laws.AppendOwnNone
namespace Go.Proofs.YtdhinkgjiapigaaGreatDoor
open Go.Deep Go.RowKit
theorem FP {P:Program}{w:World}(base:Nat) (t h e:TypeId) (i:TypeInfo) (size:Nat) (d:P.underlying t=some (.slice e)) (hi:P.info? e=some i)
  (v:Value) (n:Nat) (xs:List Value) (a:w.ownsRow base e size v n xs) (c:Nat) :
  (Builtin.append_ #[t,t] h #[v,.slice none 0 c]).run P w=.ok v w:=by
 rcases a.2 with ⟨rfl,rfl⟩ | ⟨g,f,cur,rfl,_,_,b,_⟩
 ·simp[Builtin.append_,run_underlying d,sizeOf,typeInfo,hi,Builtin.lenOf,Builtin.firstCells]
 ·simp[Builtin.append_,run_underlying d,sizeOf,typeInfo,hi,Builtin.lenOf,Builtin.firstCells,b,storeCells]
theorem iN {P:Program}{w:World}{G:Array Oper}{q:List Oper}{o:Oper}{a:Act}{Q:Exit->Act->World->Prop}(r:o.guard=none) (s x:Operand) (t:TypeId)
  (L:o.op=.call { callee:=.builtin .append,args:=#[s,x],argTypes:=#[t,t] })
  (base:Nat) (e:TypeId) (z:Value) (size f:Nat) (N:P.underlying t=some (.slice e)) (b:(P.info? e).map (fun i=>(i.zero,i.size,i.bytes))=some (some z,size,f)) (F:z.cells.size=size) (E:0<size)
  (v:Value) (n:Nat) (xs:List Value) (M:a.eval s=v) (k:w.ownsRow base e size v n xs)
  (H:Option Addr) (m c:Nat) (d:List Value) (O:a.eval x=.slice H m c) (S:d.length=m*size) (y:m=0∨∃A,H=some A∧∀j u,d[j]?=some u->w.cell? (A.add j)=some u) (R:∀u∈d,u.oneCell'=true)
  (B:n+m<=maxLen) (g:(n+m)*f<=140737488355328) (l:base<=w.heap.size)
  (h:∀v' w',w'.ownsRow base e size v' (n+m) (xs++d)->w.grownBy w' v.ownBlock->wpList P G Q q (a.put o.dst v') w'):wpList P G Q (o :: q) a w:=by
 cases hi:P.info? e with
 | none=>rw[hi] at b; cases b
 | some i=>
  rw[hi] at b;simp only[Option.map_some,Option.some.injEq,Prod.mk.injEq] at b;obtain⟨T,p,C⟩:=b;rcases y with V | ⟨A,rfl,X⟩
  ·subst V;have U:d=[]:=List.length_eq_zero_iff.1 (by omega);subst U
   cases H with
   | some A=>exact wpList_append_own w r s x t L base e i z size f N hi T p C F E v n xs M k A 0 c [] O S (fun j u Y=>by simp at Y) R B g l fun v' w' I J _=>h v' w' I J
   | none=>
   refine wpList_plain r fun K W=>?_;have D:=FP (P:=P) (w:=w) base t o.type e i size N hi v n xs k c;unfold Oper.wp;simp[execOp,L,resolve,invoke,builtin,M,O,D,Result.andThen];exact W _ _ (h v w (by simpa using k) ⟨rfl,rfl,rfl,Nat.le_refl _,fun _ _ _=>rfl⟩)
  ·exact wpList_append_own w r s x t L base e i z size f N hi T p C F E v n xs M k A m c d O S X R B g l fun v' w' I J _=>h v' w' I J
theorem zdt {w:World}{base e size:Nat}{v:Value}{n:Nat}{xs:List Value}(h:w.ownsRow base e size v n xs) (q:0<n) :
  ∃g cap f,v=.slice (some ⟨g,0,none⟩) n cap∧base<=g∧w.rowIs g e (cap*size) f∧n*size<=cap*size∧∀j u,xs[j]?=some u->f j=u:=by
 obtain⟨p,⟨-,m⟩ | ⟨g,cap,cur,l,c,d,b,-,i,k⟩⟩:=h
 ·omega
 ·refine⟨g,cap,fun j=>cur[j]!,l,c,⟨cur,d,i,fun j o=>?_⟩,Nat.mul_le_mul_right _ b,fun j u a=>?_⟩
  ·show cur[j]?=some cur[j]!;rw[getElem!_pos cur j (by omega)];exact Array.getElem?_eq_getElem _
  ·rw[← k,List.getElem?_take] at a;split at a
   ·rw[Array.getElem?_toList] at a;show cur[j]! = u;rw[getElem!_def,a]
   ·cases a
theorem BD {w:World}{base:Nat}{v:Value}{l:List Bool}{n:Nat}(h:w.ownsRow base 4 1 v n (l.map .bool)) (e:n=l.length) (j:0<l.length):∃b,aV w v l b∧base<=b:=by
 subst e;obtain⟨g,a,f,m,c,k,p,d⟩:=zdt h j;exact⟨g,⟨f,_,a,m,k,by omega,fun i x o=>d i _ (by rw[List.getElem?_map,o]; rfl)⟩,c⟩
def dC (l:List (Int×Int)):List Value:=l.flatMap fun x=>[.int .i64 x.1,.int .i64 x.2]
theorem tN (l:List (Int×Int)):(dC l).length=l.length*2:=by
 unfold dC
 induction l with
 | nil=>rfl
 | cons a l ih=>simp only[List.flatMap_cons,List.length_append,List.length_cons,List.length_nil]; omega
theorem xJ (l:List (Int×Int)) (i:Nat) (x:Int×Int) (h:l[i]?=some x):(dC l)[i*2]?=some (.int .i64 x.1)∧(dC l)[i*2+1]?=some (.int .i64 x.2):=by
 unfold dC
 induction l generalizing i with
 | nil=>simp at h
 | cons a l ih=>
  cases i with
  | zero=>simp at h; subst h; exact⟨rfl,rfl⟩
  | succ i=>
   have:=ih i (by simpa using h);rw[List.flatMap_cons];refine⟨?_,?_⟩
   ·rw[List.getElem?_append_right (by simp; omega)];simpa [show (i+1)*2-2=i*2 by omega] using this.1
   ·rw[List.getElem?_append_right (by simp; omega)];simpa [show (i+1)*2+1-2=i*2+1 by omega] using this.2
theorem vM {w:World}{base:Nat}{v:Value}{l:List (Int×Int)}{n:Nat}(h:w.ownsRow base 46 2 v n (dC l)) (m:n=l.length):∃b,bH w v l b∧(l.length≠0->base<=b):=by
 subst m;rcases Nat.eq_zero_or_pos l.length with e | e
 ·obtain⟨-,⟨rfl,-⟩ | ⟨g,a,cur,rfl,-⟩⟩:=h
  ·exact⟨0,⟨none,0,by rw[e],.inl e⟩,fun z=>absurd e z⟩
  ·exact⟨0,⟨_,a,rfl,.inl e⟩,fun z=>absurd e z⟩
 ·obtain⟨g,a,f,rfl,j,o,k,c⟩:=zdt h e;exact⟨g,⟨_,a,rfl,.inr ⟨rfl,f,_,o,k,fun i x d=>⟨c _ _ (xJ l i x d).1,c _ _ (xJ l i x d).2⟩⟩⟩,fun _=>j⟩
theorem mJ (b o j:Nat):(⟨b,o,none⟩:Addr).add j=⟨b,o+j,none⟩:=by simp[Addr.add]
theorem Ao {P:Nat->Prop}{W:World}{a:Option Addr}{l:List Bool}{c:Nat}(h:Bools P W (.slice a l.length c) l):l.length=0∨∃A,a=some A∧∀j u,(l.map Value.bool)[j]?=some u->W.cell? (A.add j)=some u:=by
 obtain⟨k,m,i,f | ⟨b,off,rfl,-,g⟩⟩:=h
 ·exact .inl f
 ·cases i
  refine .inr ⟨_,rfl,fun j u d=>?_⟩;rw[List.getElem?_map] at d;obtain⟨x,e,rfl⟩:=Option.map_eq_some_iff.1 d;rw[mJ];exact g j (List.getElem?_eq_some_iff.1 e).1 x e
theorem vP {P:Nat->Prop}{W:World}{a:Option Addr}{l:List (Int×Int)}{c:Nat}(h:Lies P W (.slice a l.length c) l):l.length=0∨∃A,a=some A∧∀j u,(dC l)[j]?=some u->W.cell? (A.add j)=some u:=by
 obtain⟨r,s,q,n | ⟨b,off,rfl,-,o⟩⟩:=h
 ·exact .inl n
 ·cases q
  refine .inr ⟨_,rfl,fun j u d=>?_⟩;have p:=(List.getElem?_eq_some_iff.1 d).1;rw[tN] at p;obtain⟨x,m⟩:∃x,l[j / 2]?=some x:=⟨_,List.getElem?_eq_getElem (by omega)⟩;have f:=xJ l (j / 2) x m;have g:=o (j / 2) (by omega) x m;rw[mJ];rcases Nat.mod_two_eq_zero_or_one j with e | e
  ·have i:j / 2*2=j:=by omega
   rw[i] at f g;rw[g.1];rw[f.1] at d;exact d
  ·have i:j / 2*2+1=j:=by omega
   have k:off+j / 2*2+1=off+j:=by omega
   rw[i] at f;rw[k] at g;rw[g.2];rw[f.2] at d;exact d
theorem BB (l:List Bool):∀u∈l.map Value.bool,u.oneCell'=true:=fun u a=>by
 obtain⟨x,-,rfl⟩:=List.mem_map.1 a
 rfl
theorem vL (l:List (Int×Int)):∀u∈dC l,u.oneCell'=true:=fun u b=>by
 obtain⟨x,-,a⟩:=List.mem_flatMap.1 b
 simp at a
 rcases a with rfl | rfl <;> rfl
theorem Ad {w w':World}(h:w.grownBy w' none):Below w.heap.size w w':=(Below.refl _ _).grown h (Nat.le_refl _) fun _ z=>by cases z
def dQ (w:World) (m:Nat) (l:List aM) (k:Nat) (xs:List Value) (bb:Nat->Nat):Prop:=
 ∀(j:Nat) x,j<k->l[j]?=some x->xs[j*5]?=some (.int .i64 x.state)∧xs[j*5+1]?=some (.int .i64 x.gone)∧(∃u,xs[j*5+2]?=some u∧aV w u x.aL (bb j))∧xs[j*5+3]?=some (.bool x.aR)∧xs[j*5+4]?=some (.int .i64 x.aN)∧m<=bb j
structure fE (w:World) (ok:Bool) (v1 v2 v3:Value) (d:aF) (W:World) (u1 u2 u3:Value) (bo bp:Nat):Prop where
 below:Below w.heap.size w W
 box:W.rowIs w.heap.size 40 4 (fun i=>(#[.bool ok,v1,v2,v3]:Array Value)[i]!)
 res:∃g,W.rowIs (w.heap.size+1) 40 4 g
 out:W.rowIs (w.heap.size+1+1) 40 4 (fun i=>(#[.bool ok,u1,u2,u3]:Array Value)[i]!)
 aH:aV W u1 d.aH bo
 aC:bH W u2 d.aC bp
 po:w.heap.size+1+1+1<=bo
 pp:d.aC.length≠0->w.heap.size+1+1+1<=bp
theorem fE.but {w:World}{ok:Bool}{v1 v2 v3:Value}{d:aF}{W W':World}{g i j:Value}{e f:Nat}(h:fE w ok v1 v2 v3 d W g i j e f) {K:Nat->Prop}(a:But K W W') (b:∀c,c<w.heap.size+1+1+1->K c) (k:K e) (l:d.aC.length≠0->K f):fE w ok v1 v2 v3 d W' g i j e f:=
 ⟨h.below.trans (a.below h.below.size fun c m=>b c (by omega)),a.row h.box (b _ (by omega)),h.res.imp fun _ z=>a.row z (b _ (by omega)),a.row h.out (b _ (by omega)),h.aH.but a k,h.aC.but a l,h.po,h.pp⟩
theorem fE.call {w:World}{ok:Bool}{v1 v2 v3:Value}{d:aF}{W W':World}{c e f:Value}{a b:Nat}(h:fE w ok v1 v2 v3 d W c e f a b) (g:Below W.heap.size W W'):fE w ok v1 v2 v3 d W' c e f a b:=
 h.but (K:=fun _=>True) (But.aG g) (fun _ _=>trivial) trivial fun _=>trivial
theorem fE.lay {w:World}{ok:Bool}{v1 v2 v3:Value}{d:aF}{W:World}{f g k:Value}{b e:Nat}(h:fE w ok v1 v2 v3 d W f g k b e) (u:Value):fE w ok v1 v2 v3 d (W.setCell ⟨w.heap.size+1+1,3,none⟩ u) f g u b e:=by
 have a:∀c:Nat,c≠w.heap.size+1+1->c≠(⟨w.heap.size+1+1,3,none⟩:Addr).block:=fun c j=>j;refine⟨h.below.setCell (by show w.heap.size<=w.heap.size+1+1; omega) _,h.box.setOther (a _ (by omega)) _,h.res.imp fun _ z=>z.setOther (a _ (by omega)) _,?_,?_,?_,h.po,h.pp⟩
 ·refine (h.out.set 3 u).congr fun i hi=>?_;rcases i with _ | _ | _ | _ | i
  ·rfl
  ·rfl
  ·rfl
  ·rfl
  ·omega
 ·exact h.aH.of_block (Below.heap_setCell _ _ _ _ (a _ (by have:=h.po; omega)))
 ·exact h.aC.but (K:=fun c=>c≠w.heap.size+1+1) ((But.refl _ _).setCell (fun z=>z rfl) _) fun z=>by have:=h.pp z; omega
theorem BE {w:World}{base m:Nat}{v:Value}{l:List aM}{n:Nat}{xs:List Value}{bb:Nat->Nat}(h:w.ownsRow base 44 5 v n xs) (s:dQ w m l n xs bb) (A:n=l.length):∃b,dK w v l b bb∧(l.length≠0->base<=b):=by
 subst A;rcases Nat.eq_zero_or_pos l.length with e | e
 ·obtain⟨-,⟨rfl,-⟩ | ⟨g,a,cur,rfl,-⟩⟩:=h
  ·exact⟨0,⟨none,0,by rw[e],.inl e⟩,fun z=>absurd e z⟩
  ·exact⟨0,⟨_,a,rfl,.inl e⟩,fun z=>absurd e z⟩
 ·obtain⟨g,a,f,rfl,t,B,y,c⟩:=zdt h e;refine⟨g,⟨_,a,rfl,.inr ⟨rfl,f,_,B,y,fun i x j=>?_⟩⟩,fun _=>t⟩;obtain⟨k,o,⟨u,p,d⟩,q,r,-⟩:=s i x (List.getElem?_eq_some_iff.1 j).1 j;exact⟨c _ _ k,c _ _ o,by rw[c _ _ p]; exact d,c _ _ q,c _ _ r⟩
theorem zag {w:World}{base e size:Nat}{v:Value}{n:Nat}{xs:List Value}(h:w.ownsRow base e size v n xs):∃a c,v=.slice a n c:=by
 obtain⟨-,⟨rfl,rfl⟩ | ⟨g,b,cur,rfl,-⟩⟩:=h
 ·exact⟨_,_,rfl⟩
 ·exact⟨_,_,rfl⟩
theorem Dc (W:World) (n:Nat) (a:W.heap.size=n):(W.alloc (.cells #[] 4)).ownsRow n 4 1 (.slice (some ⟨n,0,none⟩) 0 0) 0 []:=by
 subst a;exact World.ownsRow_lit (base:=W.heap.size) (e:=4) (size:=1) W #[] 0 (Nat.le_refl _) (by unfold maxLen; omega) rfl
theorem gD {K:Nat->Prop}{W W':World}{base e size:Nat}{v:Value}{n:Nat}{xs:List Value}(h:W.ownsRow base e size v n xs) (j:But K W W') (m:∀g,v.ownBlock=some g->K g):W'.ownsRow base e size v n xs:=by
 obtain⟨d,i | ⟨g,a,cur,f,l,c,k⟩⟩:=h
 ·exact⟨d,.inl i⟩
 ·refine⟨d,.inr ⟨g,a,cur,f,l,?_,k⟩⟩;rw[j.block g (by obtain⟨b,_⟩:=Array.getElem?_eq_some_iff.1 c; exact b) (m g (by rw[f]; rfl))];exact c
theorem gJ {W:World}{base e size:Nat}{v:Value}{n:Nat}{xs:List Value}(h:W.ownsRow base e size v n xs) {g:Nat}(c:v.ownBlock=some g):base<=g∧g<W.heap.size∧∀t N f b,W.rowIs b t N f->t≠e->b≠g:=by
 obtain⟨q,⟨rfl,-⟩ | ⟨p,j,cur,rfl,l,d,k⟩⟩:=h
 ·cases c
 ·cases c
  refine⟨l,by obtain⟨a,_⟩:=Array.getElem?_eq_some_iff.1 d; exact a,fun t N f b m o=>?_⟩;rintro rfl;obtain⟨y,i,-⟩:=m;rw[d] at i
  cases i
  exact o rfl
theorem dQ.snoc {W W':World}{m:Nat}{l:List aM}{k:Nat}{xs:List Value}{bb:Nat->Nat}{x:aM}{u:Value}{b:Nat}(h:dQ W m l k xs bb) (a:xs.length=k*5) (t:l[k]?=some x) (s:aV W' u x.aL b) (q:m<=b)
  (r:∀j y v,j<k->l[j]?=some y->aV W v y.aL (bb j)->aV W' v y.aL (bb j)) :
  dQ W' m l (k+1) (xs++[.int .i64 x.state,.int .i64 x.gone,u,.bool x.aR,.int .i64 x.aN]) (fun j=>if j=k then b else bb j):=by
 intro j y w c;by_cases e:j=k
 ·subst e;rw[t] at c
  cases c
  simp only[if_true];refine⟨?_,?_,⟨u,?_,s⟩,?_,?_,q⟩
  ·rw[List.getElem?_append_right (by omega),a,Nat.sub_self]; rfl
  ·rw[List.getElem?_append_right (by omega),a,show j*5+1-j*5=1 by omega]; rfl
  ·rw[List.getElem?_append_right (by omega),a,show j*5+2-j*5=2 by omega]; rfl
  ·rw[List.getElem?_append_right (by omega),a,show j*5+3-j*5=3 by omega]; rfl
  ·rw[List.getElem?_append_right (by omega),a,show j*5+4-j*5=4 by omega]; rfl
 ·obtain⟨f,g,⟨v,i,d⟩,n,o,p⟩:=h j y (by omega) c;simp only[if_neg e];refine⟨?_,?_,⟨v,?_,r j y v (by omega) c d⟩,?_,?_,p⟩
  ·rw[List.getElem?_append_left (by omega)]; exact f
  ·rw[List.getElem?_append_left (by omega)]; exact g
  ·rw[List.getElem?_append_left (by omega)]; exact i
  ·rw[List.getElem?_append_left (by omega)]; exact n
  ·rw[List.getElem?_append_left (by omega)]; exact o
set_option maxRecDepth 100000 in
set_option maxHeartbeats 4000000 in
theorem BL (ok:Bool) (v1 v2 v3:Value) (d:aF) (w:World) (hv:bB (In w) w v1 v2 v3 d) (hs:d.Small 1048576) (ho:0<d.aH.length) (hb:∀x∈d.aB,0<x.aL.length) :
  Calls Tryz.prog 39 #[.agg #[.bool ok,v1,v2,v3]] w fun e w'=>∃u1 u2 u3 bo bp bw bb,e=.returned (.agg #[.bool ok,u1,u2,u3])∧Below w.heap.size w w'∧aP (New w w') w' u1 u2 u3 d bo bp bw bb:=by
 obtain⟨dD,dE,dF,cB⟩:=hs;obtain⟨h1,h2,h3⟩:=hv;obtain⟨a1,c1,rfl,q1⟩:=h1;obtain⟨a2,c2,rfl,q2⟩:=h2;obtain⟨a3,c3,rfl,q3⟩:=h3;obtain q1 | ⟨b1,o1,rfl,cX,q1⟩:=q1
 ·omega
 have T0:=iE w 40 40 40 #[.bool ok,.slice (some ⟨b1,o1,none⟩) d.aH.length c1,.slice a2 d.aC.length c2,.slice a3 d.aB.length c3] #[.bool false,.slice none 0 0,.slice none 0 0,.slice none 0 0] #[.bool ok,.slice none 0 0,.slice none 0 0,.slice none 0 0]
 have hF:∀ {W:World},Below w.heap.size w W->Bools (In W) W (.slice (some ⟨b1,o1,none⟩) d.aH.length c1) d.aH∧Lies (In W) W (.slice a2 d.aC.length c2) d.aC:=fun hW=>
  ⟨Bools.keep ⟨_,_,rfl,.inr ⟨b1,o1,rfl,cX,q1⟩⟩ (In.keep hW).1 (In.keep hW).2,Lies.keep ⟨_,_,rfl,q2⟩ (In.keep hW).1 (In.keep hW).2⟩
 have N1:=aD (Ao (hF T0.below).1)
 have b7:Hid ((d.aH.map Value.bool).length=d.aH.length*1):=by rw[List.length_map,Nat.mul_one]; rfl
 have b8:=aD (BB d.aH);have HF:Hid (∀W:World,Below w.heap.size w W->Bools (In W) W (.slice (some ⟨b1,o1,none⟩) d.aH.length c1) d.aH∧Lies (In W) W (.slice a2 d.aC.length c2) d.aC):=fun W hW=>hF hW;have cT:=aD q3;have H4:=aD cB;have HB:=aD hb;obtain⟨d4,U⟩:∃nw,nw=d.aH.map Value.bool:=⟨_,rfl⟩;have cP:=aD U;rw[← U] at N1 b7 b8;have bS:=aD T0
 have cD:w.heap.size+1+1+1<=(((w.alloc (.cells #[.bool ok,.slice (some ⟨b1,o1,none⟩) d.aH.length c1,.slice a2 d.aC.length c2,.slice a3 d.aB.length c3] 40)).alloc (.cells #[.bool false,.slice none 0 0,.slice none 0 0,.slice none 0 0] 40)).alloc (.cells #[.bool ok,.slice none 0 0,.slice none 0 0,.slice none 0 0] 40)).heap.size:=by simp
 have bT:=aD cD
 have cG:Hid (0+d.aH.length<=maxLen):=by show 0+d.aH.length<=maxLen; unfold maxLen; omega
 have cH:Hid ((0+d.aH.length)*1<=140737488355328):=by show (0+d.aH.length)*1<=140737488355328; omega
 clear q1 q2 q3 cB hb hF U T0 cD;go_enter Tryz.func39,Tryz.ntmps39
 go_wp2_with (at_builtin; refine iN rfl _ _ 36 rfl (w.heap.size+1+1+1) 4 (.bool false) 1 1 Tryz.underlying36 Tryz.bZ rfl (by decide) (.slice none 0 0) 0 [] rfl (World.ownsRow_nil _ _ _ _) _ d.aH.length c1 d4 rfl b7.out N1.out b8.out cG.out cH.out bT.out ?_)
 intro u1 w1 Z aS;have aK:=Ad aS;have T1:=bS.out.call aK;obtain⟨bo,bF,cZ⟩:=BD (l:=d.aH) (n:=0+d.aH.length) (by rw[← cP.out]; simpa using Z) (by omega) ho;obtain⟨g1,M1,h,rfl,d1,cV,c7⟩:=id bF;have x2:w1.cell? ⟨w.heap.size,2,none⟩=some (.slice a2 d.aC.length c2):=T1.c 0 2 rfl rfl;have y1:w1.cell? ⟨w.heap.size+1+1,1,none⟩=some (.slice none 0 0):=T1.c 2 1 rfl rfl;have y2:w1.cell? ⟨w.heap.size+1+1,2,none⟩=some (.slice none 0 0):=T1.c 2 2 rfl rfl;have z1:=T1.frozen (j:=2) 1 rfl;have B1:Below w.heap.size w (w1.setCell ⟨w.heap.size+1+1,1,none⟩ (.slice (some ⟨bo,0,none⟩) d.aH.length h)):=T1.below.setCell (by show w.heap.size<=w.heap.size+1+1; omega) _;have N2:=aD (vP (HF.out _ B1).2);have b9:=aD (tN d.aC);have bA:=aD (vL d.aC)
 have cI:Hid (0+d.aC.length<=maxLen):=by show 0+d.aC.length<=maxLen; unfold maxLen; omega
 have cJ:Hid ((0+d.aC.length)*16<=140737488355328):=by show (0+d.aC.length)*16<=140737488355328; omega
 have aZ:w.heap.size+1+1+1<=(w1.setCell ⟨w.heap.size+1+1,1,none⟩ (.slice (some ⟨bo,0,none⟩) d.aH.length h)).heap.size:=by
  have:=T1.lt (j:=2) rfl;rw[World.size_setCell];omega
 have bU:=aD aZ;obtain⟨d5,V⟩:∃nw,nw=dC d.aC:=⟨_,rfl⟩;have cQ:=aD V;rw[← V] at N2 b9 bA;have R:=aD T1;have b0:=aD B1;have bP:=aD bF;clear T1 B1 aZ V Z aS aK bS bT N1 b7 b8 bF c7 d1 cV
 go_wp2_with (at_builtin; refine iN rfl _ _ 37 rfl (w.heap.size+1+1+1) 46 (.agg #[.int .i64 0,.int .i64 0]) 2 16 Tryz.underlying37 Tryz.fY rfl (by decide) (.slice none 0 0) 0 [] rfl (World.ownsRow_nil _ _ _ _) _ d.aC.length c2 d5 rfl b9.out N2.out bA.out cI.out cJ.out bU.out ?_)
 intro u2 w2 a0 aT;have r:=Ad aT;obtain⟨bp,bH,c4⟩:=vM (l:=d.aC) (n:=0+d.aC.length) (by rw[← cQ.out]; simpa using a0) (by omega)
 have J:fE w ok (.slice (some ⟨b1,o1,none⟩) d.aH.length c1) (.slice a2 d.aC.length c2) (.slice a3 d.aB.length c3) d (w2.setCell ⟨w.heap.size+1+1,2,none⟩ u2) (.slice (some ⟨bo,0,none⟩) d.aH.length h) u2 (.slice none 0 0) bo bp:=by
  have ne:∀(c o:Nat),c≠w.heap.size+1+1->c≠(⟨w.heap.size+1+1,o,none⟩:Addr).block:=fun c o hc=>hc;have r0:=(eV ((R.out.row 0 _ _ rfl).setOther (ne _ 1 (by omega)) (.slice (some ⟨bo,0,none⟩) d.aH.length h)) r).setOther (ne _ 2 (by omega)) u2;have r1:=(eV ((R.out.row 1 _ _ rfl).setOther (ne _ 1 (by omega)) (.slice (some ⟨bo,0,none⟩) d.aH.length h)) r).setOther (ne _ 2 (by omega)) u2;have r2:=(eV ((R.out.row 2 _ _ rfl).set 1 (.slice (some ⟨bo,0,none⟩) d.aH.length h)) r).set 2 u2;refine⟨(b0.out.trans (r.mono b0.out.size)).setCell (by show w.heap.size<=w.heap.size+1+1; omega) _,r0,⟨_,r1⟩,r2.congr fun i hi=>?_,?_,?_,cZ,c4⟩
  ·rcases i with _ | _ | _ | _ | i
   ·rfl
   ·rfl
   ·rfl
   ·rfl
   ·simp at hi; omega
  ·refine aV.of_block (w:=w2) ?_ (Below.heap_setCell _ _ _ _ (ne _ 2 (by omega)));refine aV.but (K:=fun _=>True) ?_ (But.aG r) trivial;exact bP.out.of_block (Below.heap_setCell _ _ _ _ (ne _ 1 (by omega)))
  ·exact bH.but (K:=fun c=>c≠w.heap.size+1+1) ((But.refl _ _).setCell (fun z=>z rfl) _) fun z=>by have:=c4 z; omega
 obtain⟨a5,C,rfl,-⟩:=id bH;have T2:=eV ((R.out.row 2 _ _ rfl).set 1 (.slice (some ⟨bo,0,none⟩) d.aH.length h)) r;have dG:=T2.cell (i:=2) (by simp);have z2:=T2.frozen 2;have x3:(w2.setCell ⟨w.heap.size+1+1,2,none⟩ (.slice a5 d.aC.length C)).cell? ⟨w.heap.size,3,none⟩=some (.slice a3 d.aB.length c3):=J.box.cell (i:=3) (by omega);have m:=aD J;clear J T2 bH a0 aT r x2 y1 y2 z1 R b0 bP bU N2 b9 bA;go_wp2
 go_loopw [25] (fun z wr=>∃(k:Nat) (xs:List Value) (u3:Value) (bb:Nat->Nat),k<=d.aB.length∧z=.int .i64 k∧fE w ok (.slice (some ⟨b1,o1,none⟩) d.aH.length c1) (.slice a2 d.aC.length c2) (.slice a3 d.aB.length c3) d wr (.slice (some ⟨bo,0,none⟩) d.aH.length h) (.slice a5 d.aC.length C) u3 bo bp ∧
  wr.ownsRow (w.heap.size+1+1+1) 44 5 u3 k xs∧dQ wr (w.heap.size+1+1+1) d.aB k xs bb∧(∀i j,i<k->j<k->bb i=bb j->i=j)∧∀i,i<k->bb i≠bo) (fun z _=>d.aB.length-(intOf z).toNat)
 case atStart=>exact⟨0,[],.slice none 0 0,fun _=>0,Nat.zero_le _,rfl,m.out,World.ownsRow_nil _ _ _ _,fun j _ P=>by omega,fun i j hi=>by omega,fun i hi=>by omega⟩
 case round=>
  obtain⟨k,xs,u3,bb,hk,rfl,J,E,hX,aW,aY⟩:=hrel;have HX:=aD hX;have b5:=aD aW;have b6:=aD aY;clear hX aW aY;by_cases c9:k<d.aB.length
  ·obtain h0 | ⟨b3,o3,rfl,cY,c5⟩:=cT.out
   ·omega
   obtain⟨x,hx⟩:=bG d.aB (aD rfl) c9;obtain⟨v2,bJ,g0,g1,g2,g3,g4⟩:=c5 k c9 x hx;have aO:=bJ.keep (In.keep J.below).1 (In.keep J.below).2;rw[← J.below.cell (p:=⟨b3,_,none⟩) cY] at g0 g1 g2 g3 g4;obtain⟨O,c6,rfl,-⟩:=id bJ;have cA:=HB.out x (List.mem_of_getElem? hx);have dB:=H4.out x (List.mem_of_getElem? hx);have Hx:=aD hx;clear c5 hx bJ;have C0:=iE wr 44 44 4 #[.int .i64 x.state,.int .i64 x.gone,.slice O x.aL.length c6,.bool x.aR,.int .i64 x.aN] #[.int .i64 x.state,.int .i64 x.gone,.slice O x.aL.length c6,.bool x.aR,.int .i64 x.aN] #[];have aQ:=aO.keep (In.keep C0.below).1 (In.keep C0.below).2;have N3:=aD (Ao aQ)
   have bD:Hid ((x.aL.map Value.bool).length=x.aL.length*1):=by rw[List.length_map,Nat.mul_one]; rfl
   have bE:=aD (BB x.aL)
   have cK:Hid (0+x.aL.length<=maxLen):=by show 0+x.aL.length<=maxLen; unfold maxLen; omega
   have cL:Hid ((0+x.aL.length)*1<=140737488355328):=by show (0+x.aL.length)*1<=140737488355328; omega
   obtain⟨d6,X⟩:∃nw,nw=x.aL.map Value.bool:=⟨_,rfl⟩;have cR:=aD X;rw[← X] at N3 bD bE;have OW:=aD (Dc ((wr.alloc (.cells #[.int .i64 x.state,.int .i64 x.gone,.slice O x.aL.length c6,.bool x.aR,.int .i64 x.aN] 44)).alloc (.cells #[.int .i64 x.state,.int .i64 x.gone,.slice O x.aL.length c6,.bool x.aR,.int .i64 x.aN] 44)) (wr.heap.size+1+1) (by simp));have aI:Hid (wr.heap.size+1+1<=(((wr.alloc (.cells #[.int .i64 x.state,.int .i64 x.gone,.slice O x.aL.length c6,.bool x.aR,.int .i64 x.aN] 44)).alloc (.cells #[.int .i64 x.state,.int .i64 x.gone,.slice O x.aL.length c6,.bool x.aR,.int .i64 x.aN] 44)).alloc (.cells #[] 4)).heap.size):=Nat.le_of_lt (C0.lt (j:=2) rfl);have b2:=aD C0;have m:=aD J;have B:=aD E;clear X C0 aQ aO J E
   go_wp2_with (at_builtin; refine iN rfl _ _ 36 rfl (wr.heap.size+1+1) 4 (.bool false) 1 1 Tryz.underlying36 Tryz.bZ rfl (by decide) (.slice (some ⟨wr.heap.size+1+1,0,none⟩) 0 0) 0 [] rfl OW.out _ x.aL.length c6 d6 rfl bD.out N3.out bE.out cK.out cL.out aI.out ?_)
   intro u4 F a4 aU;obtain⟨q,bI,dA⟩:=BD (l:=x.aL) (n:=0+x.aL.length) (by rw[← cR.out]; simpa using a4) (by omega) cA;obtain⟨d9,M4,a,rfl,d2,cW,c8⟩:=id bI
   have M:Below (wr.heap.size+1+1) (((wr.alloc (.cells #[.int .i64 x.state,.int .i64 x.gone,.slice O x.aL.length c6,.bool x.aR,.int .i64 x.aN] 44)).alloc (.cells #[.int .i64 x.state,.int .i64 x.gone,.slice O x.aL.length c6,.bool x.aR,.int .i64 x.aN] 44)).alloc (.cells #[] 4)) F:=
    (Below.refl _ _).grown aU aI.out fun z hz=>by cases hz; exact Nat.le_refl _
   have I:Below wr.heap.size wr F:=b2.out.below.trans (M.mono (by omega));have d8:wr.heap.size+1+1<=F.heap.size:=Nat.le_trans aI.out M.size;have rx:=(b2.out.row 1 _ _ rfl).of_block (M.block _ (by omega));have e0:F.cell? ⟨wr.heap.size+1,0,none⟩=some (.int .i64 x.state):=rx.cell (i:=0) (by simp);have e1:F.cell? ⟨wr.heap.size+1,1,none⟩=some (.int .i64 x.gone):=rx.cell (i:=1) (by simp);have e2:F.cell? ⟨wr.heap.size+1,2,none⟩=some (.slice O x.aL.length c6):=rx.cell (i:=2) (by simp);have e3:F.cell? ⟨wr.heap.size+1,3,none⟩=some (.bool x.aR):=rx.cell (i:=3) (by simp);have e4:F.cell? ⟨wr.heap.size+1,4,none⟩=some (.int .i64 x.aN):=rx.cell (i:=4) (by simp);have f2:=rx.frozen 2;have bO:=m.out.call I;obtain⟨a7,D,rfl⟩:=zag B.out;have y3:F.cell? ⟨w.heap.size+1+1,3,none⟩=some (.slice a7 k D):=bO.out.cell (i:=3) (by omega);have hS:w.heap.size+1+1<wr.heap.size:=m.out.out.lt;have bR:=gD (K:=fun _=>True) B.out (But.aG I) fun _ _=>trivial;have BY:But (fun c=>c<wr.heap.size) wr ((F.setCell ⟨wr.heap.size+1,2,none⟩ (.slice (some ⟨q,0,none⟩) x.aL.length a)).alloc (.cells #[.int .i64 x.state,.int .i64 x.gone,(.slice (some ⟨q,0,none⟩) x.aL.length a),.bool x.aR,.int .i64 x.aN] 44)):=((But.aG I).cN (by show wr.heap.size<=wr.heap.size+1; omega) _).alloc _
   have bN:((F.setCell ⟨wr.heap.size+1,2,none⟩ (.slice (some ⟨q,0,none⟩) x.aL.length a)).alloc (.cells #[.int .i64 x.state,.int .i64 x.gone,(.slice (some ⟨q,0,none⟩) x.aL.length a),.bool x.aR,.int .i64 x.aN] 44)).heap.size=F.heap.size+1:=by simp
   have cC:w.heap.size+1+1+1<=((F.setCell ⟨wr.heap.size+1,2,none⟩ (.slice (some ⟨q,0,none⟩) x.aL.length a)).alloc (.cells #[.int .i64 x.state,.int .i64 x.gone,(.slice (some ⟨q,0,none⟩) x.aL.length a),.bool x.aR,.int .i64 x.aN] 44)).heap.size:=by rw[bN]; omega
   have bW:=aD (gD B.out BY fun g hg=>(gJ B.out hg).2.1)
   have bX:Hid (1=0∨∃A,(some (⟨F.heap.size,0,none⟩:Addr))=some A∧∀j u,([.int .i64 x.state,.int .i64 x.gone,(.slice (some ⟨q,0,none⟩) x.aL.length a),.bool x.aR,.int .i64 x.aN]:List Value)[j]?=some u->((F.setCell ⟨wr.heap.size+1,2,none⟩ (.slice (some ⟨q,0,none⟩) x.aL.length a)).alloc (.cells #[.int .i64 x.state,.int .i64 x.gone,(.slice (some ⟨q,0,none⟩) x.aL.length a),.bool x.aR,.int .i64 x.aN] 44)).cell? (A.add j)=some u):=by
    refine .inr ⟨_,rfl,fun j u P=>?_⟩;rw[mJ,Nat.zero_add];have h5:=(dH (F.setCell ⟨wr.heap.size+1,2,none⟩ (.slice (some ⟨q,0,none⟩) x.aL.length a)) 44 #[.int .i64 x.state,.int .i64 x.gone,(.slice (some ⟨q,0,none⟩) x.aL.length a),.bool x.aR,.int .i64 x.aN]);rw[World.size_setCell] at h5;have d3:j<5:=(List.getElem?_eq_some_iff.1 P).1;rw[h5.cell (by simpa using d3)];rcases j with _ | _ | _ | _ | _ | j
    ·exact P
    ·exact P
    ·exact P
    ·exact P
    ·exact P
    ·omega
   have bV:Hid (∀u∈([.int .i64 x.state,.int .i64 x.gone,(.slice (some ⟨q,0,none⟩) x.aL.length a),.bool x.aR,.int .i64 x.aN]:List Value),u.oneCell'=true):=by
    intro u hu;simp at hu
    rcases hu with rfl | rfl | rfl | rfl | rfl <;> rfl
   have cM:Hid (k+1<=maxLen):=by show k+1<=maxLen; unfold maxLen; omega
   have cO:Hid ((k+1)*56<=140737488355328):=by show (k+1)*56<=140737488355328; omega
   have cU:=aD cC;have bQ:=aD bI;have L:=aD BY;have cF:=aD bN;have d7:=aD I;clear BY bN cC a4 aU bI d2 cW c8 M I rx bO bR N3 bD bE OW aI b2
   go_wp2_with (at_builtin; refine iN rfl _ _ 38 rfl (w.heap.size+1+1+1) 44 (.agg #[.int .i64 0,.int .i64 0,.slice none 0 0,.bool false,.int .i64 0]) 5 56 Tryz.underlying38 Tryz.gU rfl (by decide) (.slice a7 k D) k xs rfl bW.out (some ⟨F.heap.size,0,none⟩) 1 1 [.int .i64 x.state,.int .i64 x.gone,(.slice (some ⟨q,0,none⟩) x.aL.length a),.bool x.aR,.int .i64 x.aN] rfl rfl bX.out bV.out cM.out cO.out cU.out ?_)
   intro u5 w5 G s;obtain⟨a8,H,rfl⟩:=zag G;have aX:∀c,c<wr.heap.size->c<((F.setCell ⟨wr.heap.size+1,2,none⟩ (.slice (some ⟨q,0,none⟩) x.aL.length a)).alloc (.cells #[.int .i64 x.state,.int .i64 x.gone,(.slice (some ⟨q,0,none⟩) x.aL.length a),.bool x.aR,.int .i64 x.aN] 44)).heap.size:=fun c hc=>Nat.lt_of_lt_of_le hc L.out.size
   have B5:But (fun c=>c<wr.heap.size∧some c≠(Value.slice a7 k D).ownBlock) wr w5:=
    ⟨s.os.trans L.out.os,s.tape.trans L.out.tape,s.output.trans L.out.output,Nat.le_trans L.out.size s.size,fun c hc hk=>(s.block c (aX c hc) hk.2).trans (L.out.block c hc hk.1)⟩
   have aJ:∀ {t N:Nat}{f:Nat->Value}{c:Nat},wr.rowIs c t N f->t≠44->c<wr.heap.size∧some c≠(Value.slice a7 k D).ownBlock:=fun hr ht=>⟨hr.lt,fun e=>(gJ B.out e.symm).2.2 _ _ _ _ hr ht rfl⟩
   have hO:∀ {v:Value}{l:List Bool}{b:Nat},aV wr v l b->aV w5 v l b:=fun hb=>hb.but B5 (by
    obtain⟨f,N,c,-,hr,-⟩:=hb
    exact aJ hr (by decide))
   have aA:fE w ok (.slice (some ⟨b1,o1,none⟩) d.aH.length c1) (.slice a2 d.aC.length c2) (.slice (some ⟨b3,o3,none⟩) d.aB.length c3) d w5 (.slice (some ⟨bo,0,none⟩) d.aH.length h) (.slice a5 d.aC.length C) (.slice a7 k D) bo bp:=by
    refine m.out.but B5 (fun c hc=>⟨by omega,fun e=>by have:=(gJ B.out e.symm).1; omega⟩) ?_ fun z=>?_
    ·obtain⟨f,N,c,-,hr,-⟩:=m.out.aH;exact aJ hr (by decide)
    ·obtain⟨_,_,_,h0 | ⟨_,f,N,hr,_⟩⟩:=m.out.aC
     ·exact absurd h0 z
     ·exact aJ hr (by decide)
   have dI:w5.cell? ⟨w.heap.size+1+1,3,none⟩=some (.slice a7 k D):=aA.out.cell (i:=3) (by omega);have dJ:=aA.out.frozen 3
   have bM:∀c,w.heap.size+1+1+1<=c->c≠(⟨w.heap.size+1+1,3,none⟩:Addr).block:=fun c hc=>by show c≠w.heap.size+1+1; omega
   have aM:aV (w5.setCell ⟨w.heap.size+1+1,3,none⟩ (.slice a8 (k+1) H)) (.slice (some ⟨q,0,none⟩) x.aL.length a) x.aL q:=by
    refine aV.of_block (w:=w5) ?_ (Below.heap_setCell _ _ _ _ (bM _ (by omega)));refine aV.of_block (w:=((F.setCell ⟨wr.heap.size+1,2,none⟩ (.slice (some ⟨q,0,none⟩) x.aL.length a)).alloc (.cells #[.int .i64 x.state,.int .i64 x.gone,(.slice (some ⟨q,0,none⟩) x.aL.length a),.bool x.aR,.int .i64 x.aN] 44))) ?_ (s.block q (by rw[cF.out]; have:=bQ.out.lt; omega) (fun e=>by have:=(gJ B.out e.symm).2.1; omega));exact (bQ.out.of_block (Below.heap_setCell F ⟨wr.heap.size+1,2,none⟩ (.slice (some ⟨q,0,none⟩) x.aL.length a) q (by show q≠wr.heap.size+1; omega))).but (K:=fun _=>True) (But.aG (bC _ _)) trivial
   have c0:=dQ.snoc (W':=w5.setCell ⟨w.heap.size+1+1,3,none⟩ (.slice a8 (k+1) H)) (u:=(.slice (some ⟨q,0,none⟩) x.aL.length a)) (b:=q) HX.out B.out.1 Hx.out aM (by omega) (fun j y v P hy hv=>(hO hv).of_block (Below.heap_setCell _ _ _ _ (bM _ (HX.out j y P hy).2.2.2.2.2)))
   have bL:∀j,j<k->bb j<wr.heap.size:=fun j P=>by
    obtain⟨y,hy⟩:=bG d.aB (aD rfl) (show j<d.aB.length by omega);obtain⟨_,_,hu⟩:=(HX.out j y P hy).2.2.1;exact hu.lt
   have T:∀i j,i<k+1->j<k+1->(if i=k then q else bb i)=(if j=k then q else bb j)->i=j:=fun i j hi P=>by
    by_cases e1:i=k <;> by_cases e2:j=k
    ·intro _; omega
    ·rw[if_pos e1,if_neg e2]; intro z; have:=bL j (by omega); omega
    ·rw[if_neg e1,if_pos e2]; intro z; have:=bL i (by omega); omega
    ·rw[if_neg e1,if_neg e2]; exact b5.out i j (by omega) (by omega)
   have Y:∀i,i<k+1->(if i=k then q else bb i)≠bo:=fun i hi=>by
    by_cases e1:i=k
    ·rw[if_pos e1]; have:=m.out.aH.lt; omega
    ·rw[if_neg e1]; exact b6.out i (by omega)
   have a9:(w5.setCell ⟨w.heap.size+1+1,3,none⟩ (.slice a8 (k+1) H)).ownsRow (w.heap.size+1+1+1) 44 5 (.slice a8 (k+1) H) (k+1) (xs++[.int .i64 x.state,.int .i64 x.gone,(.slice (some ⟨q,0,none⟩) x.aL.length a),.bool x.aR,.int .i64 x.aN]):=
    gD (K:=fun c=>c≠w.heap.size+1+1) G ((But.refl _ _).setCell (fun z=>z rfl) _) fun g hg=>by have:=(gJ G hg).1; omega
   have cE:=aD (And.intro (aA.lay (.slice a8 (k+1) H)) (And.intro a9 (And.intro c0 (And.intro T Y))));clear aA a9 c0 T Y bL aM hO aJ B5 aX G s HX b5 b6 B m L bW bX bV bM e0 e1 e2 e3 e4 f2 y3 g0 g1 g2 g3 g4;go_wp2;go_roundw
   case rel=>exact⟨k+1,_,_,_,by omega,by go_num,cE.out⟩
   case measure=>simp[intOf]; omega
  ·obtain⟨O,S,rfl⟩:=zag E
   have bK:k=d.aB.length:=by omega
   obtain⟨bw,bY,d0⟩:=BE E HX.out bK;obtain⟨gR,hR⟩:=J.res;have t0:wr.cell? ⟨w.heap.size+1+1,0,none⟩=some (.bool ok):=J.out.cell (i:=0) (by omega);have t1:wr.cell? ⟨w.heap.size+1+1,1,none⟩=some (.slice (some ⟨bo,0,none⟩) d.aH.length h):=J.out.cell (i:=1) (by omega);have t2:wr.cell? ⟨w.heap.size+1+1,2,none⟩=some (.slice a5 d.aC.length C):=J.out.cell (i:=2) (by omega);have t3:wr.cell? ⟨w.heap.size+1+1,3,none⟩=some (.slice O k S):=J.out.cell (i:=3) (by omega);have r0:=hR.cell (i:=0) (by omega);have r1:=hR.cell (i:=1) (by omega);have r2:=hR.cell (i:=2) (by omega);have r3:=hR.cell (i:=3) (by omega);have k0:=hR.frozen 0;have k1:=hR.frozen 1;have k2:=hR.frozen 2;have k3:=hR.frozen 3;have HR:=aD hR;have m:=aD J;have B:=aD E;have cS:=aD bY;have aE:=aD bK;clear hR J E bY bK;go_wp2;refine bodyPost_ret (v:=.agg #[.bool ok,.slice (some ⟨bo,0,none⟩) d.aH.length h,.slice a5 d.aC.length C,.slice O k S]) (by simp[results,Tryz.results39,go_sem,r0,r1,r2,r3]) rfl ⟨_,_,_,bo,bp,bw,bb,rfl,?_,?_⟩
   ·have p:w.heap.size<=w.heap.size+1:=by omega
    exact (((m.out.below.setCell (p:=⟨w.heap.size+1,0,none⟩) p _).setCell (p:=⟨w.heap.size+1,1,none⟩) p _).setCell (p:=⟨w.heap.size+1,2,none⟩) p _).setCell (p:=⟨w.heap.size+1,3,none⟩) p _
   ·have fr:aP (fun c=>w.heap.size+1+1+1<=c) wr (.slice (some ⟨bo,0,none⟩) d.aH.length h) (.slice a5 d.aC.length C) (.slice O k S) d bo bp bw bb:=
     ⟨m.out.aH,m.out.aC,cS.out,m.out.po,m.out.pp,d0,fun i hi=>by
      obtain⟨y,hy⟩:=bG d.aB (aD rfl) hi
      exact (HX.out i y (by have:=aE.out; omega) hy).2.2.2.2.2,fun i j hi P=>b5.out i j (by have:=aE.out; omega) (by have:=aE.out; omega),fun i hi=>b6.out i (by have:=aE.out; omega)⟩
    have hk:∀o:Nat,¬((fun c=>c≠w.heap.size+1) (⟨w.heap.size+1,o,none⟩:Addr).block):=fun o z=>z rfl;exact (fr.but (Q:=fun c=>w.heap.size+1+1+1<=c) (((((But.refl (fun c=>c≠w.heap.size+1) wr).setCell (hk 0) _).setCell (hk 1) _).setCell (hk 2) _).setCell (hk 3) _) (fun c hc=>by omega) fun _ z=>z).bound fun c hc hl=>⟨by omega,hl⟩
end Go.Proofs.YtdhinkgjiapigaaGreatDoor

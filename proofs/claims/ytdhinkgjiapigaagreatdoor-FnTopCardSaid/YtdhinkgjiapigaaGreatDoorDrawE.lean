import Derived.Test.YtdhinkgjiapigaaGreatDoorDoI4
namespace Go.Proofs.YtdhinkgjiapigaaGreatDoor
open Classical Go.Deep Go.RowKit
theorem But.low {K:Nat->Prop}{a b c:World}(h:But K a b) (k:Below a.heap.size b c):But K a c:=⟨k.os.trans h.os,k.tape.trans h.tape,k.output.trans h.output,Nat.le_trans h.size k.size,fun x d e=>(k.block x d).trans (h.block x d e)⟩
theorem Bd (x:Int):0<=IntKind.u64.wrap x∧IntKind.u64.wrap x<18446744073709551616:=by rw[IntKind.wrap_u64]; omega
theorem JC (x:Int):∃y:Nat,wrap64 (bits .and .u64 (IntKind.u64.wrap x / 1099511627776) 255)=(y:Int)∧y<=255:=by
 have h:=Bd x;obtain⟨q,c⟩:∃q:Nat,IntKind.u64.wrap x / 1099511627776=(q:Int):=⟨(IntKind.u64.wrap x / 1099511627776).toNat,by omega⟩
 have b:q<18446744073709551616:=by omega
 have e:=bits_and_u64_nat q 255 b (by omega);have a:q &&& 255<=255:=Nat.and_le_right;refine⟨q &&& 255,?_,a⟩;rw[c,show (255:Int)=((255:Nat):Int) from rfl,e];exact IntWalk.wrap64_in _ ⟨by omega,by omega⟩
theorem BP (W:World) (x:Int):Ints (In (W.alloc (.cells #[.int .i64 x] 3))) (W.alloc (.cells #[.int .i64 x] 3)) (.slice (some ⟨W.heap.size,0,none⟩) 1 1) [x]:=by
 refine⟨_,1,rfl,.inr ⟨W.heap.size,0,rfl,by show W.heap.size<_; rw[World.size_alloc]; omega,fun i hi y b=>?_⟩⟩
 have a:i=0:=by
  have:i<1:=hi;omega
 subst a
 cases b
 exact (dH W 3 #[.int .i64 x]).cell (i:=0) (by show 0<1; omega)
theorem rR {x:Int}{l:List Int}:Meet [x] l↔x∈l:=
 ⟨fun ⟨y,h1,h2⟩=>by rw[List.mem_singleton.1 h1] at h2; exact h2,fun h=>⟨x,List.mem_singleton.2 rfl,h⟩⟩
theorem DL {n:Int}{l:List Int}{x:Int}(h:∀j,j<l.length->pS n l j) (k:bN x 0 (n-1)) (i:¬x∈l):∀j,j<(l++[x]).length->pS n (l++[x]) j:=fun j g y a=>by
 by_cases e:j<l.length
 ·rw[List.getElem?_append_left e] at a
  obtain⟨d,f⟩:=h j e y a
  refine⟨d,fun q b=>?_⟩
  rw[List.getElem?_append_left (by omega)]
  exact f q b
 ·have c:j=l.length:=by simp at g; omega
  subst c
  rw[List.getElem?_append_right (Nat.le_refl _),Nat.sub_self] at a
  cases a
  refine⟨k,fun q b e=>?_⟩
  rw[List.getElem?_append_left b] at e
  exact i (List.mem_of_getElem? e)
theorem JU {P:Program}{w:World}{o:Oper}{a:Act}{K:Act->World->Prop}{Q:Exit->Act->World->Prop}(s x:Operand) (t:TypeId)
  (G:o.op=.call { callee:=.builtin .append,args:=#[s,x],argTypes:=#[t,t] })
  (base:Nat) (e:TypeId) (z:Value) (size f:Nat) (I:P.underlying t=some (.slice e)) (b:(P.info? e).map (fun i=>(i.zero,i.size,i.bytes))=some (some z,size,f)) (D:z.cells.size=size) (C:0<size)
  (v:Value) (n:Nat) (xs:List Value) (H:a.eval s=v) (q:w.ownsRow base e size v n xs)
  (A:Addr) (m c:Nat) (d:List Value) (J:a.eval x=.slice (some A) m c) (F:d.length=m*size) (l:∀j u,d[j]?=some u->w.cell? (A.add j)=some u) (E:∀u∈d,u.oneCell'=true)
  (y:n+m<=maxLen) (g:(n+m)*f<=140737488355328) (k:base<=w.heap.size)
  (h:∀v' w',w'.ownsRow base e size v' (n+m) (xs++d)->w.grownBy w' v.ownBlock->K (a.put o.dst v') w'):Oper.wp P o a w K Q:=by
 cases hi:P.info? e with
 | none=>rw[hi] at b; cases b
 | some i=>
  rw[hi] at b;simp only[Option.map_some,Option.some.injEq,Prod.mk.injEq] at b;obtain⟨L,p,B⟩:=b;obtain⟨v',w',r,M,N,-⟩:=run_append_own (P:=P) w base t o.type e i z size f I hi L p B D C v n xs q A m c d F l E y g k;unfold Oper.wp;simp[execOp,G,resolve,invoke,builtin,H,J,r,Result.andThen];exact h v' w' M N
theorem oG {W W':World}{j t f o r D:Nat}{v1 v2:Value}{q C:Nat}{s E:List Value}(p:W.ownsRow j f r v1 q s) (x:W.ownsRow t o D v2 C E) (A:f≠o) (b:W.grownBy W' v2.ownBlock):W'.ownsRow j f r v1 q s:=by
 have y:But (fun c=>some c≠v2.ownBlock) W W':=⟨b.os,b.tape,b.output,b.size,fun c z B=>b.block c z B⟩;refine gD p y fun g a e=>?_;obtain⟨-,⟨w,-⟩ | ⟨F,k,m,u,-,i,-⟩⟩:=p
 ·rw[w] at a; cases a
 ·rw[u] at a; cases a;obtain⟨-,⟨h,-⟩ | ⟨G,l,n,v,-,d,-⟩⟩:=x
  ·rw[h] at e; cases e
  ·rw[v] at e; cases e;rw[i] at d
   cases d
   exact A rfl
theorem tW {W:World}{d a j:Nat}{v1:Value}{i:Nat}{k:List Value}(h:W.ownsRow d a j v1 i k) {g t N:Nat}{f:Nat->Value}(m:W.rowIs g t N f) (l:t≠a) (o:Nat) (u:Value):(W.setCell ⟨g,o,none⟩ u).ownsRow d a j v1 i k:=
 gD (K:=fun c=>c≠g) h ((But.refl _ _).setCell (fun z=>z rfl) u) fun _g' b=>fun e=>(gJ h b).2.2 _ _ _ _ m l e.symm
theorem xU (W:World) (t:Nat) (c:Array Value) (j:Nat) (u:Value) (h:c.toList[j]?=some u):(W.alloc (.cells c t)).cell? ((⟨W.heap.size,0,none⟩:Addr).add j)=some u:=by
 rw[mJ,Nat.zero_add]
 have a:j<c.size:=by
  have:=(List.getElem?_eq_some_iff.1 h).1;simpa using this
 rw[(dH W t c).cell a];show some c[j]! = some u;rw[getElem!_pos c j a,← Array.getElem?_eq_getElem a,← Array.getElem?_toList];exact h
theorem I5 (W:World) (t:Nat) (x:Value):(W.alloc (.cells #[x] t)).ownsRow W.heap.size t 1 (.slice (some ⟨W.heap.size,0,none⟩) 1 1) 1 [x]:=by
 refine⟨rfl,.inr ⟨W.heap.size,1,#[x],rfl,Nat.le_refl _,heap_alloc_new W _,Nat.le_refl _,by unfold maxLen; omega,rfl,rfl⟩⟩
theorem uY {W:World}{base e size:Nat}{v:Value}{n:Nat}{xs:List Value}(h:W.ownsRow base e size v n xs) (k:0<n):∃g cap,v=.slice (some ⟨g,0,none⟩) n cap∧base<=g∧g<W.heap.size∧∀j u,xs[j]?=some u->W.cell? ⟨g,j,none⟩=some u:=by
 obtain⟨g,cap,f,e,c,a,l,d⟩:=zdt h k;refine⟨g,cap,e,c,a.lt,fun j u b=>?_⟩;have i:=(List.getElem?_eq_some_iff.1 b).1;rw[a.cell (by rw[h.1] at i; omega),d j u b]
structure eK where
 v0:Value
 v1:Value
 v2:Value
 v3:Value
 v4:Value
structure eP (W:World) (lo:Nat) (q:eK) (d:aT):Prop where
 s0:W.ownsRow lo 3 1 q.v0 d.aA.length (dD d.aA)
 l1:W.ownsRow lo 58 2 q.v1 d.aQ.length (dC d.aQ)
 l2:W.ownsRow lo 58 2 q.v2 d.aJ.length (dC d.aJ)
 o3:W.ownsRow lo 3 1 q.v3 d.over.length (dD d.over)
 n4:W.ownsRow lo 3 1 q.v4 d.aW.length (dD d.aW)
theorem eP.far {W W':World}{lo:Nat}{q:eK}{d:aT}{K:Nat->Prop}(h:eP W lo q d) (a:But K W W') (b:∀c,lo<=c->c<W.heap.size->K c):eP W' lo q d:=
 ⟨iY h.s0 a b,iY h.l1 a b,iY h.l2 a b,iY h.o3 a b,iY h.n4 a b⟩
theorem eP.other {W W':World}{lo:Nat}{q:eK}{d:aT}(h:eP W lo q d) {f e i:Nat}{v2:Value}{g:Nat}{j:List Value}(a:W.ownsRow f e i v2 g j) (b : 3≠e∧58≠e) (c:W.grownBy W' v2.ownBlock):eP W' lo q d:=
 ⟨oG h.s0 a b.1 c,oG h.l1 a b.2 c,oG h.l2 a b.2 c,oG h.o3 a b.1 c,oG h.n4 a b.1 c⟩
theorem eP.box {W:World}{lo:Nat}{q:eK}{d:aT}(h:eP W lo q d) {g t N:Nat}{f:Nat->Value}(b:W.rowIs g t N f) (a:t≠3∧t≠58) (o:Nat) (u:Value):eP (W.setCell ⟨g,o,none⟩ u) lo q d:=
 ⟨tW h.s0 b a.1 o u,tW h.l1 b a.2 o u,tW h.l2 b a.2 o u,tW h.o3 b a.1 o u,tW h.n4 b a.1 o u⟩
theorem eP.low {W:World}{lo b:Nat}{q:eK}{d:aT}(h:eP W lo q d) (a:b<=lo):eP W b q d:=⟨nV h.s0 a,nV h.l1 a,nV h.l2 a,nV h.o3 a,nV h.n4 a⟩
theorem H5 {W:World}{base e size:Nat}{v:Value}{n:Nat}{xs:List Value}(h:W.ownsRow base e size v n xs):Ba v:=by
 obtain⟨-,⟨e,c⟩ | ⟨g,a,cur,e,-,-,b,-⟩⟩:=h
 ·exact⟨none,0,0,e,Nat.le_refl _⟩
 ·exact⟨_,_,_,e,b⟩
theorem eP.at {W:World}{lo:Nat}{q:eK}{d:aT}(h:eP W lo q d):cC (fun c=>lo<=c∧c<W.heap.size) W q.v0 q.v1 q.v2 q.v3 q.v4 d∧Ba q.v0:=
 ⟨⟨(oF h.s0).2,BF h.l1,BF h.l2,(oF h.o3).2,(oF h.n4).2⟩,H5 h.s0⟩
def pH (l:List (eK×aT)):List Value:=l.flatMap fun x=>[x.1.v0,x.1.v1,x.1.v2,x.1.v3,x.1.v4]
theorem GB (l:List (eK×aT)) (x:eK×aT):pH (l++[x])=pH l++[x.1.v0,x.1.v1,x.1.v2,x.1.v3,x.1.v4]:=by simp[pH]
theorem Ap:∀(l:List (eK×aT)) (i:Nat) (x:eK×aT),l[i]?=some x->(pH l)[i*5]?=some x.1.v0∧(pH l)[i*5+1]?=some x.1.v1∧(pH l)[i*5+2]?=some x.1.v2∧(pH l)[i*5+3]?=some x.1.v3∧(pH l)[i*5+4]?=some x.1.v4
 | [],_,_,h=>by simp at h
 | y :: l,0,x,h=>by
  cases h
  exact⟨rfl,rfl,rfl,rfl,rfl⟩
 | y :: l,i+1,x,h=>by
  have ih:=Ap l i x h
  have e:∀j,(pH (y :: l))[(i+1)*5+j]?=(pH l)[i*5+j]?:=fun j=>by
   rw[show (i+1)*5+j=(i*5+j)+5 by omega]
   rfl
  have a:=e 0
  rw[Nat.add_zero,Nat.add_zero] at a
  rw[a,e 1,e 2,e 3,e 4]
  exact ih
structure iI (W:World) (lo:Nat) (v:Value) (l:List (eK×aT)):Prop where
 own:W.ownsRow lo 51 5 v l.length (pH l)
 aB:∀x∈l,eP W lo x.1 x.2
theorem iI.far {W W':World}{lo:Nat}{v:Value}{l:List (eK×aT)}{K:Nat->Prop}(h:iI W lo v l) (a:But K W W') (b:∀c,lo<=c->c<W.heap.size->K c):iI W' lo v l:=
 ⟨iY h.own a b,fun x d=>(h.aB x d).far a b⟩
theorem iI.at {W:World}{lo:Nat}{v:Value}{l:List (eK×aT)}(h:iI W lo v l):cE (fun c=>lo<=c∧c<W.heap.size) W v (l.map Prod.snd):=by
 by_cases s:l.length=0
 ·obtain⟨a,c,e⟩:=zag h.own;exact⟨a,c,by rw[List.length_map]; exact e,.inl (by rw[List.length_map]; exact s)⟩
 ·obtain⟨g,d,e,f,j,b⟩:=uY h.own (by omega);refine⟨_,d,by rw[List.length_map]; exact e,.inr ⟨g,0,rfl,⟨f,j⟩,fun i hi x k=>?_⟩⟩;rw[List.getElem?_map] at k;obtain⟨y,m,rfl⟩:=Option.map_eq_some_iff.1 k;obtain⟨n,o,p,q,r⟩:=Ap l i y m;rw[Nat.zero_add];exact⟨_,_,_,_,_,(h.aB y (List.mem_of_getElem? m)).at,b _ _ n,b _ _ o,b _ _ p,b _ _ q,b _ _ r⟩
structure gE (W:World) (lo:Nat) (v:Value) (l:List (Value×List Bool)):Prop where
 own:W.ownsRow lo 36 1 v l.length (l.map Prod.fst)
 rows:∀x∈l,W.ownsRow lo 4 1 x.1 x.2.length (x.2.map Value.bool)
theorem gE.far {W W':World}{lo:Nat}{v:Value}{l:List (Value×List Bool)}{K:Nat->Prop}(h:gE W lo v l) (a:But K W W') (b:∀c,lo<=c->c<W.heap.size->K c):gE W' lo v l:=
 ⟨iY h.own a b,fun x d=>iY (h.rows x d) a b⟩
theorem Gl {W:World}{lo:Nat}{v:Value}{n:Nat}{l:List Bool}(h:W.ownsRow lo 4 1 v n (l.map Value.bool)) (m:n=l.length):Bools (fun c=>lo<=c∧c<W.heap.size) W v l:=by
 subst m;by_cases k:l.length=0
 ·obtain⟨a,c,e⟩:=zag h;exact⟨a,c,e,.inl k⟩
 ·obtain⟨g,b,e,d,f,j⟩:=uY h (by omega);refine⟨_,b,e,.inr ⟨g,0,rfl,⟨d,f⟩,fun i hi x o=>?_⟩⟩;rw[Nat.zero_add];exact j _ _ (by rw[List.getElem?_map,o]; rfl)
theorem gE.at {W:World}{lo:Nat}{v:Value}{l:List (Value×List Bool)}(h:gE W lo v l):kE (fun c=>lo<=c∧c<W.heap.size) W v (l.map Prod.snd):=by
 by_cases n:l.length=0
 ·obtain⟨a,c,e⟩:=zag h.own;exact⟨a,c,by rw[List.length_map]; exact e,.inl (by rw[List.length_map]; exact n)⟩
 ·obtain⟨g,b,e,d,f,m⟩:=uY h.own (by omega);refine⟨_,b,by rw[List.length_map]; exact e,.inr ⟨g,0,rfl,⟨d,f⟩,fun i hi x j=>?_⟩⟩;rw[List.getElem?_map] at j;obtain⟨y,k,rfl⟩:=Option.map_eq_some_iff.1 j;rw[Nat.zero_add];exact⟨_,Gl (h.rows y (List.mem_of_getElem? k)) rfl,m _ _ (by rw[List.getElem?_map,k]; rfl)⟩
theorem gE.cell {W:World}{lo:Nat}{v:Value}{l:List (Value×List Bool)}(h:gE W lo v l) {i k:Nat}{x:Value×List Bool}{y:Bool}(b:l[i]?=some x) (f:x.2[k]?=some y):∃g cap g2 cap2,v=.slice (some ⟨g,0,none⟩) l.length cap∧W.cell? ⟨g,i,none⟩=some (.slice (some ⟨g2,0,none⟩) x.2.length cap2)∧W.cell? ⟨g2,k,none⟩=some (.bool y):=by
 have q:=(List.getElem?_eq_some_iff.1 b).1;have p:=(List.getElem?_eq_some_iff.1 f).1;obtain⟨g,cap,e,n,o,m⟩:=uY h.own (by omega);obtain⟨g2,cap2,j,c,d,a⟩:=uY (h.rows x (List.mem_of_getElem? b)) (by omega);refine⟨g,cap,g2,cap2,e,?_,a _ _ (by rw[List.getElem?_map,f]; rfl)⟩;rw[← j];exact m _ _ (by rw[List.getElem?_map,b]; rfl)
theorem EW {P:Program}{w:World}{o:Oper}{a:Act}{K:Act->World->Prop}{Q:Exit->Act->World->Prop}(s x:Operand) (t:TypeId)
  (Y:o.op=.call { callee:=.builtin .append,args:=#[s,x],argTypes:=#[t,t] })
  (base:Nat) (e:TypeId) (z:Value) (size k:Nat) (M:P.underlying t=some (.slice e)) (f:(P.info? e).map (fun i=>(i.zero,i.size,i.bytes))=some (some z,size,k)) (L:z.cells.size=size) (J:0<size)
  (v:Value) (n:Nat) (xs:List Value) (Z:a.eval s=v) (q:w.ownsRow base e size v n xs)
  (A:Addr) (m c:Nat) (d:List Value) (hx:a.eval x=.slice (some A) m c) (H:d.length=m*size) (p:∀j u,d[j]?=some u->w.cell? (A.add j)=some u) (N:∀u∈d,u.oneCell'=true)
  (D:n+m<=maxLen) (l:(n+m)*k<=140737488355328) (E:base<=w.heap.size)
  (h:∀v' w',w'.ownsRow base e size v' (n+m) (xs++d)->w.grownBy w' v.ownBlock->(v'.ownBlock=v.ownBlock∨∀g,v'.ownBlock=some g->w.heap.size<=g)->K (a.put o.dst v') w'):Oper.wp P o a w K Q:=by
 cases hi:P.info? e with
 | none=>rw[hi] at f; cases f
 | some i=>
  rw[hi] at f;simp only[Option.map_some,Option.some.injEq,Prod.mk.injEq] at f;obtain⟨U,b,F⟩:=f;obtain⟨v',w',r,r1,r2,-⟩:=run_append_own (P:=P) w base t o.type e i z size k M hi U b F L J v n xs q A m c d H p N D l E
  have R:v'.ownBlock=v.ownBlock∨∀g,v'.ownBlock=some g->w.heap.size<=g:=by
   rcases q.2 with ⟨rfl,rfl⟩ | ⟨g,C,cur,rfl,V,G,X,W,O,S⟩
   ·have T:xs=[]:=List.eq_nil_of_length_eq_zero (by simpa using q.1);subst T;obtain⟨v2,w2,B,q1,-,-⟩:=run_append_own (P:=P) w w.heap.size t o.type e i z size k M hi U b F L J (.slice none 0 0) 0 [] (World.ownsRow_nil _ _ _ _) A m c d H p N D l (Nat.le_refl _);rw[r] at B
    cases B
    exact .inr fun g G=>(q1.lt g G).1
   ·by_cases y:n+m<=C
    ·have I:=run_append_room (P:=P) w t o.type e i M hi g n C cur G A m c d (by rw[b]; exact H) p N y (by rw[H,O,b,← Nat.add_mul]; exact Nat.mul_le_mul_right _ y);rw[r] at I
     cases I
     exact .inl rfl
    ·have I:=run_append_grow (P:=P) w t o.type e i z M hi U ⟨g,0,none⟩ n C xs (by rw[b]; exact q.1) (q.cells (g:=g) rfl) A m c d (by rw[b]; exact H) p (by omega) (by simp only[maxLen] at D; omega) (by rw[F]; exact growslice_fits (by omega) l);rw[r] at I
     cases I
     refine .inr fun g G=>?_
     cases G
     exact Nat.le_refl _
  unfold Oper.wp;simp[execOp,Y,resolve,invoke,builtin,Z,hx,r,Result.andThen];exact h v' w' r1 r2 R
section
variable {w wr : World}{cb pb wb : Nat}{ns aI : Int}{s y : Value}{K : Nat}{W : World}{q : eK}{d : aT}
end
theorem zrs {n:Nat}{c l a b:List Int}{i d:List (Int×Int)}(p:1<=l.length) (v:∀j,j<l.length->pS (n:Int) l j) (w:l.length<=4) (m:(∀j,j<a.length->pS (n:Int) a j)∧a.length<=2∧¬Meet a l) (q:(∀j,j<b.length->pS (n:Int) b j)∧b.length<=2) (E:c.length<=3)
  (y:∀j,j<i.length->rP c.length i j) (A:∀j,j<d.length->rP c.length d j) (B:i.length<=c.length) (C:d.length<=c.length) (r:∀x∈i,∃s,c[x.1.toNat]?=some s∧s∈l) (k:∀x∈d,∃s,c[x.1.toNat]?=some s∧¬s∈l):dG (n:Int) c ⟨l,i,d,a,b⟩:=by
 refine⟨fun e=>?_,⟨v,Nat.le_trans w (by omega)⟩,⟨m.1,Nat.le_trans m.2.1 (by omega)⟩,⟨q.1,Nat.le_trans q.2 (by omega)⟩,⟨y,Nat.le_trans B (by omega)⟩,⟨A,Nat.le_trans C (by omega)⟩,fun x t=>⟨fun z D e=>?_,r x t⟩,m.2.2⟩
 ·have u:l=[]:=e;rw[u] at p;exact absurd p (by show ¬ 1<=0; omega)
 ·obtain⟨s,f,o⟩:=r x t;obtain⟨F,g,h⟩:=k z D;rw[e,g] at f
  cases f
  exact h o
theorem H8 {W:World}{rb t n:Nat}{f:Nat->Value}(h:W.rowIs rb t n f) (c:n<=maxLen):W.ownsRow rb t 1 (.slice (some ⟨rb,0,none⟩) n n) n ((List.range n).map f):=by
 obtain⟨cur,b,d,a⟩:=h;refine⟨by simp,.inr ⟨rb,n,cur,rfl,Nat.le_refl _,b,Nat.le_refl _,c,by omega,?_⟩⟩;refine List.ext_getElem? fun j=>?_;rw[List.getElem?_take];by_cases e:j<n
 ·rw[if_pos (by omega),Array.getElem?_toList,a j e,List.getElem?_map,List.getElem?_range e];rfl
 ·rw[if_neg (by omega),List.getElem?_eq_none (by simp; omega)]
section
variable {w wr : World}{cb pb rb : Nat}{ns aI : Int}{s y b : Value}{nw K : Nat}{W : World}{f : Nat->Bool}
end
theorem iM {P:Program}{Q:Exit->Act->World->Prop}{S:World->Prop}{l:List Oper}{m i:Nat}{e:Oper}{v:Value}{d:Nat}{b:Array Bool}{a:Act}{w:World}(hi:At l i e) (f:fH l b m i=true)
  (g:∀c a w,Q (.panic c) (a.put e.dst v) w->Q (.panic c) a w) (k:Region.wanted e (yielded l.toArray a.tmps)=true) (n:∀w,S w->(execOp a.eval e).run P w=.ok (.value v) w) (j:S w)
  (h:fJ P .any l.toArray Q S m d (b.setIfInBounds i true) (a.put e.dst v) w):fJ P .any l.toArray Q S m (d+1) b a w:=
 Aa hi.arr (fH.all f).1 (fH.all f).2.1 (fH.all f).2.2.1 (fH.all f).2.2.2 g (.inl ⟨k,n⟩) j h
theorem mS {P:Program}{Q:Exit->Act->World->Prop}{S:World->Prop}{l:List Oper}{m i:Nat}{f:Oper}{d:Nat}{b:Array Bool}{a:Act}{w:World}(hi:At l i f) (e:fH l b m i=true)
  (g:∀c a w,Q (.panic c) (a.put f.dst undef) w->Q (.panic c) a w) (k:Region.wanted f (yielded l.toArray a.tmps)=false) (j:S w)
  (h:fJ P .any l.toArray Q S m d (b.setIfInBounds i true) (a.put f.dst undef) w):fJ P .any l.toArray Q S m (d+1) b a w:=
 Aa hi.arr (fH.all e).1 (fH.all e).2.1 (fH.all e).2.2.1 (fH.all e).2.2.2 g (.inr ⟨k,rfl⟩) j h
theorem Ck {i:Nat}{l:List (Int×Int)}{x:Int}(h:∀j,j<l.length->rP i l j) (o:bN x 1 2):∀j,j<(l++[((i:Int),x)]).length->rP (i+1) (l++[((i:Int),x)]) j:=fun j n y c=>by
 by_cases e:j<l.length
 ·rw[List.getElem?_append_left e] at c
  obtain⟨⟨⟨f,g⟩,k⟩,m⟩:=h j e y c
  refine⟨⟨⟨f,by omega⟩,k⟩,fun q z b a=>?_⟩
  rw[List.getElem?_append_left (by omega)] at a
  exact m q z b a
 ·have d:j=l.length:=by simp at n; omega
  subst d
  rw[List.getElem?_append_right (Nat.le_refl _),Nat.sub_self] at c
  cases c
  refine⟨⟨⟨by show (0:Int)<=(i:Int); omega,by show (i:Int)<=((i+1:Nat):Int)-1; omega⟩,o⟩,fun q z b a e=>?_⟩
  rw[List.getElem?_append_left b] at a
  have:=(h q b z a).1.1.2
  have p:z.1=(i:Int):=e
  omega
theorem yT {i:Nat}{l:List (Int×Int)}(h:∀j,j<l.length->rP i l j):∀j,j<l.length->rP (i+1) l j:=fun j e y f=>by
 obtain⟨⟨⟨a,b⟩,c⟩,d⟩:=h j e y f
 exact⟨⟨⟨a,by omega⟩,c⟩,d⟩
def EO (ds:List aT) (rows:List (List Bool)) (i:Nat) (r:List Bool) (k:Nat):Prop:=(k<i->r[k]?=(rows[k]?).bind fun x=>x[i]?)∧(i<=k->∀x y,ds[i]?=some x->ds[k]?=some y->Meet x.aA y.aA->r[k]?=some true)
def gK (ds:List aT) (rows:List (List Bool)):Prop:=∀i r,rows[i]?=some r->r.length=ds.length∧∀k,k<ds.length->EO ds rows i r k
theorem gK.snoc {ds:List aT}{rows:List (List Bool)}(h:gK ds rows) {r:List Bool}(j:r.length=ds.length) (d:∀k,k<ds.length->EO ds rows rows.length r k):gK ds (rows++[r]):=fun i l hi=>by
 by_cases e:i<rows.length
 ·rw[List.getElem?_append_left e] at hi
  obtain⟨g,c⟩:=h i l hi
  refine⟨g,fun k b=>⟨fun a=>?_,(c k b).2⟩⟩
  rw[List.getElem?_append_left (by omega)]
  exact (c k b).1 a
 ·have f:i=rows.length:=by
   have:=(List.getElem?_eq_some_iff.1 hi).1
   simp at this
   omega
  subst f
  rw[List.getElem?_append_right (Nat.le_refl _),Nat.sub_self] at hi
  cases hi
  refine⟨j,fun k b=>⟨fun a=>?_,(d k b).2⟩⟩
  rw[List.getElem?_append_left a]
  exact (d k b).1 a
theorem Gu {p:aK}(w:bN p.aA 1 60) (A:p.aE.length<=40) (B:p.aB.length<=100) (C:bN p.aI 1 300) (D:∀x∈p.aE,bN x 0 (p.aA-1)) (E:∀x∈p.aB,dG p.aA p.aE x) (F:p.aO.length=p.aB.length) (m:gK p.aB p.aO):Right p:=by
 have f:∀i k,k<i->i<p.aB.length->p.bar i k=p.bar k i:=fun i k q hi=>by
  unfold aK.bar
  have j:i<p.aO.length:=by omega
  have:=(m i _ (List.getElem?_eq_getElem j)).2 k (by omega);rw[List.getElem?_eq_getElem j];show p.aO[i][k]?=_;exact this.1 q
 refine .inr ⟨fun z=>z ⟨w,A,B,C⟩,.inr ⟨?_,.inr ⟨?_,.inr ⟨fun z=>z F,.inr ⟨?_,.inr ⟨?_,rfl,rfl⟩⟩⟩⟩⟩⟩
 ·rintro k ⟨s,I,c⟩;exact c (D s (List.mem_of_getElem? I))
 ·rintro i ⟨x,v,c⟩;exact c (E x (List.mem_of_getElem? v))
 ·rintro k ⟨r,u,c⟩;exact c (m k r u).1
 ·rintro i ⟨hi,k,G,t⟩
  have l:∀a b,a<b->b<p.aB.length->¬Pair p a b:=by
   rintro a b n c (h | ⟨-,o,x,y,v,J,H⟩)
   ·exact h (f b a n c).symm
   ·have d:a<p.aO.length:=by omega
    have u:=(m a _ (List.getElem?_eq_getElem d)).2 b c;have:=u.2 (by omega) x y v J H;unfold aK.bar at o;rw[List.getElem?_eq_getElem d] at o;have g:p.aO[a][b]?=some false:=o;rw[this] at g
    cases g
  rcases Nat.lt_trichotomy i k with e | e | e
  ·exact l i k e G t
  ·subst e; exact Pair.irrefl t
  ·exact l k i e hi t.symm
theorem Bg (a b:Int):∀u∈([.int .i64 a,.int .i64 b]:List Value),u.oneCell'=true:=fun u c=>by
 rcases List.mem_cons.1 c with h | h
 ·rw[h]; rfl
 ·rw[List.mem_singleton.1 h]; rfl
theorem Eb (a b c d e:Value) (g:a.oneCell'=true) (i:b.oneCell'=true) (j:c.oneCell'=true) (k:d.oneCell'=true) (l:e.oneCell'=true):∀u∈([a,b,c,d,e]:List Value),u.oneCell'=true:=fun u f=>by
 simp only[List.mem_cons,List.not_mem_nil,or_false] at f
 rcases f with h | h | h | h | h <;> rw[h] <;> assumption
theorem EM:(Tryz.prog.info? 51).map (fun i=>(i.zero,i.size,i.bytes))=some (some (.agg #[.slice none 0 0,.slice none 0 0,.slice none 0 0,.slice none 0 0,.slice none 0 0]),5,120):=by kernel_rfl
theorem EL:(Tryz.prog.info? 36).map (fun i=>(i.zero,i.size,i.bytes))=some (some (.slice none 0 0),1,24):=by kernel_rfl
def rN (W:World) (b o:Nat):Nat:=match W.cell? ⟨b,o,none⟩ with
 | some (.slice _ n _)=>n
 | _=>0
def EvS (op of lie:Int):Prop:=bN op 0 9∧bN of (-1) 100∧bN lie (-1) 9
end Go.Proofs.YtdhinkgjiapigaaGreatDoor

import Derived.Test.YtdhinkgjiapigaaGreatDoorDoI4
namespace Go.Proofs.YtdhinkgjiapigaaGreatDoor
open Classical Go.Deep Go.RowKit
theorem Tryz.AP (a:Addr) (n c:Nat) (w:World):(binOp .eql 37 (.slice (some a) n c) (.slice none 0 0)).run Tryz.prog w=.ok (.bool false) w:=by kernel_rfl
theorem Tryz.xA (n c:Nat) (w:World):(binOp .eql 37 (.slice none n c) (.slice none 0 0)).run Tryz.prog w=.ok (.bool true) w:=by kernel_rfl
theorem I4 (W:World) (n:Nat) (a:W.heap.size=n):(W.alloc (.cells #[] 46)).ownsRow n 46 2 (.slice (some ⟨n,0,none⟩) 0 0) 0 []:=by
 subst a;exact World.ownsRow_lit (base:=W.heap.size) (e:=46) (size:=2) W #[] 0 (Nat.le_refl _) (by unfold maxLen; omega) rfl
set_option maxRecDepth 100000 in
set_option maxHeartbeats 2000000 in
theorem Aq (a:Option Addr) (m c:Nat) (xs:List Value) (w:World) (p:xs.length=m*2) (i:m=0∨∃A,a=some A∧∀j u,xs[j]?=some u->w.cell? (A.add j)=some u) (o:∀u∈xs,u.oneCell'=true) (I:m<=1048576) :
  Calls Tryz.prog 137 #[.slice a m c] w fun e w'=>∃v,e=.returned v∧w'.ownsRow w.heap.size 46 2 v m xs∧Below w.heap.size w w':=by
 cases a with
 | none=>
  have q:m=0:=by
   rcases i with z | ⟨A,z,-⟩
   ·exact z
   ·cases z
  subst q;obtain rfl:xs=[]:=List.eq_nil_of_length_eq_zero (by omega);have h:=Tryz.xA;have H:=Below.refl w.heap.size w;clear i o I p;go_enter Tryz.func137,Tryz.ntmps137;go_wp2;go_ret;exact⟨_,rfl,World.ownsRow_nil _ _ _ _,H⟩
 | some A=>
  have d:=bC w (.cells #[] 46)
  have F:Hid (m=0∨∃B,some A=some B∧∀j u,xs[j]?=some u->(w.alloc (.cells #[] 46)).cell? (B.add j)=some u):=by
   rcases i with z | ⟨B,e,t⟩
   ·exact .inl z
   ·exact .inr ⟨B,e,fun j u x=>(d.cell (World.block_lt_of_cell? _ _ (t j u x))).trans (t j u x)⟩
  have D:=aD p;have E:=aD o
  have l:Hid (0+m<=maxLen):=by show 0+m<=maxLen; unfold maxLen; omega
  have n:Hid ((0+m)*16<=140737488355328):=by show (0+m)*16<=140737488355328; omega
  have G:=aD (I4 w w.heap.size rfl);have s:Hid (w.heap.size<=(w.alloc (.cells #[] 46)).heap.size):=d.size;have k:=aD d;have h:=Tryz.AP;clear i p o d;go_enter Tryz.func137,Tryz.ntmps137
  go_wp2_with (at_builtin; refine iN rfl _ _ 37 rfl w.heap.size 46 (.agg #[.int .i64 0,.int .i64 0]) 2 16 Tryz.underlying37 Tryz.fY rfl (by decide) (.slice (some ⟨w.heap.size,0,none⟩) 0 0) 0 [] rfl G.out _ m c xs rfl D.out F.out E.out l.out n.out s.out ?_)
  intro y C b g
  have f:Below w.heap.size (w.alloc (.cells #[] 46)) C:=(Below.refl _ _).grown g s.out fun z J=>by cases J; exact Nat.le_refl _
  have r:=aD (And.intro (show C.ownsRow w.heap.size 46 2 y m xs by simpa using b) (k.out.trans f));clear f b g;go_wp2;go_ret;exact⟨y,rfl,r.out.1,r.out.2⟩
theorem Tryz.AO (a:Addr) (n c:Nat) (w:World):(binOp .eql 38 (.slice (some a) n c) (.slice none 0 0)).run Tryz.prog w=.ok (.bool false) w:=by kernel_rfl
theorem Tryz.wZ (n c:Nat) (w:World):(binOp .eql 38 (.slice none n c) (.slice none 0 0)).run Tryz.prog w=.ok (.bool true) w:=by kernel_rfl
theorem Iz (W:World) (n:Nat) (a:W.heap.size=n):(W.alloc (.cells #[] 44)).ownsRow n 44 5 (.slice (some ⟨n,0,none⟩) 0 0) 0 []:=by
 subst a;exact World.ownsRow_lit (base:=W.heap.size) (e:=44) (size:=5) W #[] 0 (Nat.le_refl _) (by unfold maxLen; omega) rfl
set_option maxRecDepth 100000 in
set_option maxHeartbeats 2000000 in
theorem yR (a:Option Addr) (m c:Nat) (xs:List Value) (w:World) (p:xs.length=m*5) (i:m=0∨∃A,a=some A∧∀j u,xs[j]?=some u->w.cell? (A.add j)=some u) (o:∀u∈xs,u.oneCell'=true) (I:m<=1048576) :
  Calls Tryz.prog 138 #[.slice a m c] w fun e w'=>∃v,e=.returned v∧w'.ownsRow w.heap.size 44 5 v m xs∧Below w.heap.size w w':=by
 cases a with
 | none=>
  have q:m=0:=by
   rcases i with z | ⟨A,z,-⟩
   ·exact z
   ·cases z
  subst q;obtain rfl:xs=[]:=List.eq_nil_of_length_eq_zero (by omega);have h:=Tryz.wZ;have H:=Below.refl w.heap.size w;clear i o I p;go_enter Tryz.func138,Tryz.ntmps138;go_wp2;go_ret;exact⟨_,rfl,World.ownsRow_nil _ _ _ _,H⟩
 | some A=>
  have d:=bC w (.cells #[] 44)
  have F:Hid (m=0∨∃B,some A=some B∧∀j u,xs[j]?=some u->(w.alloc (.cells #[] 44)).cell? (B.add j)=some u):=by
   rcases i with z | ⟨B,e,t⟩
   ·exact .inl z
   ·exact .inr ⟨B,e,fun j u x=>(d.cell (World.block_lt_of_cell? _ _ (t j u x))).trans (t j u x)⟩
  have D:=aD p;have E:=aD o
  have l:Hid (0+m<=maxLen):=by show 0+m<=maxLen; unfold maxLen; omega
  have n:Hid ((0+m)*56<=140737488355328):=by show (0+m)*56<=140737488355328; omega
  have G:=aD (Iz w w.heap.size rfl);have s:Hid (w.heap.size<=(w.alloc (.cells #[] 44)).heap.size):=d.size;have k:=aD d;have h:=Tryz.AO;clear i p o d;go_enter Tryz.func138,Tryz.ntmps138
  go_wp2_with (at_builtin; refine iN rfl _ _ 38 rfl w.heap.size 44 (.agg #[.int .i64 0,.int .i64 0,.slice none 0 0,.bool false,.int .i64 0]) 5 56 Tryz.underlying38 Tryz.gU rfl (by decide) (.slice (some ⟨w.heap.size,0,none⟩) 0 0) 0 [] rfl G.out _ m c xs rfl D.out F.out E.out l.out n.out s.out ?_)
  intro y C b g
  have f:Below w.heap.size (w.alloc (.cells #[] 44)) C:=(Below.refl _ _).grown g s.out fun z J=>by cases J; exact Nat.le_refl _
  have r:=aD (And.intro (show C.ownsRow w.heap.size 44 5 y m xs by simpa using b) (k.out.trans f));clear f b g;go_wp2;go_ret;exact⟨y,rfl,r.out.1,r.out.2⟩
theorem Ge {P:Nat->Prop}{W:World}{a:Option Addr}{l:List aM}{c:Nat}(h:dF P W (.slice a l.length c) l) :
  ∃xs:List Value,xs.length=l.length*5∧(l.length=0∨∃b o,a=some ⟨b,o,none⟩∧P b∧∀j u,xs[j]?=some u->W.cell? ⟨b,o+j,none⟩=some u)∧(∀u∈xs,u.oneCell'=true) ∧
   ∀(i:Nat) x,l[i]?=some x->xs[i*5]?=some (.int .i64 x.state)∧xs[i*5+1]?=some (.int .i64 x.gone)∧(∃v,xs[i*5+2]?=some v∧Bools P W v x.aL)∧xs[i*5+3]?=some (.bool x.aR)∧xs[i*5+4]?=some (.int .i64 x.aN):=by
 obtain⟨I,J,G,B | ⟨b,off,rfl,D,A⟩⟩:=h
 ·obtain rfl:=List.eq_nil_of_length_eq_zero B;exact⟨[],rfl,.inl rfl,(fun _ z=>nomatch z),fun i x z=>by cases z⟩
 ·cases G
  have E:∀j,j<l.length*5->∃u,W.cell? ⟨b,off+j,none⟩=some u∧u.oneCell'=true:=fun j g=>by
   obtain⟨x,k⟩:∃x,l[j / 5]?=some x:=⟨_,List.getElem?_eq_getElem (by omega)⟩;obtain⟨v,t,m,n,p,q,s⟩:=A (j / 5) (by omega) x k
   have w:j=j / 5*5+j % 5:=by omega
   have F:j % 5<5:=Nat.mod_lt _ (by omega);rw[w];generalize j % 5=r at F;rcases r with _ | _ | _ | _ | _ | r
   ·exact⟨_,m,rfl⟩
   ·exact⟨_,n,rfl⟩
   ·obtain⟨_,_,rfl,-⟩:=t;exact⟨_,p,rfl⟩
   ·exact⟨_,q,rfl⟩
   ·exact⟨_,s,rfl⟩
   ·omega
  have d:∀j u,j<l.length*5->W.cell? ⟨b,off+j,none⟩=some u->((List.range (l.length*5)).map fun j=>(W.cell? ⟨b,off+j,none⟩).getD (.bool false))[j]?=some u:=fun j u g f=>by
   rw[List.getElem?_map,List.getElem?_range g,Option.map_some,f]; rfl
  have e:∀j u,((List.range (l.length*5)).map fun j=>(W.cell? ⟨b,off+j,none⟩).getD (.bool false))[j]?=some u->W.cell? ⟨b,off+j,none⟩=some u∧u.oneCell'=true:=fun j u f=>by
   have g:j<l.length*5:=by simpa using (List.getElem?_eq_some_iff.1 f).1
   obtain⟨H,y,C⟩:=E j g;rw[d j H g y] at f
   cases f
   exact⟨y,C⟩
  refine⟨(List.range (l.length*5)).map fun j=>(W.cell? ⟨b,off+j,none⟩).getD (.bool false),by simp,.inr ⟨_,_,rfl,D,fun j u f=>(e j u f).1⟩,fun u f=>?_,fun i x k=>?_⟩
  ·obtain⟨j,g⟩:=List.mem_iff_getElem?.1 f;exact (e j u g).2
  ·have hi:i<l.length:=(List.getElem?_eq_some_iff.1 k).1;obtain⟨v,t,m,n,p,q,s⟩:=A i hi x k;exact⟨d _ _ (by omega) m,d _ _ (by omega) n,⟨v,d _ _ (by omega) p,t⟩,d _ _ (by omega) q,d _ _ (by omega) s⟩
theorem zC {w:World}{base m e size:Nat}{v:Value}{n:Nat}{xs:List Value}(h:w.ownsRow base e size v n xs) (f:m<=base):w.ownsRow m e size v n xs:=by
 obtain⟨b,c | ⟨g,a,cur,i,d,k⟩⟩:=h
 ·exact⟨b,.inl c⟩
 ·exact⟨b,.inr ⟨g,a,cur,i,Nat.le_trans f d,k⟩⟩
structure kC (w:World) (d:aF) (W:World) (bn:Nat) (u1 u2 u3:Value) (bo bp:Nat):Prop where
 below:Below w.heap.size w W
 res:∃g,W.rowIs (w.heap.size+1) 40 4 g
 out:W.rowIs bn 40 4 (fun i=>(#[.bool d.ok,u1,u2,u3]:Array Value)[i]!)
 aH:aV W u1 d.aH bo
 aC:bH W u2 d.aC bp
 pn:w.heap.size+1+1<=bn
 po:w.heap.size+1+1<=bo
 pp:d.aC.length≠0->w.heap.size+1+1<=bp
theorem zI {w p W:World}{d:aF}{A:Array Value}{h j s b e a:Nat}{m l:Option Addr}{xs:List Value}(D:bD w [(40,A),(40,#[.bool false,.slice none 0 0,.slice none 0 0,.slice none 0 0])] p) (_hz:p.heap.size=w.heap.size+1+1) (C:Below p.heap.size p W)
  (v:aV W (.slice (some ⟨j,0,none⟩) d.aH.length b) d.aH j) (x:bH W (.slice m d.aC.length e) d.aC s) (y:W.ownsRow (w.heap.size+1+1) 44 5 (.slice l d.aB.length a) d.aB.length xs) {f:Nat->Value}(r:W.rowIs h 40 4 f)
  (pn:w.heap.size+1+1<=h) (po:w.heap.size+1+1<=j) (pp:d.aC.length≠0->w.heap.size+1+1<=s) :
  kC w d ((((W.setCell ⟨h,0,none⟩ (.bool d.ok)).setCell ⟨h,1,none⟩ (.slice (some ⟨j,0,none⟩) d.aH.length b)).setCell ⟨h,2,none⟩ (.slice m d.aC.length e)).setCell ⟨h,3,none⟩ (.slice l d.aB.length a)) h (.slice (some ⟨j,0,none⟩) d.aH.length b) (.slice m d.aC.length e) (.slice l d.aB.length a) j s ∧
   ((((W.setCell ⟨h,0,none⟩ (.bool d.ok)).setCell ⟨h,1,none⟩ (.slice (some ⟨j,0,none⟩) d.aH.length b)).setCell ⟨h,2,none⟩ (.slice m d.aC.length e)).setCell ⟨h,3,none⟩ (.slice l d.aB.length a)).ownsRow (w.heap.size+1+1) 44 5 (.slice l d.aB.length a) d.aB.length xs:=by
 have q:∀o:Nat,¬((fun c=>c≠h) (⟨h,o,none⟩:Addr).block):=fun o z=>z rfl;have n:=(((((But.refl (fun c=>c≠h) W).setCell (q 0) (.bool d.ok)).setCell (q 1) (.slice (some ⟨j,0,none⟩) d.aH.length b)).setCell (q 2) (.slice m d.aC.length e)).setCell (q 3) (.slice l d.aB.length a));have k:=D.call C;have t:=k.row 1 _ _ rfl;refine⟨⟨?_,⟨_,n.row t (by omega)⟩,?_,v.but n ?_,x.but n fun z=>?_,pn,po,pp⟩,gD y n fun g E=>?_⟩
 ·exact k.below.trans (n.below k.below.size fun c F=>by omega)
 ·refine ((((r.set 0 _).set 1 _).set 2 _).set 3 _).congr fun i hi=>?_;rcases i with _ | _ | _ | _ | i
  ·rfl
  ·rfl
  ·rfl
  ·rfl
  ·omega
 ·obtain⟨g,N,c,-,u,-⟩:=v;exact iU u r (by decide)
 ·obtain⟨_,_,_,B | ⟨_,g,N,u,-⟩⟩:=x
  ·exact absurd B z
  ·exact iU u r (by decide)
 ·exact ((gJ y E).2.2 _ _ _ _ r (by decide)).symm
def eJ (w0 W:World) (m:Nat) (l:List aM) (k:Nat) (f:Nat->Value) (bb:Nat->Nat):Prop:=
 ∀(j:Nat) x,l[j]?=some x->f (j*5)=.int .i64 x.state∧f (j*5+1)=.int .i64 x.gone∧f (j*5+3)=.bool x.aR∧f (j*5+4)=.int .i64 x.aN∧(j<k->aV W (f (j*5+2)) x.aL (bb j)∧m<=bb j)∧(k<=j->Bools (In w0) w0 (f (j*5+2)) x.aL)
theorem Fj {w W:World}{m:Nat}{l:List aM}{xs:List Value}{f:Nat->Value}(n:∀(i:Nat) x,l[i]?=some x->xs[i*5]?=some (.int .i64 x.state)∧xs[i*5+1]?=some (.int .i64 x.gone)∧(∃v,xs[i*5+2]?=some v∧Bools (In w) w v x.aL)∧xs[i*5+3]?=some (.bool x.aR)∧xs[i*5+4]?=some (.int .i64 x.aN))
  (a:∀j u,xs[j]?=some u->f j=u):eJ w W m l 0 f (fun _=>0):=fun j x k=>by
 obtain⟨b,c,⟨v,d,h⟩,e,g⟩:=n j x k
 exact⟨a _ _ b,a _ _ c,a _ _ e,a _ _ g,fun z=>absurd z (by omega),fun _=>by rw[a _ _ d]; exact h⟩
theorem eJ.next {w0 W W':World}{m:Nat}{l:List aM}{k:Nat}{f:Nat->Value}{bb:Nat->Nat}{x:aM}{u:Value}{b:Nat}(h:eJ w0 W m l k f bb) (C:l[k]?=some x) (t:aV W' u x.aL b) (w:m<=b)
  (A:∀j y v,j<k->l[j]?=some y->aV W v y.aL (bb j)->aV W' v y.aL (bb j)):eJ w0 W' m l (k+1) (fun q=>if q=k*5+2 then u else f q) (fun j=>if j=k then b else bb j):=by
 intro j y c;obtain⟨d,g,i,n,o,p⟩:=h j y c;have a:∀q,q≠k*5+2->(fun q=>if q=k*5+2 then u else f q) q=f q:=fun q B=>if_neg B;refine⟨(a _ (by omega)).trans d,(a _ (by omega)).trans g,(a _ (by omega)).trans i,(a _ (by omega)).trans n,fun z=>?_,fun z=>?_⟩
 ·by_cases e:j=k
  ·subst e;rw[C] at c
   cases c
   simp only[if_true];exact⟨t,w⟩
  ·simp only[if_neg e];rw[if_neg (by omega)];obtain⟨r,s⟩:=o (by omega);exact⟨A j y _ (by omega) c r,s⟩
 ·rw[a _ (by omega)];exact p (by omega)
theorem Gt {w wr W:World}{d:aF}{C o D e N k b:Nat}{J L O u:Value}{f:Nat->Value}{bb:Nat->Nat}{x:aM}(h:kC w d wr C J L O o D) (n:wr.rowIs e 44 N f) (F:eJ w wr (w.heap.size+1+1) d.aB k f bb) (H:d.aB[k]?=some x) (T:w.heap.size+1+1<=e) (E:Below wr.heap.size wr W) (Q:aV W u x.aL b) (S:wr.heap.size<=b)
  (A:∀i j,i<k->j<k->bb i=bb j->i=j) (B:∀i,i<k->bb i≠o) :
  kC w d (W.setCell ⟨e,k*5+2,none⟩ u) C J L O o D∧(W.setCell ⟨e,k*5+2,none⟩ u).rowIs e 44 N (fun q=>if q=k*5+2 then u else f q)∧eJ w (W.setCell ⟨e,k*5+2,none⟩ u) (w.heap.size+1+1) d.aB (k+1) (fun q=>if q=k*5+2 then u else f q) (fun j=>if j=k then b else bb j) ∧
   (∀i j,i<k+1->j<k+1->(if i=k then b else bb i)=(if j=k then b else bb j)->i=j)∧∀i,i<k+1->(if i=k then b else bb i)≠o:=by
 have a:But (fun c=>c≠e) wr (W.setCell ⟨e,k*5+2,none⟩ u):=(But.aG E).setCell (fun z=>z rfl) _;have U:=n.lt;obtain⟨Y,R⟩:=h.res
 have t:o≠e:=by
  obtain⟨g,M,c,-,p,-⟩:=h.aH;exact iU p n (by decide)
 have V:=h.aH.lt
 have l:∀j,j<k->bb j<wr.heap.size∧bb j≠e:=fun j r=>by
  have hk:k<d.aB.length:=(List.getElem?_eq_some_iff.1 H).1;obtain⟨y,I⟩:=bG d.aB (aD rfl) (show j<d.aB.length by omega);have G:=((F j y I).2.2.2.2.1 r).1;obtain⟨g,M,c,-,p,-⟩:=id G;exact⟨G.lt,iU p n (by decide)⟩
 refine⟨⟨h.below.trans (a.below h.below.size fun c Z=>by omega),⟨_,a.row R (by omega)⟩,a.row h.out (iU h.out n (by decide)),h.aH.but a t,h.aC.but a fun z=>?_,h.pn,h.po,h.pp⟩,(dP n E).set _ _,F.next H ?_ (Nat.le_trans (by have:=h.out.lt; have:=h.pn; omega) S) fun j y v r I X=>X.but a (l j r).2,fun i j hi r=>?_,fun i hi=>?_⟩
 ·obtain⟨_,_,_,P | ⟨_,g,M,p,-⟩⟩:=h.aC
  ·exact absurd P z
  ·exact iU p n (by decide)
 ·exact Q.but (K:=fun c=>c≠e) ((But.refl _ _).setCell (fun z=>z rfl) _) (by omega)
 ·by_cases m:i=k <;> by_cases s:j=k
  ·intro _; omega
  ·rw[if_pos m,if_neg s]; intro z; have:=l j (by omega); omega
  ·rw[if_neg m,if_pos s]; intro z; have:=l i (by omega); omega
  ·rw[if_neg m,if_neg s]; exact A i j (by omega) (by omega)
 ·by_cases m:i=k
  ·rw[if_pos m]; omega
  ·rw[if_neg m]; exact B i (by omega)
theorem GC {w W:World}{d:aF}{v g n e a:Nat}{t u:Value}{b:Option Addr}{bb:Nat->Nat}(h:kC w d W v t u (.slice b d.aB.length a) g n) (o:0<d.aB.length->∃f N,W.rowIs e 44 N f∧d.aB.length*5<=N∧eJ w W (w.heap.size+1+1) d.aB d.aB.length f bb) (r:0<d.aB.length->b=some ⟨e,0,none⟩∧w.heap.size+1+1<=e)
  (l:∀i j,i<d.aB.length->j<d.aB.length->bb i=bb j->i=j) (m:∀i,i<d.aB.length->bb i≠g):aP (fun c=>w.heap.size+1+1<=c) W t u (.slice b d.aB.length a) d g n e bb:=by
 refine⟨h.aH,h.aC,⟨b,a,rfl,?_⟩,h.po,h.pp,fun z=>(r (by omega)).2,fun i hi=>?_,l,m⟩
 ·rcases Nat.eq_zero_or_pos d.aB.length with z | z
  ·exact .inl z
  ·obtain⟨f,N,q,p,k⟩:=o z;refine .inr ⟨(r z).1,f,N,q,p,fun i x s=>?_⟩;obtain⟨A,B,C,D,E,-⟩:=k i x s;exact⟨A,B,(E (List.getElem?_eq_some_iff.1 s).1).1,C,D⟩
 ·obtain⟨f,N,q,p,k⟩:=o (by omega);obtain⟨y,F⟩:=bG d.aB (aD rfl) hi;exact ((k i y F).2.2.2.2.1 hi).2
set_option maxRecDepth 100000 in
set_option maxHeartbeats 8000000 in
theorem CK (v1 v2 v3:Value) (d:aF) (w:World) (hv:bB (In w) w v1 v2 v3 d) (hs:d.Small 1048576) (ho:0<d.aH.length) (q:∀x∈d.aB,0<x.aL.length) :
  Calls Tryz.prog 87 #[.agg #[.bool d.ok,v1,v2,v3]] w fun e w'=>∃u1 u2 u3 bo bp bw bb,e=.returned (.agg #[.bool d.ok,u1,u2,u3])∧Below w.heap.size w w'∧aP (New w w') w' u1 u2 u3 d bo bp bw bb:=by
 obtain⟨bL,b4,aQ,bN⟩:=hs;obtain⟨h1,h2,h3⟩:=hv;obtain⟨a1,c1,rfl,q1⟩:=id h1;obtain⟨a2,c2,rfl,-⟩:=id h2;obtain⟨a3,c3,rfl,-⟩:=id h3;obtain q1 | ⟨b1,o1,rfl,-,-⟩:=q1
 ·omega
 have T0:=eB w 40 40 #[.bool d.ok,.slice (some ⟨b1,o1,none⟩) d.aH.length c1,.slice a2 d.aC.length c2,.slice a3 d.aB.length c3] #[.bool false,.slice none 0 0,.slice none 0 0,.slice none 0 0];obtain⟨xs,bR,bS,bO,bQ⟩:=Ge h3;have HX:=aD (And.intro bR bO);have bA:=aD bQ;have bI:∀W,Below w.heap.size w W->bB (In W) W (.slice (some ⟨b1,o1,none⟩) d.aH.length c1) (.slice a2 d.aC.length c2) (.slice a3 d.aB.length c3) d:=fun W hW=>bB.keep ⟨h1,h2,h3⟩ (In.keep hW).1 (In.keep hW).2
 have bJ:∀W,Below w.heap.size w W->d.aB.length=0∨∃A,a3=some A∧∀j u,xs[j]?=some u->W.cell? (A.add j)=some u:=fun W hW=>by
  rcases bS with z | ⟨b,o,e,hA,hc⟩
  ·exact .inl z
  ·exact .inr ⟨_,e,fun j u hu=>by rw[mJ]; exact (hW.cell (p:=⟨b,o+j,none⟩) hA).trans (hc j u hu)⟩
 have bD:=aD bI;have bE:=aD bJ;have H4:=aD bN;have HB:=aD q;clear h1 h2 h3 bR bS bO bQ bI bJ bN q;go_enter Tryz.func87,Tryz.ntmps87
 go_upto_region 1 with fail
 obtain⟨W0,aZ⟩:∃W0,W0=(w.alloc (.cells #[.bool d.ok,.slice (some ⟨b1,o1,none⟩) d.aH.length c1,.slice a2 d.aC.length c2,.slice a3 d.aB.length c3] 40)).alloc (.cells #[.bool false,.slice none 0 0,.slice none 0 0,.slice none 0 0] 40):=⟨_,rfl⟩
 have hz:W0.heap.size=w.heap.size+1+1:=by rw[aZ]; simp
 rw[← aZ] at T0 ⊢;have HZ:=aD hz;have aM:=aD T0;have KF:=aD fun (W:World) (hW:Below W0.heap.size W0 W)=>bD.out W (T0.below.trans (hW.mono (by omega)));have KX:=aD fun (W:World) (hW:Below W0.heap.size W0 W)=>bE.out W (T0.below.trans (hW.mono (by omega)))
 have aJ:∀W,Below W0.heap.size W0 W->Below W0.heap.size W0 W∧W.cell? ⟨w.heap.size,0,none⟩=some (.bool d.ok)∧W.cell? ⟨w.heap.size,1,none⟩=some (.slice (some ⟨b1,o1,none⟩) d.aH.length c1)∧W.cell? ⟨w.heap.size,2,none⟩=some (.slice a2 d.aC.length c2)∧W.cell? ⟨w.heap.size,3,none⟩=some (.slice a3 d.aB.length c3):=fun W hW=>by
  have hT:=T0.call hW;exact⟨hW,hT.c 0 0 rfl rfl,hT.c 0 1 rfl rfl,hT.c 0 2 rfl rfl,hT.c 0 3 rfl rfl⟩
 have Y:=aD aJ;clear aZ T0 aJ bD bE
 go_cut [3] (fun v wc=>∃G L a5 I a6 C bo bp,v=.pointer (some ⟨G,0,none⟩)∧kC w d wc G (.slice (some ⟨bo,0,none⟩) d.aH.length L) (.slice a5 d.aC.length I) (.slice a6 d.aB.length C) bo bp∧wc.ownsRow (w.heap.size+1+1) 44 5 (.slice a6 d.aB.length C) d.aB.length xs)
 case first=>
  refine mV (S:=fun W=>Below W0.heap.size W0 W∧W.cell? ⟨w.heap.size,0,none⟩=some (.bool d.ok)∧W.cell? ⟨w.heap.size,1,none⟩=some (.slice (some ⟨b1,o1,none⟩) d.aH.length c1)∧W.cell? ⟨w.heap.size,2,none⟩=some (.slice a2 d.aC.length c2)∧W.cell? ⟨w.heap.size,3,none⟩=some (.slice a3 d.aB.length c3)) 13 (by kernel_rfl) (Y.out _ (cT _)) (fun B=>?_);have n:=B.1;obtain⟨a8,X⟩:∃a8,a8=W0.drew:=⟨_,rfl⟩;rw[← X] at B n ⊢;clear X;refine bM (v:=?v0x1) At.z (by kernel_rfl) (fun _ _ _ h=>h) rfl ?h0x1 B ?_
  case h0x1=>intro _ s;(try dsimp only at s);go_simp;try with_reducible rfl
  try simp only[Act.put,sA,sB,sC]
  refine bM (v:=?v1x2) At.z.s (by kernel_rfl) (fun _ _ _ h=>h) rfl ?h1x2 B ?_
  case h1x2=>intro _ s;(try dsimp only at s);go_simp;try with_reducible rfl
  try simp only[Act.put,sA,sB,sC]
  refine bM (v:=?v2x3) At.z.s.s (by kernel_rfl) (fun _ _ _ h=>h) rfl ?h2x3 B ?_
  case h2x3=>intro _ s;(try dsimp only at s);go_simp;try with_reducible rfl
  try simp only[Act.put,sA,sB,sC]
  refine bM (v:=?v3x4) At.z.s.s.s (by kernel_rfl) (fun _ _ _ h=>h) rfl ?h3x4 B ?_
  case h3x4=>intro _ s;(try dsimp only at s);go_simp;try with_reducible rfl
  try simp only[Act.put,sA,sB,sC]
  refine bM (v:=?v5x5) At.z.f (by kernel_rfl) (fun _ _ _ h=>h) rfl ?h5x5 B ?_
  case h5x5=>intro _ s;(try dsimp only at s);go_simp;try with_reducible rfl
  try simp only[Act.put,sA,sB,sC]
  refine bM (v:=?v6x6) At.z.f.s (by kernel_rfl) (fun _ _ _ h=>h) rfl ?h6x6 B ?_
  case h6x6=>intro _ s;(try dsimp only at s);go_simp;try with_reducible rfl
  try simp only[Act.put,sA,sB,sC]
  refine bM (v:=?v8x7) At.z.f.s.s.s (by kernel_rfl) (fun _ _ _ h=>h) rfl ?h8x7 B ?_
  case h8x7=>intro _ s;(try dsimp only at s);go_simp;try with_reducible rfl
  try simp only[Act.put,sA,sB,sC]
  refine bM (v:=?v9x8) At.z.f.s.s.s.s (by kernel_rfl) (fun _ _ _ h=>h) rfl ?h9x8 B ?_
  case h9x8=>intro _ s;(try dsimp only at s);go_simp;try with_reducible rfl
  try simp only[Act.put,sA,sB,sC]
  refine Bc (i:=4) (j:=12) At.z.s.s.s.s At.z.f.f.s.s (by kernel_rfl) (fun K t=>?_) (fun K t=>?_)
  ·go_simp;refine (yQ _ _ d.aH _ (KF.out _ n).1 bL ho).mono ?_;rintro e U ⟨u1,bo,rfl,a9,b2,q⟩;obtain⟨bW,bV,L,rfl,-⟩:=id a9
   have a0:w.heap.size+1+1<=bo:=by have:=n.size; omega
   clear b2;have l:=n.trans (q.mono n.size);have a:=Y.out _ l;have F:=aD a9;refine t.out _ _ a ?_;clear t K B n q a9;clear a8
   try simp only[Act.put,sA,sB,sC]
   have B:=a;have n:=l;clear a l;refine Bc (i:=7) (j:=12) At.z.f.s.s At.z.f.f.s.s (by kernel_rfl) (fun K t=>?_) (fun K t=>?_)
   ·go_simp;refine (Aq _ _ _ (dC d.aC) _ (tN d.aC) (vP (KF.out _ n).2.1) (vL d.aC) b4).mono ?_;rintro e J ⟨u2,rfl,E,q⟩;obtain⟨bp,M,a4⟩:=vM E rfl;obtain⟨a5,I,rfl,-⟩:=id M
    have V:d.aC.length≠0->w.heap.size+1+1<=bp:=fun z=>by have:=n.size; have:=a4 z; omega
    clear a4 E;have l:=n.trans (q.mono n.size);have a:=Y.out _ l;replace F:=aD (F.out.but (K:=fun _=>True) (But.aG q) trivial);have T:=aD M;refine t.out _ _ a ?_;clear t K B n q M;clear U
    try simp only[Act.put,sA,sB,sC]
    have B:=a;have n:=l;clear a l;refine Bc (i:=10) (j:=12) At.z.f.f At.z.f.f.s.s (by kernel_rfl) (fun K t=>?_) (fun K t=>?_)
    ·go_simp;refine (yR _ _ _ xs _ HX.out.1 (KX.out _ n) HX.out.2 aQ).mono ?_;rintro e H ⟨u3,rfl,r,q⟩;obtain⟨a6,C,rfl⟩:=zag r;have O:=zC r (show w.heap.size+1+1<=_ by have:=n.size; omega);clear r;have l:=n.trans (q.mono n.size);have a:=Y.out _ l;replace F:=aD (F.out.but (K:=fun _=>True) (But.aG q) trivial);replace T:=aD (T.out.but (K:=fun _=>True) (But.aG q) fun _=>trivial);have H3:=aD O;refine t.out _ _ a ?_;clear t K B n q O;clear J
     try simp only[Act.put,sA,sB,sC]
     have B:=a;have n:=l;clear a l;refine bM (v:=?v11x9) At.z.f.f.s (by kernel_rfl) (fun _ _ _ h=>h) rfl ?h11x9 B ?_
     case h11x9=>intro _ s;(try dsimp only at s);go_simp;try with_reducible rfl
     try simp only[Act.put,sA,sB,sC]
     refine dX (i:=12) At.z.f.f.s.s (by kernel_rfl) (fun K t=>?_);go_simp;have q:=bC H (.cells #[.bool false,.slice none 0 0,.slice none 0 0,.slice none 0 0] 40);have D:=dH H 40 #[.bool false,.slice none 0 0,.slice none 0 0,.slice none 0 0];obtain⟨aK,aY⟩:∃aK,aK=H.alloc (.cells #[.bool false,.slice none 0 0,.slice none 0 0,.slice none 0 0] 40):=⟨_,rfl⟩;obtain⟨G,P⟩:∃G,G=H.heap.size:=⟨_,rfl⟩;rw[← aY] at q D ⊢;rw[← P] at D ⊢
     have R:w.heap.size+1+1<=G:=by have:=n.size; omega
     clear aY P;have l:=n.trans (q.mono n.size);have a:=Y.out _ l;replace F:=aD (F.out.but (K:=fun _=>True) (But.aG q) trivial);replace T:=aD (T.out.but (K:=fun _=>True) (But.aG q) fun _=>trivial);replace H3:=aD (gD (K:=fun _=>True) H3.out (But.aG q) fun _ _=>trivial);have y:=aD D;refine t.out _ _ a ?_;clear t K B n q D;clear H
     try simp only[Act.put,sA,sB,sC]
     have B:=a;have n:=l;clear a l;have n0:=y.out.cell (i:=0) (by simp);have n1:=y.out.cell (i:=1) (by simp);have n2:=y.out.cell (i:=2) (by simp);have n3:=y.out.cell (i:=3) (by simp);have m0:=y.out.frozen 0;have m1:=y.out.frozen 1;have m2:=y.out.frozen 2;have m3:=y.out.frozen 3;have HG:=aD (zI aM.out HZ.out n F.out T.out H3.out y.out R a0 V);clear F T H3 y n B;refine iQ (m:=13) At.z.f.f.s.s.s (by kernel_rfl) (by kernel_rfl) (fun K t=>?_);go_simp;refine t.out _ _ ?_;clear t K n0 n1 n2 n3 m0 m1 m2 m3
     go_wp2_with fail
     go_meet;exact⟨_,_,_,_,_,_,_,_,rfl,HG.out⟩
    ·go_simp;have q:=bC J (.cells #[.bool false,.slice none 0 0,.slice none 0 0,.slice none 0 0] 40);have D:=dH J 40 #[.bool false,.slice none 0 0,.slice none 0 0,.slice none 0 0];obtain⟨H,aX⟩:∃H,H=J.alloc (.cells #[.bool false,.slice none 0 0,.slice none 0 0,.slice none 0 0] 40):=⟨_,rfl⟩;obtain⟨G,P⟩:∃G,G=J.heap.size:=⟨_,rfl⟩;rw[← aX] at q D ⊢;rw[← P] at D ⊢
     have R:w.heap.size+1+1<=G:=by have:=n.size; omega
     clear aX P;have l:=n.trans (q.mono n.size);have a:=Y.out _ l;replace F:=aD (F.out.but (K:=fun _=>True) (But.aG q) trivial);replace T:=aD (T.out.but (K:=fun _=>True) (But.aG q) fun _=>trivial);have y:=aD D;refine t.out _ _ a ?_;clear t K B n q D;clear J
     try simp only[Act.put,sA,sB,sC]
     have B:=a;have n:=l;clear a l;refine dX (i:=10) At.z.f.f (by kernel_rfl) (fun K t=>?_);go_simp;refine (yR _ _ _ xs _ HX.out.1 (KX.out _ n) HX.out.2 aQ).mono ?_;rintro e aK ⟨u3,rfl,r,q⟩;obtain⟨a6,C,rfl⟩:=zag r;have O:=zC r (show w.heap.size+1+1<=_ by have:=n.size; omega);clear r;have l:=n.trans (q.mono n.size);have a:=Y.out _ l;replace F:=aD (F.out.but (K:=fun _=>True) (But.aG q) trivial);replace T:=aD (T.out.but (K:=fun _=>True) (But.aG q) fun _=>trivial);replace y:=aD (dP y.out q);have H3:=aD O;refine t.out _ _ a ?_;clear t K B n q O;clear H
     try simp only[Act.put,sA,sB,sC]
     have B:=a;have n:=l;clear a l;refine bM (v:=?v11x10) At.z.f.f.s (by kernel_rfl) (fun _ _ _ h=>h) rfl ?h11x10 B ?_
     case h11x10=>intro _ s;(try dsimp only at s);go_simp;try with_reducible rfl
     try simp only[Act.put,sA,sB,sC]
     have n0:=y.out.cell (i:=0) (by simp);have n1:=y.out.cell (i:=1) (by simp);have n2:=y.out.cell (i:=2) (by simp);have n3:=y.out.cell (i:=3) (by simp);have m0:=y.out.frozen 0;have m1:=y.out.frozen 1;have m2:=y.out.frozen 2;have m3:=y.out.frozen 3;have HG:=aD (zI aM.out HZ.out n F.out T.out H3.out y.out R a0 V);clear F T H3 y n B;refine iQ (m:=13) At.z.f.f.s.s.s (by kernel_rfl) (by kernel_rfl) (fun K t=>?_);go_simp;refine t.out _ _ ?_;clear t K n0 n1 n2 n3 m0 m1 m2 m3
     go_wp2_with fail
     go_meet;exact⟨_,_,_,_,_,_,_,_,rfl,HG.out⟩
   ·go_simp;have q:=bC U (.cells #[.bool false,.slice none 0 0,.slice none 0 0,.slice none 0 0] 40);have D:=dH U 40 #[.bool false,.slice none 0 0,.slice none 0 0,.slice none 0 0];obtain⟨J,aW⟩:∃J,J=U.alloc (.cells #[.bool false,.slice none 0 0,.slice none 0 0,.slice none 0 0] 40):=⟨_,rfl⟩;obtain⟨G,P⟩:∃G,G=U.heap.size:=⟨_,rfl⟩;rw[← aW] at q D ⊢;rw[← P] at D ⊢
    have R:w.heap.size+1+1<=G:=by have:=n.size; omega
    clear aW P;have l:=n.trans (q.mono n.size);have a:=Y.out _ l;replace F:=aD (F.out.but (K:=fun _=>True) (But.aG q) trivial);have y:=aD D;refine t.out _ _ a ?_;clear t K B n q D;clear U
    try simp only[Act.put,sA,sB,sC]
    have B:=a;have n:=l;clear a l;refine dX (i:=7) At.z.f.s.s (by kernel_rfl) (fun K t=>?_);go_simp;refine (Aq _ _ _ (dC d.aC) _ (tN d.aC) (vP (KF.out _ n).2.1) (vL d.aC) b4).mono ?_;rintro e H ⟨u2,rfl,E,q⟩;obtain⟨bp,M,a4⟩:=vM E rfl;obtain⟨a5,I,rfl,-⟩:=id M
    have V:d.aC.length≠0->w.heap.size+1+1<=bp:=fun z=>by have:=n.size; have:=a4 z; omega
    clear a4 E;have l:=n.trans (q.mono n.size);have a:=Y.out _ l;replace F:=aD (F.out.but (K:=fun _=>True) (But.aG q) trivial);replace y:=aD (dP y.out q);have T:=aD M;refine t.out _ _ a ?_;clear t K B n q M;clear J
    try simp only[Act.put,sA,sB,sC]
    have B:=a;have n:=l;clear a l;refine dX (i:=10) At.z.f.f (by kernel_rfl) (fun K t=>?_);go_simp;refine (yR _ _ _ xs _ HX.out.1 (KX.out _ n) HX.out.2 aQ).mono ?_;rintro e aK ⟨u3,rfl,r,q⟩;obtain⟨a6,C,rfl⟩:=zag r;have O:=zC r (show w.heap.size+1+1<=_ by have:=n.size; omega);clear r;have l:=n.trans (q.mono n.size);have a:=Y.out _ l;replace F:=aD (F.out.but (K:=fun _=>True) (But.aG q) trivial);replace y:=aD (dP y.out q);replace T:=aD (T.out.but (K:=fun _=>True) (But.aG q) fun _=>trivial);have H3:=aD O;refine t.out _ _ a ?_;clear t K B n q O;clear H
    try simp only[Act.put,sA,sB,sC]
    have B:=a;have n:=l;clear a l;refine bM (v:=?v11x11) At.z.f.f.s (by kernel_rfl) (fun _ _ _ h=>h) rfl ?h11x11 B ?_
    case h11x11=>intro _ s;(try dsimp only at s);go_simp;try with_reducible rfl
    try simp only[Act.put,sA,sB,sC]
    have n0:=y.out.cell (i:=0) (by simp);have n1:=y.out.cell (i:=1) (by simp);have n2:=y.out.cell (i:=2) (by simp);have n3:=y.out.cell (i:=3) (by simp);have m0:=y.out.frozen 0;have m1:=y.out.frozen 1;have m2:=y.out.frozen 2;have m3:=y.out.frozen 3;have HG:=aD (zI aM.out HZ.out n F.out T.out H3.out y.out R a0 V);clear F T H3 y n B;refine iQ (m:=13) At.z.f.f.s.s.s (by kernel_rfl) (by kernel_rfl) (fun K t=>?_);go_simp;refine t.out _ _ ?_;clear t K n0 n1 n2 n3 m0 m1 m2 m3
    go_wp2_with fail
    go_meet;exact⟨_,_,_,_,_,_,_,_,rfl,HG.out⟩
  ·go_simp;have q:=bC a8 (.cells #[.bool false,.slice none 0 0,.slice none 0 0,.slice none 0 0] 40);have D:=dH a8 40 #[.bool false,.slice none 0 0,.slice none 0 0,.slice none 0 0];obtain⟨U,aV⟩:∃U,U=a8.alloc (.cells #[.bool false,.slice none 0 0,.slice none 0 0,.slice none 0 0] 40):=⟨_,rfl⟩;obtain⟨G,P⟩:∃G,G=a8.heap.size:=⟨_,rfl⟩;rw[← aV] at q D ⊢;rw[← P] at D ⊢
   have R:w.heap.size+1+1<=G:=by have:=n.size; omega
   clear aV P;have l:=n.trans (q.mono n.size);have a:=Y.out _ l;have y:=aD D;refine t.out _ _ a ?_;clear t K B n q D;clear a8
   try simp only[Act.put,sA,sB,sC]
   have B:=a;have n:=l;clear a l;refine dX (i:=4) At.z.s.s.s.s (by kernel_rfl) (fun K t=>?_);go_simp;refine (yQ _ _ d.aH _ (KF.out _ n).1 bL ho).mono ?_;rintro e J ⟨u1,bo,rfl,a9,b2,q⟩;obtain⟨bW,bV,L,rfl,-⟩:=id a9
   have a0:w.heap.size+1+1<=bo:=by have:=n.size; omega
   clear b2;have l:=n.trans (q.mono n.size);have a:=Y.out _ l;replace y:=aD (dP y.out q);have F:=aD a9;refine t.out _ _ a ?_;clear t K B n q a9;clear U
   try simp only[Act.put,sA,sB,sC]
   have B:=a;have n:=l;clear a l;refine dX (i:=7) At.z.f.s.s (by kernel_rfl) (fun K t=>?_);go_simp;refine (Aq _ _ _ (dC d.aC) _ (tN d.aC) (vP (KF.out _ n).2.1) (vL d.aC) b4).mono ?_;rintro e H ⟨u2,rfl,E,q⟩;obtain⟨bp,M,a4⟩:=vM E rfl;obtain⟨a5,I,rfl,-⟩:=id M
   have V:d.aC.length≠0->w.heap.size+1+1<=bp:=fun z=>by have:=n.size; have:=a4 z; omega
   clear a4 E;have l:=n.trans (q.mono n.size);have a:=Y.out _ l;replace y:=aD (dP y.out q);replace F:=aD (F.out.but (K:=fun _=>True) (But.aG q) trivial);have T:=aD M;refine t.out _ _ a ?_;clear t K B n q M;clear J
   try simp only[Act.put,sA,sB,sC]
   have B:=a;have n:=l;clear a l;refine dX (i:=10) At.z.f.f (by kernel_rfl) (fun K t=>?_);go_simp;refine (yR _ _ _ xs _ HX.out.1 (KX.out _ n) HX.out.2 aQ).mono ?_;rintro e aK ⟨u3,rfl,r,q⟩;obtain⟨a6,C,rfl⟩:=zag r;have O:=zC r (show w.heap.size+1+1<=_ by have:=n.size; omega);clear r;have l:=n.trans (q.mono n.size);have a:=Y.out _ l;replace y:=aD (dP y.out q);replace F:=aD (F.out.but (K:=fun _=>True) (But.aG q) trivial);replace T:=aD (T.out.but (K:=fun _=>True) (But.aG q) fun _=>trivial);have H3:=aD O;refine t.out _ _ a ?_;clear t K B n q O;clear H
   try simp only[Act.put,sA,sB,sC]
   have B:=a;have n:=l;clear a l;refine bM (v:=?v11x12) At.z.f.f.s (by kernel_rfl) (fun _ _ _ h=>h) rfl ?h11x12 B ?_
   case h11x12=>intro _ s;(try dsimp only at s);go_simp;try with_reducible rfl
   try simp only[Act.put,sA,sB,sC]
   have n0:=y.out.cell (i:=0) (by simp);have n1:=y.out.cell (i:=1) (by simp);have n2:=y.out.cell (i:=2) (by simp);have n3:=y.out.cell (i:=3) (by simp);have m0:=y.out.frozen 0;have m1:=y.out.frozen 1;have m2:=y.out.frozen 2;have m3:=y.out.frozen 3;have HG:=aD (zI aM.out HZ.out n F.out T.out H3.out y.out R a0 V);clear F T H3 y n B;refine iQ (m:=13) At.z.f.f.s.s.s (by kernel_rfl) (by kernel_rfl) (fun K t=>?_);go_simp;refine t.out _ _ ?_;clear t K n0 n1 n2 n3 m0 m1 m2 m3
   go_wp2_with fail
   go_meet;exact⟨_,_,_,_,_,_,_,_,rfl,HG.out⟩
 case rest=>
  obtain⟨G,L,a5,I,a6,C,bo,bp,rfl,CB,aU⟩:=hcut;rename World=>wc;have y3:wc.cell? ⟨G,3,none⟩=some (.slice a6 d.aB.length C):=CB.out.cell (i:=3) (by omega)
  obtain⟨bw,aA⟩:∃bw,0<d.aB.length->a6=some ⟨bw,0,none⟩∧w.heap.size+1+1<=bw∧∃f N,wc.rowIs bw 44 N f∧d.aB.length*5<=N∧eJ w wc (w.heap.size+1+1) d.aB 0 f (fun _=>0):=by
   by_cases z:0<d.aB.length
   ·obtain⟨g,c6,f,hv,hg,hr,hN,hf⟩:=zdt aU z
    cases hv
    exact⟨g,fun _=>⟨rfl,hg,f,_,hr,hN,Fj bA.out hf⟩⟩
   ·exact⟨0,fun k=>absurd k z⟩
  have b5:Hid (0<d.aB.length->a6=some ⟨bw,0,none⟩∧w.heap.size+1+1<=bw):=fun z=>⟨(aA z).1,(aA z).2.1⟩;have b8:Hid (0<d.aB.length->∃f N,wc.rowIs bw 44 N f∧d.aB.length*5<=N∧eJ w wc (w.heap.size+1+1) d.aB 0 f (fun _=>0)):=fun z=>(aA z).2.2;have Z:=aD CB;clear aA aU CB KX KF Y HX bA;go_wp2
  go_loopw [21] (fun z wr=>∃(k:Nat) (bb:Nat->Nat),k<=d.aB.length∧z=.int .i64 k∧kC w d wr G (.slice (some ⟨bo,0,none⟩) d.aH.length L) (.slice a5 d.aC.length I) (.slice a6 d.aB.length C) bo bp ∧
   (0<d.aB.length->∃f N,wr.rowIs bw 44 N f∧d.aB.length*5<=N∧eJ w wr (w.heap.size+1+1) d.aB k f bb)∧(∀i j,i<k->j<k->bb i=bb j->i=j)∧∀i,i<k->bb i≠bo) (fun z _=>d.aB.length-(intOf z).toNat)
  case atStart=>exact⟨0,fun _=>0,Nat.zero_le _,rfl,Z.out,b8.out,fun i j hi=>by omega,fun i hi=>by omega⟩
  case round=>
   obtain⟨k,bb,hk,rfl,CB,hM,aS,aT⟩:=hrel;rename World=>wr;have b7:=aD aS;have b9:=aD aT;clear aS aT y3 b8 Z;by_cases c0:k<d.aB.length
   ·obtain⟨rfl,aA⟩:=b5.out (by omega);obtain⟨f,N,hr,hN,hM⟩:=hM (by omega);obtain⟨x,hx⟩:=bG d.aB (aD rfl) c0;obtain⟨f0,f1,f3,f4,-,f2⟩:=hM k x hx;have aO:=f2 (Nat.le_refl _);obtain⟨a7,c7,f2,-⟩:=id aO;rw[f2] at aO;have g0:=hr.cell (i:=k*5) (by omega);have g1:=hr.cell (i:=k*5+1) (by omega);have g2:=hr.cell (i:=k*5+2) (by omega);have g3:=hr.cell (i:=k*5+3) (by omega);have g4:=hr.cell (i:=k*5+4) (by omega);rw[f0] at g0;rw[f1] at g1;rw[f2] at g2;rw[f3] at g3;rw[f4] at g4;have bK:=HB.out x (List.mem_of_getElem? hx);have bZ:=H4.out x (List.mem_of_getElem? hx)
    have c8:(k:Int)<(d.aB.length:Int):=by omega
    have y3:wr.cell? ⟨G,3,none⟩=some (.slice (some ⟨bw,0,none⟩) d.aB.length C):=CB.out.cell (i:=3) (by omega);have C0:=cZ wr 44 #[.int .i64 x.state,.int .i64 x.gone,.slice a7 x.aL.length c7,.bool x.aR,.int .i64 x.aN];have HX:=aD hx;have bT:=aD aO;have bU:=aD hM;have HR:=aD hr;have Z:=aD CB;clear f0 f1 f2 f3 f4 aO hM hr CB hx
    go_wp2_with fail
    obtain⟨W1,bF⟩:∃W1,W1=wr.alloc (.cells #[.int .i64 x.state,.int .i64 x.gone,.slice a7 x.aL.length c7,.bool x.aR,.int .i64 x.aN] 44):=⟨_,rfl⟩;rw[← bF] at C0 ⊢
    have aJ:∀W,Below W1.heap.size W1 W->Below W1.heap.size W1 W∧W.cell? ⟨G,3,none⟩=some (.slice (some ⟨bw,0,none⟩) d.aB.length C)∧W.cell? ⟨wr.heap.size,2,none⟩=some (.slice a7 x.aL.length c7):=fun W hW=>by
     have hT:=C0.call hW;exact⟨hW,bP (bP y3 C0.below) hW,hT.c 0 2 rfl rfl⟩
    have Y:=aD aJ;have b6:=aD C0.below;clear aJ C0 bF g0 g1 g2 g3 g4 y3;refine mV (S:=fun W=>Below W1.heap.size W1 W∧W.cell? ⟨G,3,none⟩=some (.slice (some ⟨bw,0,none⟩) d.aB.length C)∧W.cell? ⟨wr.heap.size,2,none⟩=some (.slice a7 x.aL.length c7)) 8 (by kernel_rfl) (Y.out _ (cT _)) (fun B=>?_);have n:=B.1;obtain⟨wA,X⟩:∃wA,wA=W1.drew:=⟨_,rfl⟩;rw[← X] at B n ⊢;clear X;refine bM (v:=?v0x13) At.z (by kernel_rfl) (fun _ _ _ h=>h) rfl ?h0x13 B ?_
    case h0x13=>intro _ s;(try dsimp only at s);go_simp;try with_reducible rfl
    try simp only[Act.put,sA,sB,sC]
    refine bM (v:=?v1x14) At.z.s (by kernel_rfl) (fun _ _ _ h=>h) rfl ?h1x14 B ?_
    case h1x14=>intro _ s;(try dsimp only at s);go_simp;try with_reducible rfl
    try simp only[Act.put,sA,sB,sC]
    refine bM (v:=?v2x15) At.z.s.s (by kernel_rfl) (fun _ _ _ h=>h) rfl ?h2x15 B ?_
    case h2x15=>intro _ s;(try dsimp only at s);go_simp;try with_reducible rfl
    try simp only[Act.put,sA,sB,sC]
    refine bM (v:=?v3x16) At.z.s.s.s (by kernel_rfl) (fun _ _ _ h=>h) rfl ?h3x16 B ?_
    case h3x16=>intro _ s;(try dsimp only at s);go_simp;try with_reducible rfl
    try simp only[Act.put,sA,sB,sC]
    refine bM (v:=?v4x17) At.z.s.s.s.s (by kernel_rfl) (fun _ _ _ h=>h) rfl ?h4x17 B ?_
    case h4x17=>intro _ s;(try dsimp only at s);go_simp;try with_reducible rfl
    try simp only[Act.put,sA,sB,sC]
    have aI:=b6.out.trans (n.mono b6.out.size);have X:=Z.out.below.trans (aI.mono Z.out.below.size);refine dX (i:=5) At.z.f (by kernel_rfl) (fun K t=>?_);go_simp;refine (yQ _ _ x.aL _ (bT.out.keep (In.keep X).1 (In.keep X).2) bZ bK).mono ?_;rintro e wB ⟨u,b,rfl,hO,bY,q⟩;obtain⟨gB,NB,c5,rfl,-⟩:=id hO;have l:=n.trans (q.mono n.size);have a:=Y.out _ l;have b0:=aI.trans (q.mono aI.size);refine t.out _ _ a ?_;have c4:=aI.size;clear t K B n q aI X
    try simp only[Act.put,sA,sB,sC]
    refine dX (i:=6) At.z.f.s (by kernel_rfl) (fun K t=>?_);go_simp;refine t.out _ _ a ?_;clear t K
    try simp only[Act.put,sA,sB,sC]
    refine nW (i:=7) (v:=?vv7x18) At.z.f.s.s (by kernel_rfl) (by kernel_rfl) (by kernel_rfl) (by kernel_rfl) (fun _ _ _ h=>h) rfl ?hy7x18 a ?rest7x18
    case hy7x18=>(intro w' bX; (try dsimp only at bX); go_simp; try with_reducible rfl)
    try simp only[Act.put,sA,sB,sC]
    have b3:=dP HR.out b0;have g2:=b3.cell (i:=k*5+2) (by omega);have z2:=b3.frozen (k*5+2);have aE:=aD (Gt Z.out HR.out bU.out HX.out aA b0 hO (Nat.le_trans c4 bY) b7.out b9.out);clear b3 hO l a b0;refine iQ (m:=8) At.z.f.s.s.s (by kernel_rfl) (by kernel_rfl) (fun K t=>?_);go_simp;refine t.out _ _ ?_;clear t K g2 z2;go_wp2;go_roundw
    case rel=>exact⟨k+1,_,by omega,by go_num,aE.out.1,fun _=>⟨_,_,aE.out.2.1,hN,aE.out.2.2.1⟩,aE.out.2.2.2.1,aE.out.2.2.2.2⟩
    case measure=>simp[intOf]; omega
   ·obtain rfl:k=d.aB.length:=by omega
    obtain⟨gR,hR⟩:=CB.res;have t0:wr.cell? ⟨G,0,none⟩=some (.bool d.ok):=CB.out.cell (i:=0) (by omega);have t1:wr.cell? ⟨G,1,none⟩=some (.slice (some ⟨bo,0,none⟩) d.aH.length L):=CB.out.cell (i:=1) (by omega);have t2:wr.cell? ⟨G,2,none⟩=some (.slice a5 d.aC.length I):=CB.out.cell (i:=2) (by omega);have t3:wr.cell? ⟨G,3,none⟩=some (.slice a6 d.aB.length C):=CB.out.cell (i:=3) (by omega);have r0:=hR.cell (i:=0) (by omega);have r1:=hR.cell (i:=1) (by omega);have r2:=hR.cell (i:=2) (by omega);have r3:=hR.cell (i:=3) (by omega);have k0:=hR.frozen 0;have k1:=hR.frozen 1;have k2:=hR.frozen 2;have k3:=hR.frozen 3;have bH:=GC CB hM b5.out b7.out b9.out;have HF:=aD bH;have Z:=aD CB;clear hR CB hM bH;go_wp2;refine bodyPost_ret (v:=.agg #[.bool d.ok,.slice (some ⟨bo,0,none⟩) d.aH.length L,.slice a5 d.aC.length I,.slice a6 d.aB.length C]) (by simp[results,Tryz.results87,go_sem,r0,r1,r2,r3]) rfl ⟨_,_,_,bo,bp,bw,bb,rfl,?_,?_⟩
    ·have p:w.heap.size<=w.heap.size+1:=by omega
     exact (((Z.out.below.setCell (p:=⟨w.heap.size+1,0,none⟩) p _).setCell (p:=⟨w.heap.size+1,1,none⟩) p _).setCell (p:=⟨w.heap.size+1,2,none⟩) p _).setCell (p:=⟨w.heap.size+1,3,none⟩) p _
    ·have hk:∀o:Nat,¬((fun c=>c≠w.heap.size+1) (⟨w.heap.size+1,o,none⟩:Addr).block):=fun o z=>z rfl;exact (HF.out.but (Q:=fun c=>w.heap.size+1+1<=c) (((((But.refl (fun c=>c≠w.heap.size+1) wr).setCell (hk 0) _).setCell (hk 1) _).setCell (hk 2) _).setCell (hk 3) _) (fun c hc=>by omega) fun _ z=>z).bound fun c hc hl=>⟨by omega,hl⟩
end Go.Proofs.YtdhinkgjiapigaaGreatDoor

import Derived.Test.YtdhinkgjiapigaaGreatDoorDoS3
namespace Go.Proofs.YtdhinkgjiapigaaGreatDoor
section
open Classical Go.Deep Go.RowKit
def kD (P:Nat->Prop) (w:World) (v1 v2 v3:Value) (bo bp bw:Nat) (r:Int×aF) (e:Ending) (w':World):Prop:=
 e=.returned (.int .i64 r.1)∧∃bb',aP (fun c=>P c∨New w w' c) w' v1 v2 v3 r.2 bo bp bw bb'∧But (fun c=>¬P c) w w'
theorem kD.of {P:Nat->Prop}{w w':World}{v1 v2 v3:Value}{b d e:Nat}{c:Int}{D:aF}{r:Int×aF}{a:Nat->Nat}(h:r=(c,D)) (g:aP P w' v1 v2 v3 D b d e a) (f:But (fun c=>¬P c) w w'):kD P w v1 v2 v3 b d e r (.returned (.int .i64 c)) w':=by
 subst h;exact⟨rfl,a,g.but (K:=fun _=>True) (But.refl _ _) (fun _ _=>trivial) fun _ z=>.inl z,f⟩
set_option maxHeartbeats 1000000 in
theorem Gs (P:Nat->Prop) (n s t u l ok v1 v2 v3:Value) (p:aK) (d:aF) (k:Nat) (h i j:Nat) (bb:Nat->Nat) (w:World) (m:aP P w v1 v2 v3 d h i j bb) (q:k<d.aH.length) (_hl:d.aH.length<=1048576) :
  Calls Tryz.prog 164 #[.agg #[n,s,t,u,l],.agg #[ok,v1,v2,v3],.agg #[.int .i64 3,.int .i64 (k:Int),.int .i64 0]] w fun e w'=>kD P w v1 v2 v3 h i j (cO p d 3 (k:Int) 0) e w':=by
 have g:=iE w 27 40 55 #[n,s,t,u,l] #[ok,v1,v2,v3] #[.int .i64 3,.int .i64 (k:Int),.int .i64 0];have a:=m.but (K:=fun _=>True) (Q:=P) (But.aG g.below) (fun _ _=>trivial) fun _ z=>z;obtain⟨o,r⟩:=bG d.aH (aD rfl) q;obtain⟨B,rfl,C,D⟩:=a.aH.cells r;obtain⟨f,b⟩:=a.kZ q true;have y:=aD f;have v:=aD ((But.aG (K:=fun c=>¬P c) g.below).trans b);have x:=aD (show cO p d 3 (k:Int) 0=(0,{ d with aH:=d.aH.set k true }) by simp[cO])
 have A:(k:Int)<(d.aH.length:Int):=by omega
 clear m a f b r g;go_enter Tryz.func164,Tryz.ntmps164;go_wp2;go_ret;exact kD.of x.out y.out v.out
set_option maxHeartbeats 1000000 in
theorem IV (P:Nat->Prop) (n s t u l ok v1 v2 v3:Value) (p:aK) (d:aF) (k:Nat) (h i j:Nat) (bb:Nat->Nat) (w:World) (m:aP P w v1 v2 v3 d h i j bb) (q:k<d.aH.length) (_hl:d.aH.length<=1048576) :
  Calls Tryz.prog 165 #[.agg #[n,s,t,u,l],.agg #[ok,v1,v2,v3],.agg #[.int .i64 4,.int .i64 (k:Int),.int .i64 0]] w fun e w'=>kD P w v1 v2 v3 h i j (cO p d 4 (k:Int) 0) e w':=by
 have g:=iE w 27 40 55 #[n,s,t,u,l] #[ok,v1,v2,v3] #[.int .i64 4,.int .i64 (k:Int),.int .i64 0];have a:=m.but (K:=fun _=>True) (Q:=P) (But.aG g.below) (fun _ _=>trivial) fun _ z=>z;obtain⟨o,r⟩:=bG d.aH (aD rfl) q;obtain⟨B,rfl,C,D⟩:=a.aH.cells r;obtain⟨f,b⟩:=a.kZ q false;have y:=aD f;have v:=aD ((But.aG (K:=fun c=>¬P c) g.below).trans b);have x:=aD (show cO p d 4 (k:Int) 0=(0,{ d with aH:=d.aH.set k false }) by simp[cO])
 have A:(k:Int)<(d.aH.length:Int):=by omega
 clear m a f b r g;go_enter Tryz.func165,Tryz.ntmps165;go_wp2;go_ret;exact kD.of x.out y.out v.out
set_option maxHeartbeats 1000000 in
theorem IU (P:Nat->Prop) (n t u v r ok v1 v2 v3:Value) (p:aK) (d:aF) (k:Nat) (a:Int) (m o q:Nat) (bb:Nat->Nat) (w:World) (s:aP P w v1 v2 v3 d m o q bb) (B:k<d.aC.length) (_hl:d.aC.length<=1048576) :
  Calls Tryz.prog 166 #[.agg #[n,t,u,v,r],.agg #[ok,v1,v2,v3],.agg #[.int .i64 5,.int .i64 (k:Int),.int .i64 a]] w fun e w'=>kD P w v1 v2 v3 m o q (cO p d 5 (k:Int) a) e w':=by
 have l:=iE w 27 40 55 #[n,t,u,v,r] #[ok,v1,v2,v3] #[.int .i64 5,.int .i64 (k:Int),.int .i64 a];have g:=s.but (K:=fun _=>True) (Q:=P) (But.aG l.below) (fun _ _=>trivial) fun _ z=>z;obtain⟨i,b⟩:=bG d.aC (aD rfl) B;obtain⟨D,rfl,-,E,-,F⟩:=g.aC.cells b
 have f:kB d.aC k (fun i=>(i.1,a))=d.aC.set k (if 1=0 then (a,i.2) else (i.1,a)):=by rw[uZ _ b]; rfl
 obtain⟨h,j⟩:=g.put b 1 (by omega) a;rw[← f] at h;have A:=aD h;have x:=aD ((But.aG (K:=fun c=>¬P c) l.below).trans j);have y:=aD (show cO p d 5 (k:Int) a=(0,{ d with aC:=kB d.aC k fun i=>(i.1,a) }) by simp[cO])
 have C:(k:Int)<(d.aC.length:Int):=by omega
 clear s g h j b l f;go_enter Tryz.func166,Tryz.ntmps166;go_wp2;go_ret;exact kD.of y.out A.out x.out
end
section
open Go
section
variable {P : Program}{md : Region.Mode}{ops : Array Oper}{Q : Exit->Act->World->Prop}{S : World->Prop}
def fJ (P:Program) (md:Region.Mode) (ops:Array Oper) (Q:Exit->Act->World->Prop) (S:World->Prop) (m:Nat):Nat->Array Bool->Act->World->Prop
 | 0,listed,a,w=>Region.ready md ops listed=[]∧Q .normal a w
 | fuel+1,listed,a,w=>
  (Region.ready md ops listed=[]->Q .normal a w) ∧
  ∀i∈Region.ready md ops listed,wpOp P ops Q i (fun a' w'=>(i≠m->S w')∧fJ P md ops Q S m fuel (listed.setIfInBounds i true) a' w') a w
theorem Cr {m:Nat}:∀(b:Nat) (c:Array Bool) (a:Act) (w:World),fJ P md ops Q S m b c a w->wpAny P md ops Q b c a w
 | 0,_,_,_,h=>h
 | b+1,_,_,_,h=>⟨h.1,fun i hi=>wpOp_mono (fun d w' k=>Cr b _ d w' k.2) (h.2 i hi)⟩
def vU (md:Region.Mode) (ops:Array Oper) (m i:Nat):Bool:=match ops[m]? with
 | some o=>o.after.any fun e=>Region.binds md e&&e.on == i
 | none=>false
theorem Fz {m i:Nat}{t:Oper}{v:Value}(hi:ops[i]?=some t) (r:∀(j:Nat) (o:Oper) cs b,ops[j]?=some o->o.op≠.select cs b) (R:∀c a w,Q (.panic c) (a.put t.dst v) w->Q (.panic c) a w)
  (J:vU md ops m i=true) (T:i≠m):∀(g:Nat) (f:Array Bool) (a:Act) (w:World),
   (∀j oj,ops[j]?=some oj->j≠i->f.getD j true=false->(∀e∈oj.after,Region.binds md e=true->e.on≠i)->t.apart ops oj=true) ->
   i∈Region.ready md ops f->YieldsIf P ops S t v a->S w ->
   fJ P md ops Q S m g (f.setIfInBounds i true) (a.put t.dst v) w->fJ P md ops Q S m (g+1) f a w:=by
 intro g
 induction g with
 | zero=>
  intro f a w _ s E x H;refine⟨fun h=>(by rw[h] at s; cases s),fun j D=>?_⟩;by_cases e:j=i
  ·subst e;exact E.wpOp hi x ⟨fun _=>x,H⟩
  ·have k:=ready_mono D e;rw[H.1] at k
   cases k
 | succ g ih=>
  intro f a w M s E x H;refine⟨fun h=>(by rw[h] at s; cases s),fun j D=>?_⟩;by_cases e:j=i
  ·subst e;exact E.wpOp hi x ⟨fun _=>x,H⟩
  obtain⟨n,oj,l,y⟩:=mem_ready.1 D
  have p:∀d∈oj.after,Region.binds md d=true->d.on≠i:=fun d F A q=>by
   have u:=y d F A;have L:=(mem_ready.1 s).1;rw[q] at u;rcases Nat.lt_or_ge i f.size with z | z
   ·simp[z] at L u;rw[L] at u
    cases u
   ·simp[Array.getElem?_eq_none z] at u
  have G:j≠m:=fun q=>by
   subst q;unfold vU at J;rw[l] at J;obtain⟨d,F,A⟩:=Array.any_eq_true'.1 J;simp only[Bool.and_eq_true,beq_iff_eq] at A;exact p d F A.1 A.2
  have O:=wpOp_putIf l (M j oj l e n p) (fun cs b=>r i t cs b hi) (fun cs b=>r j oj cs b l) R E (H.2 j (ready_mono D e));refine wpOp_mono (fun N w' C=>⟨C.2.1,ih (f.setIfInBounds j true) N w' (fun k ok U I B K=>?_) (ready_mono s (Ne.symm e)) C.1 (C.2.1 G) ?_⟩) O
  ·refine M k ok U I ?_ K;by_cases q:j=k
   ·subst q; exact n
   ·rw[getD_set_ne true q] at B; exact B
  ·rw[Array.setIfInBounds_comm _ _ e];exact C.2.2
theorem Aa {m i:Nat}{e:Oper}{v:Value}{d:Nat}{b:Array Bool}{a:Act}{w:World}(hi:ops[i]?=some e) (n:Region.noSelect ops=true) (k:Region.free md ops b i=true) (l:(Region.ready md ops b).contains i=true) (f:(vU md ops m i&&i != m)=true)
  (g:∀c a w,Q (.panic c) (a.put e.dst v) w->Q (.panic c) a w) (o:YieldsIf P ops S e v a) (j:S w)
  (h:fJ P md ops Q S m d (b.setIfInBounds i true) (a.put e.dst v) w):fJ P md ops Q S m (d+1) b a w:=by
 rw[Bool.and_eq_true,bne_iff_ne] at f;exact Fz hi (Region.noSelect_spec n) g f.1 f.2 d b a w (Region.free_spec hi k) (by simpa using l) o j h
theorem Cs {m i:Nat}{c:Nat}{b:Array Bool}{a:Act}{w:World}(d:Region.ready md ops b=[i]) (h:wpOp P ops Q i (fun a' w'=>(i≠m->S w')∧fJ P md ops Q S m c (b.setIfInBounds i true) a' w') a w):fJ P md ops Q S m (c+1) b a w:=
 ⟨fun f=>(by rw[f] at d; cases d),fun j e=>(by
  rw[d] at e
  obtain rfl:=List.mem_singleton.1 e
  exact h)⟩
theorem xX {m c:Nat}{b:Array Bool}{a:Act}{w:World}(d:Region.ready md ops b=[]) (h:Q .normal a w):fJ P md ops Q S m c b a w:=by
 cases c with
 | zero=>exact⟨d,h⟩
 | succ n=>exact⟨fun _=>h,fun i hi=>(by rw[d] at hi; cases hi)⟩
theorem Cd {id m:Nat}{a:Act}{w:World}(b:P.follows .mixedOrders=true) (h:fJ P .any ops Q S m ops.size (Array.replicate ops.size false) a w.drew):(Code.region id ops true).wp P Q a w:=
 wp_region_any b (Cr _ _ _ _ h)
end
theorem sA {α:Type}{l:List α}{i:Nat}{a:α}:l.toArray.setIfInBounds i a=(l.set i a).toArray:=List.setIfInBounds_toArray ..
theorem sB {α:Type}{x a:α}{xs:List α}:(x :: xs).set 0 a=a :: xs:=List.set_cons_zero
theorem sC {α:Type}{x a:α}{xs:List α}{n:Nat}:(x :: xs).set (n+1) a=x :: xs.set n a:=List.set_cons_succ
def At (l:List Oper) (i:Nat) (o:Oper):Prop:=l[i]?=some o
theorem At.z {l:List Oper}{o:Oper}:At (o :: l) 0 o:=rfl
theorem At.s {l:List Oper}{i:Nat}{o p:Oper}(h:At l i o):At (p :: l) (i+1) o:=h
section
variable {P : Program}{Q : Exit->Act->World->Prop}{S : World->Prop}{l : List Oper}
theorem At.f {l:List Oper} {i:Nat} {o a b c d e:Oper} (h:At l i o):At (a::b::c::d::e::l) (i+5) o:=h
theorem At.arr {i:Nat}{o:Oper}(h:At l i o):l.toArray[i]?=some o:=by unfold At at h; simpa using h
theorem nW {m i:Nat}{e:Oper}{v:Value}{d:Nat}{b:Array Bool}{a:Act}{w:World}(hi:At l i e) (p:Region.noSelect l.toArray=true) (j:Region.free .any l.toArray b i=true) (o:(Region.ready .any l.toArray b).contains i=true) (n:(vU .any l.toArray m i&&i != m)=true)
  (f:∀c a w,Q (.panic c) (a.put e.dst v) w->Q (.panic c) a w) (k:e.guard=none) (q:∀w,S w->(execOp a.eval e).run P w=.ok (.value v) w) (g:S w)
  (h:fJ P .any l.toArray Q S m d (b.setIfInBounds i true) (a.put e.dst v) w):fJ P .any l.toArray Q S m (d+1) b a w:=
 Aa hi.arr p j o n f (.inl ⟨by unfold Region.wanted; rw[k],q⟩) g h
def fH (l:List Oper) (listed:Array Bool) (m i:Nat):Bool:=Region.noSelect l.toArray&&(Region.free .any l.toArray listed i&&((Region.ready .any l.toArray listed).contains i&&(vU .any l.toArray m i&&i != m)))
theorem fH.all {l:List Oper}{a:Array Bool}{m i:Nat}(h:fH l a m i=true):Region.noSelect l.toArray=true∧Region.free .any l.toArray a i=true∧(Region.ready .any l.toArray a).contains i=true∧(vU .any l.toArray m i&&i != m)=true:=by
 unfold fH at h;rw[Bool.and_eq_true,Bool.and_eq_true,Bool.and_eq_true] at h;exact h
theorem bM {m i:Nat}{e:Oper}{v:Value}{d:Nat}{b:Array Bool}{a:Act}{w:World}(hi:At l i e) (f:fH l b m i=true)
  (g:∀c a w,Q (.panic c) (a.put e.dst v) w->Q (.panic c) a w) (k:e.guard=none) (n:∀w,S w->(execOp a.eval e).run P w=.ok (.value v) w) (j:S w)
  (h:fJ P .any l.toArray Q S m d (b.setIfInBounds i true) (a.put e.dst v) w):fJ P .any l.toArray Q S m (d+1) b a w:=
 nW hi (fH.all f).1 (fH.all f).2.1 (fH.all f).2.2.1 (fH.all f).2.2.2 g k n j h
theorem dX {m i:Nat}{o:Oper}{c:Nat}{b:Array Bool}{a:Act}{w:World}(hi:At l i o) (g:Region.ready .any l.toArray b=[i])
  (h:∀K':Act->World->Prop,Shut (∀a w,S w->fJ P .any l.toArray Q S m c (b.setIfInBounds i true) a w->K' a w)->if Region.wanted o (yielded l.toArray a.tmps)=true then Oper.wp P o a w K' Q else K' (a.put o.dst undef) w):fJ P .any l.toArray Q S m (c+1) b a w:=
 Cs g (wpOp_step hi.arr fun K' d=>h K' fun a w e f=>d a w ⟨fun _=>e,f⟩)
theorem iQ {m:Nat}{o:Oper}{c:Nat}{b:Array Bool}{a:Act}{w:World}(hi:At l m o) (g:Region.ready .any l.toArray b=[m]) (d:Region.ready .any l.toArray (b.setIfInBounds m true)=[])
  (h:∀K':Act->World->Prop,Shut (∀a w,Q .normal a w->K' a w)->if Region.wanted o (yielded l.toArray a.tmps)=true then Oper.wp P o a w K' Q else K' (a.put o.dst undef) w):fJ P .any l.toArray Q S m (c+1) b a w:=
 Cs g (wpOp_step hi.arr fun K' e=>h K' fun a w f=>e a w ⟨fun z=>absurd rfl z,xX d f⟩)
theorem mV {id:Nat}(m:Nat) {a:Act}{w:World}(c:P.follows .mixedOrders=true) (b:S w.drew) (h:S w.drew->fJ P .any l.toArray Q S m l.toArray.size (Array.replicate l.toArray.size false) a w.drew):(Code.region id l.toArray true).wp P Q a w:=
 Cd c (h b)
end
theorem Bc {P:Program}{Q:Exit->Act->World->Prop}{S:World->Prop}{l:List Oper}{m i j:Nat}{e f:Oper}{c:Nat}{b:Array Bool}{a:Act}{w:World}(hi:At l i e) (s:At l j f) (o:Region.ready .any l.toArray b=[i,j])
  (q:∀K':Act->World->Prop,Shut (∀a w,S w->fJ P .any l.toArray Q S m c (b.setIfInBounds i true) a w->K' a w)->if Region.wanted e (yielded l.toArray a.tmps)=true then Oper.wp P e a w K' Q else K' (a.put e.dst undef) w)
  (r:∀K':Act->World->Prop,Shut (∀a w,S w->fJ P .any l.toArray Q S m c (b.setIfInBounds j true) a w->K' a w)->if Region.wanted f (yielded l.toArray a.tmps)=true then Oper.wp P f a w K' Q else K' (a.put f.dst undef) w):fJ P .any l.toArray Q S m (c+1) b a w:=
 ⟨fun p=>(by rw[p] at o; cases o),fun n d=>(by
  rw[o] at d
  rcases List.mem_cons.1 d with rfl | d
  ·exact wpOp_step hi.arr fun K' g=>q K' fun a w h k=>g a w ⟨fun _=>h,k⟩
  ·obtain rfl:=List.mem_singleton.1 d
   exact wpOp_step s.arr fun K' g=>r K' fun a w h k=>g a w ⟨fun _=>h,k⟩)⟩
end
section
open Classical Go.Deep Go.RowKit
theorem pF {w W:World}{a N i b g:Nat}{f:Nat->Value}{x:aM}{v:Value}(m:w.rowIs a 44 N f) (l:Below w.heap.size w W) (n:aV W v x.aL g) (j:w.heap.size<=g) :
  aX w (((((W.setCell ⟨a,i*5,none⟩ (.int .i64 x.state)).setCell ⟨a,i*5+1,none⟩ (.int .i64 x.gone)).setCell ⟨a,i*5+2,none⟩ v).setCell ⟨a,i*5+3,none⟩ (.bool x.aR)).setCell ⟨a,i*5+4,none⟩ (.int .i64 x.aN)) a N i f b x:=by
 have p:=m.lt;have k:=dP m l;have e:∀o:Nat,¬((fun c=>c≠a∧c≠b) (⟨a,o,none⟩:Addr).block):=fun o z=>z.1 rfl;have d:∀o:Nat,¬((fun c=>c≠a) (⟨a,o,none⟩:Addr).block):=fun o z=>z rfl;have h:=n.but (((((But.refl (fun c=>c≠a) W).setCell (d (i*5)) (.int .i64 x.state)).setCell (d (i*5+1)) (.int .i64 x.gone)).setCell (d (i*5+2)) v).setCell (d (i*5+3)) (.bool x.aR) |>.setCell (d (i*5+4)) (.int .i64 x.aN)) (by omega);refine⟨((((((But.aG l).setCell (e _) _).setCell (e _) _).setCell (e _) _).setCell (e _) _).setCell (e _) _),_,g,((((k.set (i*5) (.int .i64 x.state)).set (i*5+1) (.int .i64 x.gone)).set (i*5+2) v).set (i*5+3) (.bool x.aR)).set (i*5+4) (.int .i64 x.aN),⟨?_,?_,?_,?_,?_⟩,fun q _ r=>?_,.inr j⟩
 ·simp
 ·simp
 ·simpa using h
 ·simp
 ·simp
 ·rw[if_neg (by omega),if_neg (by omega),if_neg (by omega),if_neg (by omega),if_neg (by omega)]
def Stand (aB:List aT) (d:aF):Prop:=∀(i:Nat) x h,aB[i]?=some x->d.aB[i]?=some h->∃s,iG h=some s∧iF x.aA.length s∧bO x.aA.length s=h
set_option maxRecDepth 100000 in
set_option maxHeartbeats 8000000 in
theorem Hm (P Q:Nat->Prop) (n hd ok p1 p2 p3 v1 v2 v3:Value) (d:aF) (aB:List aT) (Z bp J:Nat) (bb:Nat->Nat) (w:World)
  (hp:eY Q w p2 aB) (hQ:∀c,Q c->c<w.heap.size∧¬P c) (hf:aP P w v1 v2 v3 d Z bp J bb) (a1:Fits aB d) (bE:Stand aB d) (bR:∀c,P c->c<w.heap.size) :
  Calls Tryz.prog 116 #[.agg #[n,p1,p2,p3,hd],.agg #[ok,v1,v2,v3]] w fun e w'=>e=.returned (.tuple #[])∧∃bb',aP (fun c=>P c∨New w w' c) w' v1 v2 v3 (kN aB d) Z bp J bb'∧But (fun c=>¬P c) w w':=by
 obtain⟨bD,cP,cN,cO,a1⟩:=a1;have bJ:=aD a1;have aZ:=aD bD;clear bD;have bQ:=aD bE;obtain⟨a2,k2,rfl,-⟩:=id hp;have HP:=aD hp;have HQ:=aD hQ;obtain⟨g1,N1,q1,rfl,-⟩:=id hf.aH;obtain⟨a4,q2,rfl,-⟩:=id hf.aC;obtain⟨a3,q3,rfl,-⟩:=id hf.aB;have T0:=eB w 27 40 #[n,p1,.slice a2 aB.length k2,p3,hd] #[ok,.slice (some ⟨Z,0,none⟩) d.aH.length q1,.slice a4 d.aC.length q2,.slice a3 d.aB.length q3]
 have b5:iS P ((w.alloc (.cells #[n,p1,.slice a2 aB.length k2,p3,hd] 27)).alloc (.cells #[ok,.slice (some ⟨Z,0,none⟩) d.aH.length q1,.slice a4 d.aC.length q2,.slice a3 d.aB.length q3] 40)) (.slice (some ⟨Z,0,none⟩) d.aH.length q1) (.slice a4 d.aC.length q2) (.slice a3 d.aB.length q3) d aB Z bp J 0 ((w.alloc (.cells #[n,p1,.slice a2 aB.length k2,p3,hd] 27)).alloc (.cells #[ok,.slice (some ⟨Z,0,none⟩) d.aH.length q1,.slice a4 d.aC.length q2,.slice a3 d.aB.length q3] 40)):=
  ⟨d.aB,bb,rfl,fun j _ _ hj=>by omega,fun _ _=>rfl,hf.but (K:=fun _=>True) (But.aG T0.below) (fun _ _=>trivial) fun _ z=>.inl z,But.refl _ _⟩
 have bN:=aD b5;have HF:=aD hf;have cA:=aD bR;clear a1 hp hQ b5 hf bE bR;go_enter Tryz.func116,Tryz.ntmps116;go_wp2;obtain⟨W0,bF⟩:∃W0,W0=(w.alloc (.cells #[n,p1,.slice a2 aB.length k2,p3,hd] 27)).alloc (.cells #[ok,.slice (some ⟨Z,0,none⟩) d.aH.length q1,.slice a4 d.aC.length q2,.slice a3 d.aB.length q3] 40):=⟨_,rfl⟩
 have hz:W0.heap.size=w.heap.size+2:=by rw[bF]; simp
 have HZ:=aD hz;rw[← bF] at bN T0 ⊢;have a5:=aD T0;have b6:Hid (∀c,w.heap.size<=c->¬P c):=fun c hc z=>absurd (cA.out _ z) (by omega);clear bF hz T0
 go_loopw [9] (fun z wr=>∃(i:Nat),i<=aB.length∧z=.int .i64 i∧iS P W0 (.slice (some ⟨Z,0,none⟩) d.aH.length q1) (.slice a4 d.aC.length q2) (.slice a3 d.aB.length q3) d aB Z bp J i wr) (fun z _=>aB.length-(intOf z).toNat)
 case atStart=>exact⟨0,by omega,rfl,bN.out⟩
 case round=>
  obtain⟨i,hi,rfl,b4⟩:=hrel;by_cases bH:i<aB.length
  ·obtain⟨x,hx⟩:=bG aB (aD rfl) bH;obtain⟨h,hh⟩:=bG d.aB (aD aZ.out) bH;obtain⟨cur,I,cM,c0,a0,b9,L⟩:=b4
   have cX:i<d.aB.length:=by have:=aZ.out; omega
   have cQ:(i:Int)<(d.aB.length:Int):=by omega
   have cR:(i:Int)<(aB.length:Int):=by omega
   obtain⟨bV,M,c5,cV,cW,bZ,c2⟩:=bJ.out i x h hx hh;obtain⟨s,c6,c3,c4⟩:=bQ.out i x h hx hh;have bB:cur[i]?=some h:=(a0 i (Nat.le_refl _)).trans hh
   obtain⟨f,N,cF,hr,hN,b8⟩:∃f N,a3=some ⟨J,0,none⟩∧wr.rowIs J 44 N f∧cur.length*5<=N∧∀(j:Nat) y,cur[j]?=some y->cB wr f j y (I j):=by
    obtain⟨a,cD,hv,h0 | ⟨ha,f,N,hr,hN,b8⟩⟩:=b9.aB
    ·have cS:cur.length=0:=h0;omega
    ·injection hv with ea _ _;exact⟨f,N,ea.trans ha,hr,hN,b8⟩
   subst cF;have ho:=b8 i h bB
   have cL:i*5+5<=N:=by omega
   have c1:Same Q w wr:=fun c hc o=>by
    have h1:=HQ.out c hc;exact (World.cell?_of_block (w:=W0) (L.block c (by have:=HZ.out; omega) h1.2)).trans (a5.out.below.cell (p:=⟨c,o,none⟩) h1.1)
   obtain⟨v0,v1,v2,v3,v4,bq,oq,O,cE,r0,r1,r2,r3,r4⟩:∃v0 v1 v2 v3 v4 bq oq,cC Q wr v0 v1 v2 v3 v4 x∧a2=some ⟨bq,oq,none⟩∧wr.cell? ⟨bq,oq+i*5,none⟩=some v0∧wr.cell? ⟨bq,oq+i*5+1,none⟩=some v1∧wr.cell? ⟨bq,oq+i*5+2,none⟩=some v2∧wr.cell? ⟨bq,oq+i*5+3,none⟩=some v3∧wr.cell? ⟨bq,oq+i*5+4,none⟩=some v4:=by
    obtain⟨a,cD,hv,h0 | ⟨bq,oq,ha,cU,cJ⟩⟩:=HP.out.keep c1 fun _ z=>z
    ·omega
    ·cases hv
     obtain⟨v0,v1,v2,v3,v4,hw,hc⟩:=cJ i bH x hx;exact⟨v0,v1,v2,v3,v4,bq,oq,hw,ha,hc⟩
   subst cE;obtain⟨a6,aI,rfl⟩:=O.1.size;obtain⟨a7,aK,rfl⟩:=O.2.1.size;obtain⟨a8,aM,rfl⟩:=O.2.2.1.size;obtain⟨a9,aO,rfl⟩:=O.2.2.2.1.size;obtain⟨aE,aS,rfl⟩:=O.2.2.2.2.size;obtain⟨b0,t0,t1,t2,t3,t4,-,-⟩:=ho.cells hr cL;have z0:=hr.frozen (i*5)
   have Y:∀W',aX wr W' J N i f (I i) (eC d.aH d.aC x h)->iS P W0 (.slice (some ⟨Z,0,none⟩) d.aH.length q1) (.slice a4 d.aC.length q2) (.slice (some ⟨J,0,none⟩) d.aB.length q3) d aB Z bp J (i+1) W':=
    fun W' hs=>iS.next cM c0 a0 b9 L (by omega) hx hh hr hs
   have aY:=aD Y;have bX:=(b9.bound (Q:=In wr) fun _ _ z=>z).read
   have c8:cC (In wr) wr (.slice a6 x.aA.length aI) (.slice a7 x.aQ.length aK) (.slice a8 x.aJ.length aM) (.slice a9 x.over.length aO) (.slice aE x.aW.length aS) x:=O.keep (hU _ _) fun c hc=>by have:=(HQ.out c hc).1; have:=L.size; have:=HZ.out; show c<wr.heap.size; omega
   have bW:=ho.2.2.1;have BW:=bC wr (.cells #[.slice a6 x.aA.length aI,.slice a7 x.aQ.length aK,.slice a8 x.aJ.length aM,.slice a9 x.over.length aO,.slice aE x.aW.length aS] 51);have TW:=cZ wr 51 #[.slice a6 x.aA.length aI,.slice a7 x.aQ.length aK,.slice a8 x.aJ.length aM,.slice a9 x.over.length aO,.slice aE x.aW.length aS]
   go_wp2_with fail
   obtain⟨WA,bT⟩:∃WA,WA=wr.alloc (.cells #[.slice a6 x.aA.length aI,.slice a7 x.aQ.length aK,.slice a8 x.aJ.length aM,.slice a9 x.over.length aO,.slice aE x.aW.length aS] 51):=⟨_,rfl⟩;rw[← bT] at BW TW ⊢
   have bY:∀W,Below WA.heap.size WA W->Below WA.heap.size WA W ∧
     (W.cell? ⟨w.heap.size+1,0,none⟩=some ok∧W.cell? ⟨w.heap.size+1,1,none⟩=some (.slice (some ⟨Z,0,none⟩) d.aH.length q1)∧W.cell? ⟨w.heap.size+1,2,none⟩=some (.slice a4 d.aC.length q2)∧W.cell? ⟨w.heap.size+1,3,none⟩=some (.slice (some ⟨J,0,none⟩) d.aB.length q3)) ∧
     (W.cell? ⟨wr.heap.size,0,none⟩=some (.slice a6 x.aA.length aI)∧W.cell? ⟨wr.heap.size,1,none⟩=some (.slice a7 x.aQ.length aK)∧W.cell? ⟨wr.heap.size,2,none⟩=some (.slice a8 x.aJ.length aM)∧W.cell? ⟨wr.heap.size,3,none⟩=some (.slice a9 x.over.length aO)∧W.cell? ⟨wr.heap.size,4,none⟩=some (.slice aE x.aW.length aS)) ∧
     (W.cell? ⟨J,i*5,none⟩=some (.int .i64 h.state)∧W.cell? ⟨J,i*5+1,none⟩=some (.int .i64 h.gone)∧W.cell? ⟨J,i*5+2,none⟩=some (.slice (some ⟨I i,0,none⟩) h.aL.length b0)∧W.cell? ⟨J,i*5+3,none⟩=some (.bool h.aR)∧W.cell? ⟨J,i*5+4,none⟩=some (.int .i64 h.aN)):=fun W hW=>by
    have U:Below wr.heap.size wr W:=BW.trans (hW.mono BW.size);have b2:=TW.call hW;refine⟨hW,⟨?_,?_,?_,?_⟩,⟨?_,?_,?_,?_,?_⟩,bP t0 U,bP t1 U,bP t2 U,bP t3 U,bP t4 U⟩
    ·exact bP (L.cell (a5.out.c 1 0 rfl rfl) (b6.out _ (by omega))) U
    ·exact bP (L.cell (a5.out.c 1 1 rfl rfl) (b6.out _ (by omega))) U
    ·exact bP (L.cell (a5.out.c 1 2 rfl rfl) (b6.out _ (by omega))) U
    ·exact bP (L.cell (a5.out.c 1 3 rfl rfl) (b6.out _ (by omega))) U
    ·exact b2.c 0 0 rfl rfl
    ·exact b2.c 0 1 rfl rfl
    ·exact b2.c 0 2 rfl rfl
    ·exact b2.c 0 3 rfl rfl
    ·exact b2.c 0 4 rfl rfl
   have KS:=aD bY;have E:=aD BW
   have b3:aV wr (.slice (some ⟨I i,0,none⟩) h.aL.length b0) h.aL (I i):=by
    have e:=(hr.cell (i:=i*5+2) (by omega)).symm.trans t2;rw[← Option.some.inj e];exact bW
   have KB:=aD fun (W:World) (hW:Below wr.heap.size wr W)=>(b3.read (P:=In wr) b3.lt).keep (Q:=In W) (In.keep hW).1 (In.keep hW).2;have KF:=aD fun (W:World) (hW:Below wr.heap.size wr W)=>bX.keep (Q:=In W) (In.keep hW).1 (In.keep hW).2;have KW:=aD fun (W:World) (hW:Below wr.heap.size wr W)=>c8.keep (Q:=In W) (In.keep hW).1 (In.keep hW).2;have HR:=aD hr;have b7:=aD (And.intro c6 (And.intro c3 c4));have bI:=aD bV;have X:=aD c5;have bK:=aD (And.intro bZ c2);have zf:∀W,Below wr.heap.size wr W->∀o,W.frozen? ⟨J,o,none⟩=false:=fun W hW o=>(dP hr hW).frozen o;have q:=aD zf;clear c0 a0 hx hh bB b8 Y O bX c8 bW b3 TW BW t0 t1 t2 t3 t4 z0 r0 r1 r2 r3 r4 b9 L c6 c3 c4 hr ho bY bT bZ c2 c1 zf bV c5
   refine mV (S:=fun W=>Below WA.heap.size WA W ∧
     (W.cell? ⟨w.heap.size+1,0,none⟩=some ok∧W.cell? ⟨w.heap.size+1,1,none⟩=some (.slice (some ⟨Z,0,none⟩) d.aH.length q1)∧W.cell? ⟨w.heap.size+1,2,none⟩=some (.slice a4 d.aC.length q2)∧W.cell? ⟨w.heap.size+1,3,none⟩=some (.slice (some ⟨J,0,none⟩) d.aB.length q3)) ∧
     (W.cell? ⟨wr.heap.size,0,none⟩=some (.slice a6 x.aA.length aI)∧W.cell? ⟨wr.heap.size,1,none⟩=some (.slice a7 x.aQ.length aK)∧W.cell? ⟨wr.heap.size,2,none⟩=some (.slice a8 x.aJ.length aM)∧W.cell? ⟨wr.heap.size,3,none⟩=some (.slice a9 x.over.length aO)∧W.cell? ⟨wr.heap.size,4,none⟩=some (.slice aE x.aW.length aS)) ∧
     (W.cell? ⟨J,i*5,none⟩=some (.int .i64 h.state)∧W.cell? ⟨J,i*5+1,none⟩=some (.int .i64 h.gone)∧W.cell? ⟨J,i*5+2,none⟩=some (.slice (some ⟨I i,0,none⟩) h.aL.length b0)∧W.cell? ⟨J,i*5+3,none⟩=some (.bool h.aR)∧W.cell? ⟨J,i*5+4,none⟩=some (.int .i64 h.aN))) 15 (by kernel_rfl) (KS.out _ (cT _)) (fun hS=>?_)
   refine bM (v:=?v0) At.z (by kernel_rfl) (fun _ _ _ h=>h) rfl ?h0 hS ?_
   case h0=>intro _ s;(try dsimp only at s);go_simp;try with_reducible rfl
   try simp only[Act.put,sA,sB,sC]
   refine bM (v:=?v1) At.z.s (by kernel_rfl) (fun _ _ _ h=>h) rfl ?h1 hS ?_
   case h1=>intro _ s;(try dsimp only at s);go_simp;try with_reducible rfl
   try simp only[Act.put,sA,sB,sC]
   refine bM (v:=?v2) At.z.s.s (by kernel_rfl) (fun _ _ _ h=>h) rfl ?h2 hS ?_
   case h2=>intro _ s;(try dsimp only at s);go_simp;try with_reducible rfl
   try simp only[Act.put,sA,sB,sC]
   refine bM (v:=?v3) At.z.s.s.s (by kernel_rfl) (fun _ _ _ h=>h) rfl ?h3 hS ?_
   case h3=>intro _ s;(try dsimp only at s);go_simp;try with_reducible rfl
   try simp only[Act.put,sA,sB,sC]
   refine bM (v:=?v4) At.z.s.s.s.s (by kernel_rfl) (fun _ _ _ h=>h) rfl ?h4 hS ?_
   case h4=>intro _ s;(try dsimp only at s);go_simp;try with_reducible rfl
   try simp only[Act.put,sA,sB,sC]
   refine bM (v:=?v5) At.z.f (by kernel_rfl) (fun _ _ _ h=>h) rfl ?h5 hS ?_
   case h5=>intro _ s;(try dsimp only at s);go_simp;try with_reducible rfl
   try simp only[Act.put,sA,sB,sC]
   refine bM (v:=?v6) At.z.f.s (by kernel_rfl) (fun _ _ _ h=>h) rfl ?h6 hS ?_
   case h6=>intro _ s;(try dsimp only at s);go_simp;try with_reducible rfl
   try simp only[Act.put,sA,sB,sC]
   refine bM (v:=?v7) At.z.f.s.s (by kernel_rfl) (fun _ _ _ h=>h) rfl ?h7 hS ?_
   case h7=>intro _ s;(try dsimp only at s);go_simp;try with_reducible rfl
   try simp only[Act.put,sA,sB,sC]
   refine bM (v:=?v8) At.z.f.s.s.s (by kernel_rfl) (fun _ _ _ h=>h) rfl ?h8 hS ?_
   case h8=>intro _ s;(try dsimp only at s);go_simp;try with_reducible rfl
   try simp only[Act.put,sA,sB,sC]
   refine bM (v:=?v9) At.z.f.s.s.s.s (by kernel_rfl) (fun _ _ _ h=>h) rfl ?h9 hS ?_
   case h9=>intro _ s;(try dsimp only at s);go_simp;try with_reducible rfl
   try simp only[Act.put,sA,sB,sC]
   refine bM (v:=?v12) At.z.f.f.s.s (by kernel_rfl) (fun _ _ _ h=>h) rfl ?h12 hS ?_
   case h12=>intro _ s;(try dsimp only at s);go_simp;try with_reducible rfl
   try simp only[Act.put,sA,sB,sC]
   have hD:=hS.1;have c7:=E.out.trans (hD.mono E.out.size);refine dX (i:=10) At.z.f.f (by kernel_rfl) (fun K D=>?_);go_simp;refine (yO h _ _ (KB.out _ c7) (by have:=bI.out; have:=X.out.1; omega) (by have:=bI.out; omega)).mono ?_;rintro e w1 ⟨rfl,bU⟩;rw[b7.out.1];have b1:=hD.trans (bU.mono hD.size);have bA:=E.out.trans (b1.mono E.out.size);have bS:=KS.out _ b1;refine D.out _ _ bS ?_;clear D K bU hS hD c7;simp only[vG]
   try simp only[Act.put,sA,sB,sC]
   refine dX (i:=11) At.z.f.f.s (by kernel_rfl) (fun K D=>?_);go_simp;refine (D6 _ _ _ _ _ _ _ _ _ s d.aH d.aC x _ (KF.out _ bA).1 (KF.out _ bA).2.1 (KW.out _ bA) X.out bK.out.1 bK.out.2 ⟨cO,cN⟩ M b7.out.2.1).mono ?_;rintro e w2 ⟨rfl,L⟩;obtain⟨s2,a0⟩:∃s2,s2=mU d.aH d.aC x s:=⟨_,rfl⟩
   have HE:Hid (bO x.aA.length s2=eC d.aH d.aC x h∧iF x.aA.length s2):=by
    rw[a0];have:=BZ (aH:=d.aH) (aC:=d.aC) b7.out.2.1 M X.out.1;rw[b7.out.2.2] at this;exact this
   rw[← a0];have C:=b1.trans (L.mono b1.size);have F:=E.out.trans (C.mono E.out.size);have aU:=KS.out _ C;refine D.out _ _ aU ?_;clear D K L bS b1 bA a0;generalize dO s=vs
   try simp only[Act.put,sA,sB,sC]
   cases s2 using bL.by with
   | idle=>
    simp only[dO];have m2:=Tryz.cH (.agg #[]);refine dX (i:=13) At.z.f.f.s.s.s (by kernel_rfl) (fun K D=>?_);go_simp;refine (uW _ _ _ _ _ x.aA _ (KW.out _ F).1 M X.out.1).mono ?_;rintro e w3 ⟨vb,R,rfl,r,H,G⟩;obtain⟨y,V⟩:∃y,y=bO x.aA.length (.idle):=⟨_,rfl⟩;have HY:=aD (V.trans HE.out.1);rw[← V] at r ⊢;have A:=C.trans (G.mono C.size);have k:=E.out.trans (A.mono E.out.size);have B:=KS.out _ A;have u:wr.heap.size<=R:=Nat.le_trans F.size H;obtain⟨fb,Nb,cb,rfl,-⟩:=id r;refine D.out _ _ B ?_;clear D K G aU C F V m2
    try simp only[Act.put,sA,sB,sC]
    refine nW (i:=14) (v:=?vv101) At.z.f.f.s.s.s.s (by kernel_rfl) (by kernel_rfl) (by kernel_rfl) (by kernel_rfl) (fun _ _ _ h=>h) rfl ?hy101 B ?rest101
    case hy101=>(intro w' T; (try dsimp only at T); go_simp; try with_reducible rfl)
    try simp only[Act.put,sA,sB,sC]
    obtain⟨-,-,-,t0,t1,t2,t3,t4⟩:=B;have z0:=q.out _ k (i*5);have z1:=q.out _ k (i*5+1);have z2:=q.out _ k (i*5+2);have z3:=q.out _ k (i*5+3);have z4:=q.out _ k (i*5+4);have HH:=aD (pF (i:=i) (b:=I i) HR.out k r u);clear r k H u A;refine iQ (m:=15) At.z.f.f.f (by kernel_rfl) (by kernel_rfl) (fun K D=>?_);go_simp;refine D.out _ _ ?_;clear D K t0 t1 t2 t3 t4 z0 z1 z2 z3 z4;go_wp2;go_roundw
    case rel=>exact⟨i+1,by omega,by go_num,aY.out _ (by rw[← HY.out]; exact HH.out)⟩
    case measure=>simp[intOf]; omega
   | set b=>
    simp only[dO];have m2:=Tryz.gV (.agg #[.bool b]);refine dX (i:=13) At.z.f.f.s.s.s (by kernel_rfl) (fun K D=>?_);go_simp;refine (BH b _ _ _ _ _ x.aA _ (KW.out _ F).1 M X.out.1).mono ?_;rintro e w3 ⟨vb,R,rfl,r,H,G⟩;obtain⟨y,V⟩:∃y,y=bO x.aA.length (.set b):=⟨_,rfl⟩;have HY:=aD (V.trans HE.out.1);rw[← V] at r ⊢;have A:=C.trans (G.mono C.size);have k:=E.out.trans (A.mono E.out.size);have B:=KS.out _ A;have u:wr.heap.size<=R:=Nat.le_trans F.size H;obtain⟨fb,Nb,cb,rfl,-⟩:=id r;refine D.out _ _ B ?_;clear D K G aU C F V m2
    try simp only[Act.put,sA,sB,sC]
    refine nW (i:=14) (v:=?vv102) At.z.f.f.s.s.s.s (by kernel_rfl) (by kernel_rfl) (by kernel_rfl) (by kernel_rfl) (fun _ _ _ h=>h) rfl ?hy102 B ?rest102
    case hy102=>(intro w' T; (try dsimp only at T); go_simp; try with_reducible rfl)
    try simp only[Act.put,sA,sB,sC]
    obtain⟨-,-,-,t0,t1,t2,t3,t4⟩:=B;have z0:=q.out _ k (i*5);have z1:=q.out _ k (i*5+1);have z2:=q.out _ k (i*5+2);have z3:=q.out _ k (i*5+3);have z4:=q.out _ k (i*5+4);have HH:=aD (pF (i:=i) (b:=I i) HR.out k r u);clear r k H u A;refine iQ (m:=15) At.z.f.f.f (by kernel_rfl) (by kernel_rfl) (fun K D=>?_);go_simp;refine D.out _ _ ?_;clear D K t0 t1 t2 t3 t4 z0 z1 z2 z3 z4;go_wp2;go_roundw
    case rel=>exact⟨i+1,by omega,by go_num,aY.out _ (by rw[← HY.out]; exact HH.out)⟩
    case measure=>simp[intOf]; omega
   | clear=>
    simp only[dO];have m2:=Tryz.fQ (.agg #[]);refine dX (i:=13) At.z.f.f.s.s.s (by kernel_rfl) (fun K D=>?_);go_simp;refine (Ci _ _ _ _ _ x.aA _ (KW.out _ F).1 M X.out.1).mono ?_;rintro e w3 ⟨vb,R,rfl,r,H,G⟩;obtain⟨y,V⟩:∃y,y=bO x.aA.length (.clear):=⟨_,rfl⟩;have HY:=aD (V.trans HE.out.1);rw[← V] at r ⊢;have A:=C.trans (G.mono C.size);have k:=E.out.trans (A.mono E.out.size);have B:=KS.out _ A;have u:wr.heap.size<=R:=Nat.le_trans F.size H;obtain⟨fb,Nb,cb,rfl,-⟩:=id r;refine D.out _ _ B ?_;clear D K G aU C F V m2
    try simp only[Act.put,sA,sB,sC]
    refine nW (i:=14) (v:=?vv103) At.z.f.f.s.s.s.s (by kernel_rfl) (by kernel_rfl) (by kernel_rfl) (by kernel_rfl) (fun _ _ _ h=>h) rfl ?hy103 B ?rest103
    case hy103=>(intro w' T; (try dsimp only at T); go_simp; try with_reducible rfl)
    try simp only[Act.put,sA,sB,sC]
    obtain⟨-,-,-,t0,t1,t2,t3,t4⟩:=B;have z0:=q.out _ k (i*5);have z1:=q.out _ k (i*5+1);have z2:=q.out _ k (i*5+2);have z3:=q.out _ k (i*5+3);have z4:=q.out _ k (i*5+4);have HH:=aD (pF (i:=i) (b:=I i) HR.out k r u);clear r k H u A;refine iQ (m:=15) At.z.f.f.f (by kernel_rfl) (by kernel_rfl) (fun K D=>?_);go_simp;refine D.out _ _ ?_;clear D K t0 t1 t2 t3 t4 z0 z1 z2 z3 z4;go_wp2;go_roundw
    case rel=>exact⟨i+1,by omega,by go_num,aY.out _ (by rw[← HY.out]; exact HH.out)⟩
    case measure=>simp[intOf]; omega
   | taking t=>
    simp only[dO];have m2:=Tryz.cG (.agg #[.int .i64 t]);refine dX (i:=13) At.z.f.f.s.s.s (by kernel_rfl) (fun K D=>?_);go_simp;refine (xG t _ _ _ _ _ x.aA _ (KW.out _ F).1 M X.out.1).mono ?_;rintro e w3 ⟨vb,R,rfl,r,H,G⟩;obtain⟨y,V⟩:∃y,y=bO x.aA.length (.taking t):=⟨_,rfl⟩;have HY:=aD (V.trans HE.out.1);rw[← V] at r ⊢;have A:=C.trans (G.mono C.size);have k:=E.out.trans (A.mono E.out.size);have B:=KS.out _ A;have u:wr.heap.size<=R:=Nat.le_trans F.size H;obtain⟨fb,Nb,cb,rfl,-⟩:=id r;refine D.out _ _ B ?_;clear D K G aU C F V m2
    try simp only[Act.put,sA,sB,sC]
    refine nW (i:=14) (v:=?vv104) At.z.f.f.s.s.s.s (by kernel_rfl) (by kernel_rfl) (by kernel_rfl) (by kernel_rfl) (fun _ _ _ h=>h) rfl ?hy104 B ?rest104
    case hy104=>(intro w' T; (try dsimp only at T); go_simp; try with_reducible rfl)
    try simp only[Act.put,sA,sB,sC]
    obtain⟨-,-,-,t0,t1,t2,t3,t4⟩:=B;have z0:=q.out _ k (i*5);have z1:=q.out _ k (i*5+1);have z2:=q.out _ k (i*5+2);have z3:=q.out _ k (i*5+3);have z4:=q.out _ k (i*5+4);have HH:=aD (pF (i:=i) (b:=I i) HR.out k r u);clear r k H u A;refine iQ (m:=15) At.z.f.f.f (by kernel_rfl) (by kernel_rfl) (fun K D=>?_);go_simp;refine D.out _ _ ?_;clear D K t0 t1 t2 t3 t4 z0 z1 z2 z3 z4;go_wp2;go_roundw
    case rel=>exact⟨i+1,by omega,by go_num,aY.out _ (by rw[← HY.out]; exact HH.out)⟩
    case measure=>simp[intOf]; omega
   | used g l b=>
    simp only[dO];have m2:=Tryz.gF (.agg (dI g l b));refine dX (i:=13) At.z.f.f.s.s.s (by kernel_rfl) (fun K D=>?_);go_simp;refine (DT g l b _ _ _ _ _ x.aA _ (KW.out _ F).1 M X.out.1 HE.out.2.1).mono ?_;rintro e w3 ⟨vb,R,rfl,r,H,G⟩;obtain⟨y,V⟩:∃y,y=bO x.aA.length (.used g l b):=⟨_,rfl⟩;have HY:=aD (V.trans HE.out.1);rw[← V] at r ⊢;have A:=C.trans (G.mono C.size);have k:=E.out.trans (A.mono E.out.size);have B:=KS.out _ A;have u:wr.heap.size<=R:=Nat.le_trans F.size H;obtain⟨fb,Nb,cb,rfl,-⟩:=id r;refine D.out _ _ B ?_;clear D K G aU C F V m2
    try simp only[Act.put,sA,sB,sC]
    refine nW (i:=14) (v:=?vv105) At.z.f.f.s.s.s.s (by kernel_rfl) (by kernel_rfl) (by kernel_rfl) (by kernel_rfl) (fun _ _ _ h=>h) rfl ?hy105 B ?rest105
    case hy105=>(intro w' T; (try dsimp only at T); go_simp; try with_reducible rfl)
    try simp only[Act.put,sA,sB,sC]
    obtain⟨-,-,-,t0,t1,t2,t3,t4⟩:=B;have z0:=q.out _ k (i*5);have z1:=q.out _ k (i*5+1);have z2:=q.out _ k (i*5+2);have z3:=q.out _ k (i*5+3);have z4:=q.out _ k (i*5+4);have HH:=aD (pF (i:=i) (b:=I i) HR.out k r u);clear r k H u A;refine iQ (m:=15) At.z.f.f.f (by kernel_rfl) (by kernel_rfl) (fun K D=>?_);go_simp;refine D.out _ _ ?_;clear D K t0 t1 t2 t3 t4 z0 z1 z2 z3 z4;go_wp2;go_roundw
    case rel=>exact⟨i+1,by omega,by go_num,aY.out _ (by rw[← HY.out]; exact HH.out)⟩
    case measure=>simp[intOf]; omega
  ·have Y:∃bb',aP (fun c=>P c∨New w wr c) wr (.slice (some ⟨Z,0,none⟩) d.aH.length q1) (.slice a4 d.aC.length q2) (.slice a3 d.aB.length q3) (kN aB d) Z bp J bb'∧But (fun c=>¬P c) w wr:=by
    obtain⟨bb',cK,cI⟩:=b4.end aZ.out (by omega);exact⟨bb',cK.bound fun c hc hl=>hc.imp id fun z=>⟨by have:=HZ.out; omega,hl⟩,(But.aG a5.out.below).trans cI⟩
   have c9:=aD Y;clear Y b4;go_wp2;exact bodyPost_end (v:=.tuple #[]) (by simp[results,Tryz.results116,go_sem]) rfl ⟨rfl,c9.out⟩
def iR (g:aM->aM) (P:Nat->Prop) (W0:World) (v1 v2 v3:Value) (d:aF) (bo bp bw:Nat) (i:Nat) (W:World):Prop:=
 ∃(cur:List aM) (bb:Nat->Nat),cur.length=d.aB.length∧(∀(j:Nat) h,j<i->d.aB[j]?=some h->cur[j]?=some (g h))∧(∀j:Nat,i<=j->cur[j]?=d.aB[j]?) ∧
  aP (fun c=>P c∨W0.heap.size<=c) W v1 v2 v3 { d with aB:=cur } bo bp bw bb∧But (fun c=>¬P c) W0 W
theorem iR.next {g:aM->aM}{P:Nat->Prop}{b:World}{v1 v2 v3:Value}{d:aF}{s t k:Nat}{i:Nat}{W W':World}{cur:List aM}{bb:Nat->Nat}{h:aM}{f:Nat->Value}{N:Nat}
  (D:cur.length=d.aB.length) (A:∀(j:Nat) h,j<i->d.aB[j]?=some h->cur[j]?=some (g h)) (B:∀j:Nat,i<=j->cur[j]?=d.aB[j]?)
  (m:aP (fun c=>P c∨b.heap.size<=c) W v1 v2 v3 { d with aB:=cur } s t k bb) (a:But (fun c=>¬P c) b W) (w:d.aB[i]?=some h)
  (E:W.rowIs k 44 N f) (F:aX W W' k N i f (bb i) (g h)):iR g P b v1 v2 v3 d s t k (i+1) W':=by
 have hi:=(List.getElem?_eq_some_iff.1 w).1
 obtain⟨l,n,e⟩:=m.step (Q:=fun c=>P c∨b.heap.size<=c) (i:=i) (by show i<cur.length; omega) (x:=g h) (w':=W')
  (fun H G p _ _=>F.from E p) (fun _ q=>q) (fun c q _=>.inr (Nat.le_trans a.size q))
 refine⟨cur.set i (g h),l,by rw[List.length_set]; exact D,fun j y C r=>?_,fun j C=>?_,n,?_⟩
 ·by_cases u:j=i
  ·subst u;rw[w] at r
   cases r
   rw[List.getElem?_set_self (by omega)]
  ·rw[List.getElem?_set_ne (Ne.symm u)];exact A j y (by omega) r
 ·rw[List.getElem?_set_ne (by omega)];exact B j (by omega)
 ·refine⟨e.os.trans a.os,e.tape.trans a.tape,e.output.trans a.output,Nat.le_trans a.size e.size,fun c v o=>?_⟩;refine (e.block c (Nat.lt_of_lt_of_le v a.size) ⟨fun q=>?_,fun q=>?_⟩).trans (a.block c v o)
  ·rcases m.pw (by show cur.length≠0; omega) with z | z
   ·exact o (q ▸ z)
   ·omega
  ·rcases m.pb i (by show i<cur.length; omega) with z | z
   ·exact o (q ▸ z)
   ·omega
theorem iR.stay {g:aM->aM}{P:Nat->Prop}{a:World}{v1 v2 v3:Value}{d:aF}{e f k:Nat}{i:Nat}{W W':World}{cur:List aM}{bb:Nat->Nat}{h:aM}
  (u:cur.length=d.aB.length) (p:∀(j:Nat) h,j<i->d.aB[j]?=some h->cur[j]?=some (g h)) (l:∀j:Nat,i<=j->cur[j]?=d.aB[j]?)
  (r:aP (fun c=>P c∨a.heap.size<=c) W v1 v2 v3 { d with aB:=cur } e f k bb) (q:But (fun c=>¬P c) a W) (n:d.aB[i]?=some h) (s:g h=h) (m:Below W.heap.size W W'):iR g P a v1 v2 v3 d e f k (i+1) W':=by
 refine⟨cur,bb,u,fun j y t b=>?_,fun j t=>l j (by omega),r.but (K:=fun _=>True) (But.aG m) (fun _ _=>trivial) fun _ z=>z,q.call m⟩;by_cases o:j=i
 ·subst o;rw[n] at b
  cases b
  rw[l j (Nat.le_refl _),n,s]
 ·exact p j y (by omega) b
theorem iR.end {g:aM->aM}{P:Nat->Prop}{a:World}{v1 v2 v3:Value}{d:aF}{b e f:Nat}{n:Nat}{W:World}(h:iR g P a v1 v2 v3 d b e f n W) (q:n=d.aB.length) :
  ∃bb,aP (fun c=>P c∨a.heap.size<=c) W v1 v2 v3 { d with aB:=d.aB.map g } b e f bb∧But (fun c=>¬P c) a W:=by
 obtain⟨cur,bb,p,l,-,i,m⟩:=h
 have:cur=d.aB.map g:=by
  apply List.ext_getElem?;intro j;rw[List.getElem?_map];by_cases o:j<d.aB.length
  ·obtain⟨x,k⟩:=zR d.aB o;rw[l j x (by omega) k,k]; rfl
  ·rw[List.getElem?_eq_none (by omega),List.getElem?_eq_none (by omega)]; rfl
 rw[this] at i;exact⟨bb,i,m⟩
def rB (t:Int):bL:=if t<=1 then .idle else .taking (t-1)
set_option maxHeartbeats 1000000 in
theorem Hq (t:Int) (w:World) (f:1<=t) (c:t<=1048576):Calls Tryz.prog 199 #[.agg #[.int .i64 t]] w fun e w'=>e=.returned (dO (rB t))∧Below w.heap.size w w':=by
 have b:=bC w (.cells #[.int .i64 t] 235);go_enter Tryz.func199,Tryz.ntmps199;by_cases h:t<=1
 ·have a:=aD (show rB t=.idle by unfold rB; rw[if_pos h]);go_wp2;go_ret;exact⟨by rw[a.out]; rfl,b⟩
 ·have a:=aD (show rB t=.taking (t-1) by unfold rB; rw[if_neg h]);have d:¬t<=1:=h;go_wp2;go_ret;exact⟨by rw[a.out]; rfl,b⟩
end
end Go.Proofs.YtdhinkgjiapigaaGreatDoor

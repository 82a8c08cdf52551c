import Derived.Test.YtdhinkgjiapigaaGreatDoorDrawE
namespace Go.Proofs.YtdhinkgjiapigaaGreatDoor
open Go
section
variable {P : Program}{md : Region.Mode}{ops : Array Oper}{Q : Exit->Act->World->Prop}{S : World->Prop}
theorem Jv {m i:Nat}{s:Oper}{v:Value}(hi:ops[i]?=some s) (p:∀(j:Nat) (o:Oper) cs b,ops[j]?=some o->o.op≠.select cs b) (M:∀c a w,Q (.panic c) (a.put s.dst v) w->Q (.panic c) a w)
  (T:ops.size<=m):∀(g:Nat) (f:Array Bool) (a:Act) (w:World),
   (∀j oj,ops[j]?=some oj->j≠i->f.getD j true=false->(∀e∈oj.after,Region.binds md e=true->e.on≠i)->s.apart ops oj=true) ->
   i∈Region.ready md ops f->YieldsIf P ops S s v a->S w ->
   fJ P md ops Q S m g (f.setIfInBounds i true) (a.put s.dst v) w->fJ P md ops Q S m (g+1) f a w:=by
 intro g
 induction g with
 | zero=>
  intro f a w _ r D u H;refine⟨fun h=>(by rw[h] at r; cases r),fun j C=>?_⟩;by_cases e:j=i
  ·subst e;exact D.wpOp hi u ⟨fun _=>u,H⟩
  ·have k:=ready_mono C e;rw[H.1] at k
   cases k
 | succ g ih=>
  intro f a w J r D u H;refine⟨fun h=>(by rw[h] at r; cases r),fun j C=>?_⟩;by_cases e:j=i
  ·subst e;exact D.wpOp hi u ⟨fun _=>u,H⟩
  obtain⟨n,oj,l,x⟩:=mem_ready.1 C
  have y:∀d∈oj.after,Region.binds md d=true->d.on≠i:=fun d O N q=>by
   have t:=x d O N;have I:=(mem_ready.1 r).1;rw[q] at t;rcases Nat.lt_or_ge i f.size with z | z
   ·simp[z] at I t;rw[I] at t
    cases t
   ·simp[Array.getElem?_eq_none z] at t
  have E:j≠m:=fun q=>by
   have:=(Array.getElem?_eq_some_iff.1 l).1;omega
  have L:=wpOp_putIf l (J j oj l e n y) (fun cs b=>p i s cs b hi) (fun cs b=>p j oj cs b l) M D (H.2 j (ready_mono C e));refine wpOp_mono (fun K w' B=>⟨B.2.1,ih (f.setIfInBounds j true) K w' (fun k ok R F A G=>?_) (ready_mono r (Ne.symm e)) B.1 (B.2.1 E) ?_⟩) L
  ·refine J k ok R F ?_ G;by_cases q:j=k
   ·subst q; exact n
   ·rw[getD_set_ne true q] at A; exact A
  ·rw[Array.setIfInBounds_comm _ _ e];exact B.2.2
end
section
variable {P : Program}{Q : Exit->Act->World->Prop}{S : World->Prop}{l : List Oper}
def jL (l:List Oper) (listed:Array Bool) (m i:Nat):Bool:=Region.noSelect l.toArray&&(Region.free .any l.toArray listed i&&((Region.ready .any l.toArray listed).contains i&&decide (l.toArray.size<=m)))
theorem jL.all {a:Array Bool}{m i:Nat}(h:jL l a m i=true):Region.noSelect l.toArray=true∧Region.free .any l.toArray a i=true∧(Region.ready .any l.toArray a).contains i=true∧l.toArray.size<=m:=by
 unfold jL at h;rw[Bool.and_eq_true,Bool.and_eq_true,Bool.and_eq_true,decide_eq_true_iff] at h;exact h
theorem AV {m i:Nat}{f:Oper}{v:Value}{d:Nat}{b:Array Bool}{a:Act}{w:World}(hi:At l i f) (e:jL l b m i=true) (g:∀c a w,Q (.panic c) (a.put f.dst v) w->Q (.panic c) a w) (k:YieldsIf P l.toArray S f v a) (j:S w)
  (h:fJ P .any l.toArray Q S m d (b.setIfInBounds i true) (a.put f.dst v) w):fJ P .any l.toArray Q S m (d+1) b a w:=
 Jv hi.arr (Region.noSelect_spec (jL.all e).1) g (jL.all e).2.2.2 d b a w (Region.free_spec hi.arr (jL.all e).2.1) (by simpa using (jL.all e).2.2.1) k j h
theorem rI {m i:Nat}{e:Oper}{v:Value}{d:Nat}{b:Array Bool}{a:Act}{w:World}(hi:At l i e) (j:jL l b m i=true) (f:∀c a w,Q (.panic c) (a.put e.dst v) w->Q (.panic c) a w) (k:Region.wanted e (yielded l.toArray a.tmps)=true) (n:∀w,S w->(execOp a.eval e).run P w=.ok (.value v) w) (g:S w)
  (h:fJ P .any l.toArray Q S m d (b.setIfInBounds i true) (a.put e.dst v) w):fJ P .any l.toArray Q S m (d+1) b a w:=AV hi j f (.inl ⟨k,n⟩) g h
theorem zZ {id:Nat}(m n:Nat) {a:Act}{w:World}(c:P.follows .mixedOrders=true) (d:l.toArray.size=n) (b:S w.drew) (h:S w.drew->fJ P .any l.toArray Q S m n (Array.replicate n false) a w.drew):(Code.region id l.toArray true).wp P Q a w:=by
 subst d;exact Cd c (h b)
theorem rJ {m:Nat}{e:Oper}{v:Value}{d:Nat}{b:Array Bool}{a:Act}{w:World}(hi:l[m-(d+1)]?=some e) (i:jL l b m (m-(d+1))=true) (f:∀c a w,Q (.panic c) (a.put e.dst v) w->Q (.panic c) a w) (j:Region.wanted e (yielded l.toArray a.tmps)=true) (k:∀w,S w->(execOp a.eval e).run P w=.ok (.value v) w) (g:S w)
  (h:fJ P .any l.toArray Q S m d (b.setIfInBounds (m-(d+1)) true) (a.put e.dst v) w):fJ P .any l.toArray Q S m (d+1) b a w:=AV hi i f (.inl ⟨j,k⟩) g h
theorem Ez {m:Nat}{e:Oper}{d:Nat}{b:Array Bool}{a:Act}{w:World}(hi:l[m-(d+1)]?=some e) (i:jL l b m (m-(d+1))=true) (f:∀c a w,Q (.panic c) (a.put e.dst undef) w->Q (.panic c) a w) (j:Region.wanted e (yielded l.toArray a.tmps)=false) (g:S w)
  (h:fJ P .any l.toArray Q S m d (b.setIfInBounds (m-(d+1)) true) (a.put e.dst undef) w):fJ P .any l.toArray Q S m (d+1) b a w:=AV hi i f (.inr ⟨j,rfl⟩) g h
end
end Go.Proofs.YtdhinkgjiapigaaGreatDoor

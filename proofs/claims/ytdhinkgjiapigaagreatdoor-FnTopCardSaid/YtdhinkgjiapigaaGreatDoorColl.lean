import Derived.Test.YtdhinkgjiapigaaGreatDoorRanA
import Derived.Test.YtdhinkgjiapigaaGreatDoorCopyA
namespace Go.Proofs.YtdhinkgjiapigaaGreatDoor
open Go.RowKit Go.Shelf
attribute [local go_sem] Oper.semAt_some
def oL (l:List Nat):List Value:=l.map fun i:Nat=>.int .i64 (i:Int)
theorem IZ (l:List Nat) (x:Nat):oL (l++[x])=oL l++[.int .i64 (x:Int)]:=by simp[oL]
theorem nV {W:World}{b b':Nat}{e size:Nat}{v:Value}{n:Nat}{xs:List Value}(h:W.ownsRow b e size v n xs) (i:b'<=b):W.ownsRow b' e size v n xs:=by
 refine⟨h.1,?_⟩;rcases h.2 with q | ⟨g,a,cur,c,f,d⟩
 ·exact .inl q
 ·exact .inr ⟨g,a,cur,c,by omega,d⟩
set_option maxRecDepth 100000 in
set_option maxHeartbeats 4000000 in
theorem FF (q:Nat) (F:Array Value) (n0 c:Nat) (xs:List Nat) (w:World) (X:∀args w,(callFunc q args).run Tryz.prog w=.ok (.enter q args) w) (M:n0<=w.heap.size) (hN:xs.length<=1048576)
  (z:nX Tryz.prog q F (fun i:Nat=>#[.int .i64 (i:Int)]) n0 c xs w) :
  Calls Tryz.prog 148 #[.slice none 0 0,.func (.func q) #[] F] w fun e w'=>∃v,e=.returned v∧Below w.heap.size w w'∧w'.ownsRow w.heap.size 3 1 v xs.length (oL xs):=by
 obtain⟨i0,hi,N,O,P⟩:=info_parts Tryz.dA;have V:=aD z;clear z;refine (callsIn_wide (n:=0)).1 (callsIn_of_wp_marks Tryz.func148 rfl trivial ?_ rfl);simp only[Tryz.ntmps148,List.size_toArray,List.length_cons,List.length_nil,Nat.reduceAdd,Nat.reduceSub,Array.replicate_succ,Array.replicate_zero,List.push_toArray,List.append_toArray,List.nil_append,List.cons_append]
 gi_wp2
 obtain⟨m,h⟩:∃m,m=w.alloc (.cells #[.slice none 0 0] 23):=⟨_,rfl⟩;rw[← h]
 have hz:m.heap.size=w.heap.size+1:=by rw[h]; simp
 have y:Below w.heap.size w m:=by rw[h]; exact bC _ _
 have H:Boxed m w.heap.size 23 (.slice none 0 0):=by rw[h]; exact Boxed.new w _ _
 clear h
 refine Cg (w0:=w) (n0:=n0) (c:=c) rfl X V.out y (by omega) (fun _=>rfl)
  (fun b W=>(∃v,Boxed W w.heap.size 23 v∧W.ownsRow (m.heap.size+2+c) 3 1 v b.length (oL b)∧True)∧Below w.heap.size w W) (fun _ _=>False)
  (fun s A B row C S U=>⟨holdsRow_own _ w.heap.size 23 3 1 (fun b:List Nat=>b.length) oL (fun _ _=>True) s A B row C.1 S fun r e=>(U r e).2,C.2.grown S C.2.size fun r e=>by have:=(U r e).1; omega⟩)
  (fun _ _ _ _ C _ _=>C)
  ⟨⟨_,H,World.ownsRow_nil _ _ _ _,trivial⟩,y⟩
  (fun x=>{ tmps:=#[.slice none 0 0,.func (.func q) #[] F,.pointer (some ⟨w.heap.size,0,none⟩),undef,.slice none 0 0,.int .i64 (x:Int),.func (.func q) #[] F,.int .i64 (x:Int),undef,undef,undef,undef,undef],defers:=[] }) ?assign ?body ?done ?stop
 case assign=>
  intro lr x o K t
  gi_wp2
  exact t
 case body=>
  rintro lr b x o l a1 ⟨⟨v,E,f,-⟩,u⟩;have I:=E.cell
  have T:b.length+1<=xs.length:=by have:=l.length_le; simpa using this
  have G:=aD f;have Q:=aD E
  have J:b.length+1<=maxLen:=by unfold maxLen; omega
  have L:(b.length+1)*8<=140737488355328:=by omega
  clear f E
  gi_wp2_with (gi_at_builtin; refine wpListIn_append_own _ rfl _ _ 23 rfl (m.heap.size+2+c) 3 i0 (.int .i64 0) 1 8 Tryz.underlying23 hi N O P rfl (by decide) _ _ _ rfl (G.out.alloc _) ⟨o.heap.size,0,none⟩ 1 1 [.int .i64 (x:Int)] rfl rfl (cell_one_new _ _ _) (by simp[Value.oneCell']) J L (by simp; omega) ?_; intro v' w2 d a _; obtain⟨g',R,rfl⟩:=ownsRow_succ d; have j:=(Q.out.alloc _).kept a (Q.out.not_row (by decide) G.out); have Z:=j.cell; have a0:=j.frozen)
  have g:∀k,v.ownBlock=some k->m.heap.size+2+c<=k:=fun k hk=>(gJ G.out hk).1;refine⟨fun k h1 h2=>?_,?_,⟨_,j.set _,?_,trivial⟩,?_⟩
  ·refine (Below.heap_setCell _ _ _ k (by show k≠w.heap.size; omega)).trans ((a.block k (by simp; omega) fun e=>by have:=g k e.symm; omega).trans (Below.heap_alloc _ _ _ (by omega)))
  ·exact (((Below.refl n0 o).alloc (by omega) _).grown a (by simp; omega) fun k e=>by have:=g k e; omega).setCell (p:=⟨w.heap.size,0,none⟩) M _
  ·rw[IZ,List.length_append];exact d.kept (grownBy_setCell' w2 w.heap.size _) (.inr (j.not_row (by decide) d).symm)
  ·exact ((u.alloc u.size _).grown a (by simp; have:=u.size; omega) fun k e=>by have:=g k e; omega).setCell (p:=⟨w.heap.size,0,none⟩) (Nat.le_refl _) _
 case done=>
  rintro D o Y ⟨⟨v,E,f,-⟩,u⟩ t;have I:=E.cell
  gi_wp2
  refine⟨by simp,.inl ⟨_,_,rfl,run_takeDeferred t,?_⟩⟩;exact⟨_,results_tmp rfl _ _ _,v,rfl,u.trans (belowK_b (w:=w) (Nat.le_refl _) o D _ _ (by omega) t rfl rfl),nV (ownsRow_putObj f _ t rfl) (by omega)⟩
 case stop=>
  intro D b o Y l hf t;exact hf.elim
set_option maxHeartbeats 1000000 in
theorem A6 (b:Nat) (g:Array Value) (n0 c:Nat) (xs:List Nat) (w:World) (m:∀args w,(callFunc b args).run Tryz.prog w=.ok (.enter b args) w) (f:n0<=w.heap.size) (n:xs.length<=1048576)
  (d:nX Tryz.prog b g (fun i:Nat=>#[.int .i64 (i:Int)]) n0 c xs w) :
  Calls Tryz.prog 101 #[.func (.func b) #[] g] w fun e w'=>∃v,e=.returned v∧Below w.heap.size w w'∧w'.ownsRow w.heap.size 3 1 v xs.length (oL xs):=by
 have k:=aD (FF b g n0 c xs w m f n d);clear d;go_enter Tryz.func101,Tryz.ntmps101
 go_wp2_with fail
 refine k.out.mono ?_;rintro e o ⟨v,rfl,h,a⟩;have j:=aD h;have l:=aD a;clear h a;go_wp2;go_ret;exact⟨v,rfl,j.out,l.out⟩
end Go.Proofs.YtdhinkgjiapigaaGreatDoor

import Derived.Test.YtdhinkgjiapigabGreatDoorRanA
import Derived.Test.YtdhinkgjiapigabGreatDoorCopyA
import Derived.RangeFuncBox
import Derived.Maps.AppendAt
namespace Go.Proofs.YtdhinkgjiapigabGreatDoor
open Go.RowKit Go.Shelf
attribute [local go_sem] Oper.semAt_some
def zl6 (l:List Nat):List Value:=l.map fun i:Nat=>.int .i64 (i:Int)
theorem zos (l:List Nat) (x:Nat):zl6 (l ++ [x]) = zl6 l ++ [.int .i64 (x:Int)]:=by simp [zl6]
theorem zb5 {W:World} {b b':Nat} {e size:Nat} {v:Value} {n:Nat} {xs:List Value} (h:W.ownsRow b e size v n xs) (hb:b' ≤ b):W.ownsRow b' e size v n xs:=by
 refine ⟨h.1,?_⟩;rcases h.2 with q | ⟨g,cap,cur,h1,h2,h3⟩
 ·exact .inl q
 ·exact .inr ⟨g,cap,cur,h1,by omega,h3⟩
set_option maxRecDepth 100000 in
set_option maxHeartbeats 4000000 in
theorem zgi (gf:Nat) (lb:Array Value) (n0 c:Nat) (xs:List Nat) (w:World) (eg:∀ args w,(callFunc gf args).run Tryz.prog w = .ok (.enter gf args) w) (hn0:n0 ≤ w.heap.size) (hN:xs.length ≤ 1048576)
  (hin:ze4 Tryz.prog gf lb (fun i:Nat=>#[.int .i64 (i:Int)]) n0 c xs w) :
  Calls Tryz.prog 195 #[.slice none 0 0,.func (.func gf) #[] lb] w fun e w'=>∃ v,e = .returned v ∧ Below w.heap.size w w' ∧ w'.ownsRow w.heap.size 3 1 v xs.length (zl6 xs):=by
 obtain ⟨i0,hi,hz0,hz1,hz2⟩:=info_parts Tryz.infoInt;have HN:=zaa hin;clear hin;refine (callsIn_wide (n:=0)).1 (callsIn_of_wp_marks Tryz.func195 rfl trivial ?_ rfl);simp only [Tryz.ntmps195,List.size_toArray,List.length_cons,List.length_nil,Nat.reduceAdd,Nat.reduceSub,Array.replicate_succ,Array.replicate_zero,List.push_toArray,List.append_toArray,List.nil_append,List.cons_append]
 gi_wp2
 obtain ⟨w1,hw1⟩:∃ w1,w1 = w.alloc (.cells #[.slice none 0 0] 22):=⟨_,rfl⟩;rw [← hw1]
 have hz:w1.heap.size = w.heap.size + 1:=by rw [hw1]; simp
 have hb1:Below w.heap.size w w1:=by rw [hw1]; exact zab _ _
 have hbx:Boxed w1 w.heap.size 22 (.slice none 0 0):=by rw [hw1]; exact Boxed.new w _ _
 clear hw1
 refine zhe (w0:=w) (n0:=n0) (c:=c) rfl eg HN.out hb1 (by omega) (fun _=>rfl)
  (fun pre W=>(∃ v,Boxed W w.heap.size 22 v ∧ W.ownsRow (w1.heap.size + 2 + c) 3 1 v pre.length (zl6 pre) ∧ True) ∧ Below w.heap.size w W) (fun _ _=>False)
  (fun s A B row hs hg hr=>⟨holdsRow_own _ w.heap.size 22 3 1 (fun pre:List Nat=>pre.length) zl6 (fun _ _=>True) s A B row hs.1 hg fun r e=>(hr r e).2,hs.2.grown hg hs.2.size fun r e=>by have:=(hr r e).1; omega⟩)
  (fun _ _ _ _ hs _ _=>hs)
  ⟨⟨_,hbx,World.ownsRow_nil _ _ _ _,trivial⟩,hb1⟩
  (fun x=>{ tmps:=#[.slice none 0 0,.func (.func gf) #[] lb,.pointer (some ⟨w.heap.size,0,none⟩),undef,.slice none 0 0,.int .i64 (x:Int),.func (.func gf) #[] lb,.int .i64 (x:Int),undef,undef,undef,undef,undef],defers:=[] }) ?assign ?body ?done ?stop
 case assign=>
  intro lr x Wr K hK
  gi_wp2
  exact hK
 case body=>
  rintro lr pre x Wr hpre hsz ⟨⟨v,hv,hrow,-⟩,hB⟩;have hc0:=hv.cell
  have hlen:pre.length + 1 ≤ xs.length:=by have:=hpre.length_le; simpa using this
  have HR:=zaa hrow;have HV:=zaa hv
  have hm1:pre.length + 1 ≤ maxLen:=by unfold maxLen; omega
  have hm2:(pre.length + 1) * 8 ≤ 140737488355328:=by omega
  clear hrow hv
  gi_wp2_with (gi_at_builtin; refine wpListIn_append_own _ rfl _ _ 22 rfl (w1.heap.size + 2 + c) 3 i0 (.int .i64 0) 1 8 Tryz.underlying22 hi hz0 hz1 hz2 rfl (by decide) _ _ _ rfl (HR.out.alloc _) ⟨Wr.heap.size,0,none⟩ 1 1 [.int .i64 (x:Int)] rfl rfl (cell_one_new _ _ _) (by simp [Value.oneCell']) hm1 hm2 (by simp; omega) ?_; intro v' w2 hown' hgrow _; obtain ⟨g',cap',rfl⟩:=ownsRow_succ hown'; have hv1:=(HV.out.alloc _).kept hgrow (HV.out.not_row (by decide) HR.out); have hc1:=hv1.cell; have hf1:=hv1.frozen)
  have hblk:∀ k,v.ownBlock = some k → w1.heap.size + 2 + c ≤ k:=fun k hk=>(zat HR.out hk).1;refine ⟨fun k h1 h2=>?_,?_,⟨_,hv1.set _,?_,trivial⟩,?_⟩
  ·refine (Below.heap_setCell _ _ _ k (by show k ≠ w.heap.size; omega)).trans ((hgrow.block k (by simp; omega) fun e=>by have:=hblk k e.symm; omega).trans (Below.heap_alloc _ _ _ (by omega)))
  ·exact (((Below.refl n0 Wr).alloc (by omega) _).grown hgrow (by simp; omega) fun k e=>by have:=hblk k e; omega).setCell (p:=⟨w.heap.size,0,none⟩) hn0 _
  ·rw [zos,List.length_append];exact hown'.kept (grownBy_setCell' w2 w.heap.size _) (.inr (hv1.not_row (by decide) hown').symm)
  ·exact ((hB.alloc hB.size _).grown hgrow (by simp; have:=hB.size; omega) fun k e=>by have:=hblk k e; omega).setCell (p:=⟨w.heap.size,0,none⟩) (Nat.le_refl _) _
 case done=>
  rintro D Wr hD ⟨⟨v,hv,hrow,-⟩,hB⟩ hK;have hc0:=hv.cell
  gi_wp2
  refine ⟨by simp,.inl ⟨_,_,rfl,run_takeDeferred hK,?_⟩⟩;exact ⟨_,results_tmp rfl _ _ _,v,rfl,hB.trans (belowK_b (w:=w) (Nat.le_refl _) Wr D _ _ (by omega) hK rfl rfl),zb5 (ownsRow_putObj hrow _ hK rfl) (by omega)⟩
 case stop=>
  intro D pre Wr hD hpre hf hK;exact hf.elim
set_option maxHeartbeats 1000000 in
theorem zdf (gf:Nat) (lb:Array Value) (n0 c:Nat) (xs:List Nat) (w:World) (eg:∀ args w,(callFunc gf args).run Tryz.prog w = .ok (.enter gf args) w) (hn0:n0 ≤ w.heap.size) (hN:xs.length ≤ 1048576)
  (hin:ze4 Tryz.prog gf lb (fun i:Nat=>#[.int .i64 (i:Int)]) n0 c xs w) :
  Calls Tryz.prog 155 #[.func (.func gf) #[] lb] w fun e w'=>∃ v,e = .returned v ∧ Below w.heap.size w w' ∧ w'.ownsRow w.heap.size 3 1 v xs.length (zl6 xs):=by
 have HC:=zaa (zgi gf lb n0 c xs w eg hn0 hN hin);clear hin;go_enter Tryz.func155,Tryz.ntmps155
 go_wp2_with fail
 refine HC.out.mono ?_;rintro e w1 ⟨v,rfl,hb,hrow⟩;have HB:=zaa hb;have HR:=zaa hrow;clear hb hrow;go_wp2;go_ret;exact ⟨v,rfl,HB.out,HR.out⟩
end Go.Proofs.YtdhinkgjiapigabGreatDoor

import Derived.Test.YtdhinkgjiapigabGreatDoorDoS3
import Derived.Test.YtdhinkgjiapigabGreatDoorToA
import Derived.OrdersHeld
import Derived.Deep.RegionHeld3
import Derived.Test.YtdhinkgjiapigabGreatDoorFrIC
namespace Go.Proofs.YtdhinkgjiapigabGreatDoor
open Go.RowKit Go.Deep
open Classical
def EvR (P:Nat → Prop) (w:World) (v1 v2 v3:Value) (bo bp bw:Nat) (r:Int × FrameD) (e:Ending) (w':World):Prop:=
 e = .returned (.int .i64 r.1) ∧ ∃ bb',OFrame (fun c=>P c ∨ New w w' c) w' v1 v2 v3 r.2 bo bp bw bb' ∧ But (fun c=>¬ P c) w w'
theorem EvR.of {P:Nat → Prop} {w w':World} {v1 v2 v3:Value} {bo bp bw:Nat} {c:Int} {D:FrameD} {r:Int × FrameD} {bb':Nat → Nat} (hr:r = (c,D)) (hf:OFrame P w' v1 v2 v3 D bo bp bw bb') (hb:But (fun c=>¬ P c) w w'):EvR P w v1 v2 v3 bo bp bw r (.returned (.int .i64 c)) w':=by
 subst hr;exact ⟨rfl,bb',hf.but (K:=fun _=>True) (But.refl _ _) (fun _ _=>trivial) fun _ z=>.inl z,hb⟩
set_option maxHeartbeats 1000000 in
theorem zms (P:Nat → Prop) (n p1 p2 p3 hd ok v1 v2 v3:Value) (p:PlanD) (d:FrameD) (k:Nat) (bo bp bw:Nat) (bb:Nat → Nat) (w:World) (hf:OFrame P w v1 v2 v3 d bo bp bw bb) (hk:k < d.occ.length) (_hl:d.occ.length ≤ 1048576) :
  Calls Tryz.prog 189 #[.agg #[n,p1,p2,p3,hd],.agg #[ok,v1,v2,v3],.agg #[.int .i64 3,.int .i64 (k:Int),.int .i64 0]] w fun e w'=>EvR P w v1 v2 v3 bo bp bw (evD p d 3 (k:Int) 0) e w':=by
 have T0:=zbs w 37 42 52 #[n,p1,p2,p3,hd] #[ok,v1,v2,v3] #[.int .i64 3,.int .i64 (k:Int),.int .i64 0];have hf1:=hf.but (K:=fun _=>True) (Q:=P) (But.of_calls T0.below) (fun _ _=>trivial) fun _ z=>z;obtain ⟨o,ho⟩:=zac d.occ (zaa rfl) hk;obtain ⟨cq,rfl,g0,z0⟩:=hf1.occ.cells ho;obtain ⟨hfx,hbx⟩:=hf1.putOcc hk true;have HX:=zaa hfx;have HB:=zaa ((But.of_calls (K:=fun c=>¬ P c) T0.below).trans hbx);have HE:=zaa (show evD p d 3 (k:Int) 0 = (0,{ d with occ:=d.occ.set k true }) by simp [evD])
 have hkd:(k:Int) < (d.occ.length:Int):=by omega
 clear hf hf1 hfx hbx ho T0;go_enter Tryz.func189,Tryz.ntmps189;go_wp2;go_ret;exact EvR.of HE.out HX.out HB.out
set_option maxHeartbeats 1000000 in
theorem zon (P:Nat → Prop) (n p1 p2 p3 hd ok v1 v2 v3:Value) (p:PlanD) (d:FrameD) (k:Nat) (bo bp bw:Nat) (bb:Nat → Nat) (w:World) (hf:OFrame P w v1 v2 v3 d bo bp bw bb) (hk:k < d.occ.length) (_hl:d.occ.length ≤ 1048576) :
  Calls Tryz.prog 190 #[.agg #[n,p1,p2,p3,hd],.agg #[ok,v1,v2,v3],.agg #[.int .i64 4,.int .i64 (k:Int),.int .i64 0]] w fun e w'=>EvR P w v1 v2 v3 bo bp bw (evD p d 4 (k:Int) 0) e w':=by
 have T0:=zbs w 37 42 52 #[n,p1,p2,p3,hd] #[ok,v1,v2,v3] #[.int .i64 4,.int .i64 (k:Int),.int .i64 0];have hf1:=hf.but (K:=fun _=>True) (Q:=P) (But.of_calls T0.below) (fun _ _=>trivial) fun _ z=>z;obtain ⟨o,ho⟩:=zac d.occ (zaa rfl) hk;obtain ⟨cq,rfl,g0,z0⟩:=hf1.occ.cells ho;obtain ⟨hfx,hbx⟩:=hf1.putOcc hk false;have HX:=zaa hfx;have HB:=zaa ((But.of_calls (K:=fun c=>¬ P c) T0.below).trans hbx);have HE:=zaa (show evD p d 4 (k:Int) 0 = (0,{ d with occ:=d.occ.set k false }) by simp [evD])
 have hkd:(k:Int) < (d.occ.length:Int):=by omega
 clear hf hf1 hfx hbx ho T0;go_enter Tryz.func190,Tryz.ntmps190;go_wp2;go_ret;exact EvR.of HE.out HX.out HB.out
set_option maxHeartbeats 1000000 in
theorem zom (P:Nat → Prop) (n p1 p2 p3 hd ok v1 v2 v3:Value) (p:PlanD) (d:FrameD) (k:Nat) (lie:Int) (bo bp bw:Nat) (bb:Nat → Nat) (w:World) (hf:OFrame P w v1 v2 v3 d bo bp bw bb) (hk:k < d.points.length) (_hl:d.points.length ≤ 1048576) :
  Calls Tryz.prog 191 #[.agg #[n,p1,p2,p3,hd],.agg #[ok,v1,v2,v3],.agg #[.int .i64 5,.int .i64 (k:Int),.int .i64 lie]] w fun e w'=>EvR P w v1 v2 v3 bo bp bw (evD p d 5 (k:Int) lie) e w':=by
 have T0:=zbs w 37 42 52 #[n,p1,p2,p3,hd] #[ok,v1,v2,v3] #[.int .i64 5,.int .i64 (k:Int),.int .i64 lie];have hf1:=hf.but (K:=fun _=>True) (Q:=P) (But.of_calls T0.below) (fun _ _=>trivial) fun _ z=>z;obtain ⟨pt,hpt⟩:=zac d.points (zaa rfl) hk;obtain ⟨cq,rfl,-,g1,-,z1⟩:=hf1.points.cells hpt
 have hput:zdg d.points k (fun pt=>(pt.1,lie)) = d.points.set k (if 1 = 0 then (lie,pt.2) else (pt.1,lie)):=by rw [zc7 _ hpt]; rfl
 obtain ⟨hfx,hbx⟩:=hf1.put hpt 1 (by omega) lie;rw [← hput] at hfx;have HX:=zaa hfx;have HB:=zaa ((But.of_calls (K:=fun c=>¬ P c) T0.below).trans hbx);have HE:=zaa (show evD p d 5 (k:Int) lie = (0,{ d with points:=zdg d.points k fun pt=>(pt.1,lie) }) by simp [evD])
 have hkd:(k:Int) < (d.points.length:Int):=by omega
 clear hf hf1 hfx hbx hpt T0 hput;go_enter Tryz.func191,Tryz.ntmps191;go_wp2;go_ret;exact EvR.of HE.out HX.out HB.out
end Go.Proofs.YtdhinkgjiapigabGreatDoor
namespace Go.Proofs.YtdhinkgjiapigabGreatDoor
open Go
section
variable {P : Program} {md : Region.Mode} {ops : Array Oper} {Q : Exit → Act → World → Prop} {S : World → Prop}
def zbq (P:Program) (md:Region.Mode) (ops:Array Oper) (Q:Exit → Act → World → Prop) (S:World → Prop) (m:Nat):Nat → Array Bool → Act → World → Prop
 | 0,listed,a,w=>Region.ready md ops listed = [] ∧ Q .normal a w
 | fuel + 1,listed,a,w=>
  (Region.ready md ops listed = [] → Q .normal a w) ∧
  ∀ i ∈ Region.ready md ops listed,wpOp P ops Q i (fun a' w'=>(i ≠ m → S w') ∧ zbq P md ops Q S m fuel (listed.setIfInBounds i true) a' w') a w
theorem ziu {m:Nat}:∀ (fuel:Nat) (listed:Array Bool) (a:Act) (w:World),zbq P md ops Q S m fuel listed a w → wpAny P md ops Q fuel listed a w
 | 0,_,_,_,h=>h
 | fuel + 1,_,_,_,h=>⟨h.1,fun i hi=>wpOp_mono (fun a' w' k=>ziu fuel _ a' w' k.2) (h.2 i hi)⟩
def zem (md:Region.Mode) (ops:Array Oper) (m i:Nat):Bool:=match ops[m]? with
 | some o=>o.after.any fun e=>Region.binds md e && e.on == i
 | none=>false
theorem zk0 {m i:Nat} {oi:Oper} {v:Value} (hi:ops[i]? = some oi) (hsel:∀ (j:Nat) (o:Oper) cs b,ops[j]? = some o → o.op ≠ .select cs b) (hQ:∀ c a w,Q (.panic c) (a.put oi.dst v) w → Q (.panic c) a w)
  (hm:zem md ops m i = true) (him:i ≠ m):∀ (fuel:Nat) (listed:Array Bool) (a:Act) (w:World),
   (∀ j oj,ops[j]? = some oj → j ≠ i → listed.getD j true = false → (∀ e ∈ oj.after,Region.binds md e = true → e.on ≠ i) → oi.apart ops oj = true) →
   i ∈ Region.ready md ops listed → YieldsIf P ops S oi v a → S w →
   zbq P md ops Q S m fuel (listed.setIfInBounds i true) (a.put oi.dst v) w → zbq P md ops Q S m (fuel + 1) listed a w:=by
 intro fuel
 induction fuel with
 | zero=>
  intro listed a w _ hr hy hS H;refine ⟨fun h=>(by rw [h] at hr; cases hr),fun j hj=>?_⟩;by_cases e:j = i
  ·subst e;exact hy.wpOp hi hS ⟨fun _=>hS,H⟩
  ·have k:=ready_mono hj e;rw [H.1] at k
   cases k
 | succ fuel ih=>
  intro listed a w hf hr hy hS H;refine ⟨fun h=>(by rw [h] at hr; cases hr),fun j hj=>?_⟩;by_cases e:j = i
  ·subst e;exact hy.wpOp hi hS ⟨fun _=>hS,H⟩
  obtain ⟨hjun,oj,hoj,hall⟩:=mem_ready.1 hj
  have hnot:∀ d ∈ oj.after,Region.binds md d = true → d.on ≠ i:=fun d hd hb q=>by
   have h1:=hall d hd hb;have h0:=(mem_ready.1 hr).1;rw [q] at h1;rcases Nat.lt_or_ge i listed.size with z | z
   ·simp [z] at h0 h1;rw [h0] at h1
    cases h1
   ·simp [Array.getElem?_eq_none z] at h1
  have hjm:j ≠ m:=fun q=>by
   subst q;unfold zem at hm;rw [hoj] at hm;obtain ⟨d,hd,hb⟩:=Array.any_eq_true'.1 hm;simp only [Bool.and_eq_true,beq_iff_eq] at hb;exact hnot d hd hb.1 hb.2
  have h2:=wpOp_putIf hoj (hf j oj hoj e hjun hnot) (fun cs b=>hsel i oi cs b hi) (fun cs b=>hsel j oj cs b hoj) hQ hy (H.2 j (ready_mono hj e));refine wpOp_mono (fun a' w' h3=>⟨h3.2.1,ih (listed.setIfInBounds j true) a' w' (fun k ok hk hki hun hno=>?_) (ready_mono hr (Ne.symm e)) h3.1 (h3.2.1 hjm) ?_⟩) h2
  ·refine hf k ok hk hki ?_ hno;by_cases q:j = k
   ·subst q; exact hjun
   ·rw [getD_set_ne true q] at hun; exact hun
  ·rw [Array.setIfInBounds_comm _ _ e];exact h3.2.2
theorem ze3 {m i:Nat} {oi:Oper} {v:Value} {fuel:Nat} {listed:Array Bool} {a:Act} {w:World} (hi:ops[i]? = some oi) (hs:Region.noSelect ops = true) (hf:Region.free md ops listed i = true) (hr:(Region.ready md ops listed).contains i = true) (hm:(zem md ops m i && i != m) = true)
  (hQ:∀ c a w,Q (.panic c) (a.put oi.dst v) w → Q (.panic c) a w) (hy:YieldsIf P ops S oi v a) (hS:S w)
  (h:zbq P md ops Q S m fuel (listed.setIfInBounds i true) (a.put oi.dst v) w):zbq P md ops Q S m (fuel + 1) listed a w:=by
 rw [Bool.and_eq_true,bne_iff_ne] at hm;exact zk0 hi (Region.noSelect_spec hs) hQ hm.1 hm.2 fuel listed a w (Region.free_spec hi hf) (by simpa using hr) hy hS h
theorem ziv {m i:Nat} {fuel:Nat} {listed:Array Bool} {a:Act} {w:World} (hr:Region.ready md ops listed = [i]) (h:wpOp P ops Q i (fun a' w'=>(i ≠ m → S w') ∧ zbq P md ops Q S m fuel (listed.setIfInBounds i true) a' w') a w):zbq P md ops Q S m (fuel + 1) listed a w:=
 ⟨fun h0=>(by rw [h0] at hr; cases hr),fun j hj=>(by
  rw [hr] at hj
  obtain rfl:=List.mem_singleton.1 hj
  exact h)⟩
theorem zlu {m fuel:Nat} {listed:Array Bool} {a:Act} {w:World} (hr:Region.ready md ops listed = []) (h:Q .normal a w):zbq P md ops Q S m fuel listed a w:=by
 cases fuel with
 | zero=>exact ⟨hr,h⟩
 | succ n=>exact ⟨fun _=>h,fun i hi=>(by rw [hr] at hi; cases hi)⟩
theorem zh3 {id m:Nat} {a:Act} {w:World} (hm:P.follows .mixedOrders = true) (h:zbq P .any ops Q S m ops.size (Array.replicate ops.size false) a w.drew):(Code.region id ops true).wp P Q a w:=
 wp_region_any hm (ziu _ _ _ _ h)
end
theorem sA {α:Type} {l:List α} {i:Nat} {a:α}:l.toArray.setIfInBounds i a = (l.set i a).toArray:=List.setIfInBounds_toArray ..
theorem sB {α:Type} {x a:α} {xs:List α}:(x :: xs).set 0 a = a :: xs:=List.set_cons_zero
theorem sC {α:Type} {x a:α} {xs:List α} {n:Nat}:(x :: xs).set (n + 1) a = x :: xs.set n a:=List.set_cons_succ
def At (l:List Oper) (i:Nat) (o:Oper):Prop:=l[i]? = some o
theorem At.z {l:List Oper} {o:Oper}:At (o :: l) 0 o:=rfl
theorem At.s {l:List Oper} {i:Nat} {o p:Oper} (h:At l i o):At (p :: l) (i + 1) o:=h
section
variable {P : Program} {Q : Exit → Act → World → Prop} {S : World → Prop} {l : List Oper}
theorem At.arr {i:Nat} {o:Oper} (h:At l i o):l.toArray[i]? = some o:=by unfold At at h; simpa using h
theorem ze0 {m i:Nat} {oi:Oper} {v:Value} {fuel:Nat} {listed:Array Bool} {a:Act} {w:World} (hi:At l i oi) (hs:Region.noSelect l.toArray = true) (hf:Region.free .any l.toArray listed i = true) (hr:(Region.ready .any l.toArray listed).contains i = true) (hm:(zem .any l.toArray m i && i != m) = true)
  (hQ:∀ c a w,Q (.panic c) (a.put oi.dst v) w → Q (.panic c) a w) (hg:oi.guard = none) (hy:∀ w,S w → (execOp a.eval oi).run P w = .ok (.value v) w) (hS:S w)
  (h:zbq P .any l.toArray Q S m fuel (listed.setIfInBounds i true) (a.put oi.dst v) w):zbq P .any l.toArray Q S m (fuel + 1) listed a w:=
 ze3 hi.arr hs hf hr hm hQ (.inl ⟨by unfold Region.wanted; rw [hg],hy⟩) hS h
def tkOk (l:List Oper) (listed:Array Bool) (m i:Nat):Bool:=Region.noSelect l.toArray && (Region.free .any l.toArray listed i && ((Region.ready .any l.toArray listed).contains i && (zem .any l.toArray m i && i != m)))
theorem tkOk.all {l:List Oper} {listed:Array Bool} {m i:Nat} (h:tkOk l listed m i = true):Region.noSelect l.toArray = true ∧ Region.free .any l.toArray listed i = true ∧ (Region.ready .any l.toArray listed).contains i = true ∧ (zem .any l.toArray m i && i != m) = true:=by
 unfold tkOk at h;rw [Bool.and_eq_true,Bool.and_eq_true,Bool.and_eq_true] at h;exact h
theorem tkL {m i:Nat} {oi:Oper} {v:Value} {fuel:Nat} {listed:Array Bool} {a:Act} {w:World} (hi:At l i oi) (hc:tkOk l listed m i = true)
  (hQ:∀ c a w,Q (.panic c) (a.put oi.dst v) w → Q (.panic c) a w) (hg:oi.guard = none) (hy:∀ w,S w → (execOp a.eval oi).run P w = .ok (.value v) w) (hS:S w)
  (h:zbq P .any l.toArray Q S m fuel (listed.setIfInBounds i true) (a.put oi.dst v) w):zbq P .any l.toArray Q S m (fuel + 1) listed a w:=
 ze0 hi (tkOk.all hc).1 (tkOk.all hc).2.1 (tkOk.all hc).2.2.1 (tkOk.all hc).2.2.2 hQ hg hy hS h
theorem zbk {m i:Nat} {o:Oper} {fuel:Nat} {listed:Array Bool} {a:Act} {w:World} (hi:At l i o) (hr:Region.ready .any l.toArray listed = [i])
  (h:∀ K':Act → World → Prop,Shut (∀ a w,S w → zbq P .any l.toArray Q S m fuel (listed.setIfInBounds i true) a w → K' a w) → if Region.wanted o (yielded l.toArray a.tmps) = true then Oper.wp P o a w K' Q else K' (a.put o.dst undef) w):zbq P .any l.toArray Q S m (fuel + 1) listed a w:=
 ziv hr (wpOp_step hi.arr fun K' hK=>h K' fun a w hS hW=>hK a w ⟨fun _=>hS,hW⟩)
theorem zf1 {m:Nat} {o:Oper} {fuel:Nat} {listed:Array Bool} {a:Act} {w:World} (hi:At l m o) (hr:Region.ready .any l.toArray listed = [m]) (hr':Region.ready .any l.toArray (listed.setIfInBounds m true) = [])
  (h:∀ K':Act → World → Prop,Shut (∀ a w,Q .normal a w → K' a w) → if Region.wanted o (yielded l.toArray a.tmps) = true then Oper.wp P o a w K' Q else K' (a.put o.dst undef) w):zbq P .any l.toArray Q S m (fuel + 1) listed a w:=
 ziv hr (wpOp_step hi.arr fun K' hK=>h K' fun a w hQ=>hK a w ⟨fun z=>absurd rfl z,zlu hr' hQ⟩)
theorem zct {id:Nat} (m:Nat) {a:Act} {w:World} (hm:P.follows .mixedOrders = true) (hS:S w.drew) (h:S w.drew → zbq P .any l.toArray Q S m l.toArray.size (Array.replicate l.toArray.size false) a w.drew):(Code.region id l.toArray true).wp P Q a w:=
 zh3 hm (h hS)
end
end Go.Proofs.YtdhinkgjiapigabGreatDoor
namespace Go.Proofs.YtdhinkgjiapigabGreatDoor
open Go
theorem zq0 {P:Program} {Q:Exit → Act → World → Prop} {S:World → Prop} {l:List Oper} {m i j:Nat} {oi oj:Oper} {fuel:Nat} {listed:Array Bool} {a:Act} {w:World} (hi:At l i oi) (hj:At l j oj) (hr:Region.ready .any l.toArray listed = [i,j])
  (h1:∀ K':Act → World → Prop,Shut (∀ a w,S w → zbq P .any l.toArray Q S m fuel (listed.setIfInBounds i true) a w → K' a w) → if Region.wanted oi (yielded l.toArray a.tmps) = true then Oper.wp P oi a w K' Q else K' (a.put oi.dst undef) w)
  (h2:∀ K':Act → World → Prop,Shut (∀ a w,S w → zbq P .any l.toArray Q S m fuel (listed.setIfInBounds j true) a w → K' a w) → if Region.wanted oj (yielded l.toArray a.tmps) = true then Oper.wp P oj a w K' Q else K' (a.put oj.dst undef) w):zbq P .any l.toArray Q S m (fuel + 1) listed a w:=
 ⟨fun h0=>(by rw [h0] at hr; cases hr),fun n hn=>(by
  rw [hr] at hn
  rcases List.mem_cons.1 hn with rfl | hn
  ·exact wpOp_step hi.arr fun K' hK=>h1 K' fun a w hS hW=>hK a w ⟨fun _=>hS,hW⟩
  ·obtain rfl:=List.mem_singleton.1 hn
   exact wpOp_step hj.arr fun K' hK=>h2 K' fun a w hS hW=>hK a w ⟨fun _=>hS,hW⟩)⟩
end Go.Proofs.YtdhinkgjiapigabGreatDoor
namespace Go.Proofs.YtdhinkgjiapigabGreatDoor
open Go.RowKit Go.Deep
open Classical
theorem zbw {w W:World} {bw N i b bq:Nat} {f:Nat → Value} {x:HeldD} {v:Value} (hr:w.rowIs bw 93 N f) (hB:Below w.heap.size w W) (hO:OBools W v x.been bq) (hbq:w.heap.size ≤ bq) :
  HeldStep w (((((W.setCell ⟨bw,i * 5,none⟩ (.int .i64 x.state)).setCell ⟨bw,i * 5 + 1,none⟩ (.int .i64 x.gone)).setCell ⟨bw,i * 5 + 2,none⟩ v).setCell ⟨bw,i * 5 + 3,none⟩ (.bool x.shown)).setCell ⟨bw,i * 5 + 4,none⟩ (.int .i64 x.timer)) bw N i f b x:=by
 have hlt:=hr.lt;have hrW:=zah hr hB;have hk:∀ o:Nat,¬ ((fun c=>c ≠ bw ∧ c ≠ b) (⟨bw,o,none⟩:Addr).block):=fun o z=>z.1 rfl;have hj:∀ o:Nat,¬ ((fun c=>c ≠ bw) (⟨bw,o,none⟩:Addr).block):=fun o z=>z rfl;have hO':=hO.but (((((But.refl (fun c=>c ≠ bw) W).setCell (hj (i * 5)) (.int .i64 x.state)).setCell (hj (i * 5 + 1)) (.int .i64 x.gone)).setCell (hj (i * 5 + 2)) v).setCell (hj (i * 5 + 3)) (.bool x.shown) |>.setCell (hj (i * 5 + 4)) (.int .i64 x.timer)) (by omega);refine ⟨((((((But.of_calls hB).setCell (hk _) _).setCell (hk _) _).setCell (hk _) _).setCell (hk _) _).setCell (hk _) _),_,bq,((((hrW.set (i * 5) (.int .i64 x.state)).set (i * 5 + 1) (.int .i64 x.gone)).set (i * 5 + 2) v).set (i * 5 + 3) (.bool x.shown)).set (i * 5 + 4) (.int .i64 x.timer),⟨?_,?_,?_,?_,?_⟩,fun q _ hq=>?_,.inr hbq⟩
 ·simp
 ·simp
 ·simpa using hO'
 ·simp
 ·simp
 ·rw [if_neg (by omega),if_neg (by omega),if_neg (by omega),if_neg (by omega),if_neg (by omega)]
def Stand (ways:List WayD) (d:FrameD):Prop:=∀ (i:Nat) x h,ways[i]? = some x → d.ways[i]? = some h → ∃ s,zp3 h = some s ∧ zcw x.sections.length s ∧ zao x.sections.length s = h
set_option maxRecDepth 100000 in
set_option maxHeartbeats 8000000 in
theorem zni (P Q:Nat → Prop) (n hd ok p1 p2 p3 v1 v2 v3:Value) (d:FrameD) (ways:List WayD) (bo bp bw:Nat) (bb:Nat → Nat) (w:World)
  (hp:Ways Q w p2 ways) (hQ:∀ c,Q c → c < w.heap.size ∧ ¬ P c) (hf:OFrame P w v1 v2 v3 d bo bp bw bb) (hfit:Fits ways d) (hstd:Stand ways d) (hPl:∀ c,P c → c < w.heap.size) :
  Calls Tryz.prog 147 #[.agg #[n,p1,p2,p3,hd],.agg #[ok,v1,v2,v3]] w fun e w'=>e = .returned (.tuple #[]) ∧ ∃ bb',OFrame (fun c=>P c ∨ New w w' c) w' v1 v2 v3 (zbu ways d) bo bp bw bb' ∧ But (fun c=>¬ P c) w w':=by
 obtain ⟨hlen,h100,hol,hpl,hfit⟩:=hfit;have HFIT:=zaa hfit;have HLEN:=zaa hlen;clear hlen;have HSTD:=zaa hstd;obtain ⟨a2,k2,rfl,-⟩:=id hp;have HP:=zaa hp;have HQ:=zaa hQ;obtain ⟨g1,N1,q1,rfl,-⟩:=id hf.occ;obtain ⟨a4,q2,rfl,-⟩:=id hf.points;obtain ⟨a3,q3,rfl,-⟩:=id hf.ways;have T0:=zbc w 37 42 #[n,p1,.slice a2 ways.length k2,p3,hd] #[ok,.slice (some ⟨bo,0,none⟩) d.occ.length q1,.slice a4 d.points.length q2,.slice a3 d.ways.length q3]
 have start:SetR P ((w.alloc (.cells #[n,p1,.slice a2 ways.length k2,p3,hd] 37)).alloc (.cells #[ok,.slice (some ⟨bo,0,none⟩) d.occ.length q1,.slice a4 d.points.length q2,.slice a3 d.ways.length q3] 42)) (.slice (some ⟨bo,0,none⟩) d.occ.length q1) (.slice a4 d.points.length q2) (.slice a3 d.ways.length q3) d ways bo bp bw 0 ((w.alloc (.cells #[n,p1,.slice a2 ways.length k2,p3,hd] 37)).alloc (.cells #[ok,.slice (some ⟨bo,0,none⟩) d.occ.length q1,.slice a4 d.points.length q2,.slice a3 d.ways.length q3] 42)):=
  ⟨d.ways,bb,rfl,fun j _ _ hj=>by omega,fun _ _=>rfl,hf.but (K:=fun _=>True) (But.of_calls T0.below) (fun _ _=>trivial) fun _ z=>.inl z,But.refl _ _⟩
 have HST:=zaa start;have HF:=zaa hf;have HPL:=zaa hPl;clear hfit hp hQ start hf hstd hPl;go_enter Tryz.func147,Tryz.ntmps147;go_wp2;obtain ⟨W0,hW0⟩:∃ W0,W0 = (w.alloc (.cells #[n,p1,.slice a2 ways.length k2,p3,hd] 37)).alloc (.cells #[ok,.slice (some ⟨bo,0,none⟩) d.occ.length q1,.slice a4 d.points.length q2,.slice a3 d.ways.length q3] 42):=⟨_,rfl⟩
 have hz:W0.heap.size = w.heap.size + 2:=by rw [hW0]; simp
 have HZ:=zaa hz;rw [← hW0] at HST T0 ⊢;have HT0:=zaa T0;have HNP:Hid (∀ c,w.heap.size ≤ c → ¬ P c):=fun c hc z=>absurd (HPL.out _ z) (by omega);clear hW0 hz T0
 go_loopw [9] (fun z wr=>∃ (i:Nat),i ≤ ways.length ∧ z = .int .i64 i ∧ SetR P W0 (.slice (some ⟨bo,0,none⟩) d.occ.length q1) (.slice a4 d.points.length q2) (.slice a3 d.ways.length q3) d ways bo bp bw i wr) (fun z _=>ways.length - (intOf z).toNat)
 case atStart=>exact ⟨0,by omega,rfl,HST.out⟩
 case round=>
  obtain ⟨i,hi,rfl,hset⟩:=hrel;by_cases hlt:i < ways.length
  ·obtain ⟨x,hx⟩:=zac ways (zaa rfl) hlt;obtain ⟨h,hh⟩:=zac d.ways (zaa HLEN.out) hlt;obtain ⟨cur,bb2,hl2,hs1,hs2,hf2,hb2⟩:=hset
   have hjl:i < d.ways.length:=by have:=HLEN.out; omega
   have hlt3:(i:Int) < (d.ways.length:Int):=by omega
   have hlt4:(i:Int) < (ways.length:Int):=by omega
   obtain ⟨hbe,hpos,hsm,hg0,hg1,hly,hsc⟩:=HFIT.out i x h hx hh;obtain ⟨s,hso,hsf,hsh⟩:=HSTD.out i x h hx hh;have hcur:cur[i]? = some h:=(hs2 i (Nat.le_refl _)).trans hh
   obtain ⟨f,N,ha3,hr,hN,hHO⟩:∃ f N,a3 = some ⟨bw,0,none⟩ ∧ wr.rowIs bw 93 N f ∧ cur.length * 5 ≤ N ∧ ∀ (j:Nat) y,cur[j]? = some y → HeldO wr f j y (bb2 j):=by
    obtain ⟨a,cap,hv,h0 | ⟨ha,f,N,hr,hN,hHO⟩⟩:=hf2.ways
    ·have h0':cur.length = 0:=h0;omega
    ·injection hv with ea _ _;exact ⟨f,N,ea.trans ha,hr,hN,hHO⟩
   subst ha3;have ho:=hHO i h hcur
   have hiN:i * 5 + 5 ≤ N:=by omega
   have hsQ:Same Q w wr:=fun c hc o=>by
    have h1:=HQ.out c hc;exact (World.cell?_of_block (w:=W0) (hb2.block c (by have:=HZ.out; omega) h1.2)).trans (HT0.out.below.cell (p:=⟨c,o,none⟩) h1.1)
   obtain ⟨v0,v1,v2,v3,v4,bq,oq,hway,ha2,r0,r1,r2,r3,r4⟩:∃ v0 v1 v2 v3 v4 bq oq,WayAt Q wr v0 v1 v2 v3 v4 x ∧ a2 = some ⟨bq,oq,none⟩ ∧ wr.cell? ⟨bq,oq + i * 5,none⟩ = some v0 ∧ wr.cell? ⟨bq,oq + i * 5 + 1,none⟩ = some v1 ∧ wr.cell? ⟨bq,oq + i * 5 + 2,none⟩ = some v2 ∧ wr.cell? ⟨bq,oq + i * 5 + 3,none⟩ = some v3 ∧ wr.cell? ⟨bq,oq + i * 5 + 4,none⟩ = some v4:=by
    obtain ⟨a,cap,hv,h0 | ⟨bq,oq,ha,hQb,hcw⟩⟩:=HP.out.keep hsQ fun _ z=>z
    ·omega
    ·cases hv
     obtain ⟨v0,v1,v2,v3,v4,hw,hc⟩:=hcw i hlt x hx;exact ⟨v0,v1,v2,v3,v4,bq,oq,hw,ha,hc⟩
   subst ha2;obtain ⟨aa0,cc0,rfl⟩:=hway.1.size;obtain ⟨aa1,cc1,rfl⟩:=hway.2.1.size;obtain ⟨aa2,cc2,rfl⟩:=hway.2.2.1.size;obtain ⟨aa3,cc3,rfl⟩:=hway.2.2.2.1.size;obtain ⟨aa4,cc4,rfl⟩:=hway.2.2.2.2.size;obtain ⟨capb,t0,t1,t2,t3,t4,-,-⟩:=ho.cells hr hiN;have z0:=hr.frozen (i * 5)
   have hfin:∀ W',HeldStep wr W' bw N i f (bb2 i) (zar d.occ d.points x h) → SetR P W0 (.slice (some ⟨bo,0,none⟩) d.occ.length q1) (.slice a4 d.points.length q2) (.slice (some ⟨bw,0,none⟩) d.ways.length q3) d ways bo bp bw (i + 1) W':=
    fun W' hs=>SetR.next hl2 hs1 hs2 hf2 hb2 (by omega) hx hh hr hs
   have FIN:=zaa hfin;have hfr:=(hf2.bound (Q:=In wr) fun _ _ z=>z).read
   have hwy:WayAt (In wr) wr (.slice aa0 x.sections.length cc0) (.slice aa1 x.lies.length cc1) (.slice aa2 x.flanks.length cc2) (.slice aa3 x.over.length cc3) (.slice aa4 x.near.length cc4) x:=hway.keep (zax _ _) fun c hc=>by have:=(HQ.out c hc).1; have:=hb2.size; have:=HZ.out; show c < wr.heap.size; omega
   have hbn:=ho.2.2.1;have BW:=zab wr (.cells #[.slice aa0 x.sections.length cc0,.slice aa1 x.lies.length cc1,.slice aa2 x.flanks.length cc2,.slice aa3 x.over.length cc3,.slice aa4 x.near.length cc4] 122);have TW:=zaw wr 122 #[.slice aa0 x.sections.length cc0,.slice aa1 x.lies.length cc1,.slice aa2 x.flanks.length cc2,.slice aa3 x.over.length cc3,.slice aa4 x.near.length cc4]
   go_wp2_with fail
   obtain ⟨WA,hWA⟩:∃ WA,WA = wr.alloc (.cells #[.slice aa0 x.sections.length cc0,.slice aa1 x.lies.length cc1,.slice aa2 x.flanks.length cc2,.slice aa3 x.over.length cc3,.slice aa4 x.near.length cc4] 122):=⟨_,rfl⟩;rw [← hWA] at BW TW ⊢
   have hks:∀ W,Below WA.heap.size WA W → Below WA.heap.size WA W ∧
     (W.cell? ⟨w.heap.size + 1,0,none⟩ = some ok ∧ W.cell? ⟨w.heap.size + 1,1,none⟩ = some (.slice (some ⟨bo,0,none⟩) d.occ.length q1) ∧ W.cell? ⟨w.heap.size + 1,2,none⟩ = some (.slice a4 d.points.length q2) ∧ W.cell? ⟨w.heap.size + 1,3,none⟩ = some (.slice (some ⟨bw,0,none⟩) d.ways.length q3)) ∧
     (W.cell? ⟨wr.heap.size,0,none⟩ = some (.slice aa0 x.sections.length cc0) ∧ W.cell? ⟨wr.heap.size,1,none⟩ = some (.slice aa1 x.lies.length cc1) ∧ W.cell? ⟨wr.heap.size,2,none⟩ = some (.slice aa2 x.flanks.length cc2) ∧ W.cell? ⟨wr.heap.size,3,none⟩ = some (.slice aa3 x.over.length cc3) ∧ W.cell? ⟨wr.heap.size,4,none⟩ = some (.slice aa4 x.near.length cc4)) ∧
     (W.cell? ⟨bw,i * 5,none⟩ = some (.int .i64 h.state) ∧ W.cell? ⟨bw,i * 5 + 1,none⟩ = some (.int .i64 h.gone) ∧ W.cell? ⟨bw,i * 5 + 2,none⟩ = some (.slice (some ⟨bb2 i,0,none⟩) h.been.length capb) ∧ W.cell? ⟨bw,i * 5 + 3,none⟩ = some (.bool h.shown) ∧ W.cell? ⟨bw,i * 5 + 4,none⟩ = some (.int .i64 h.timer)):=fun W hW=>by
    have hwr:Below wr.heap.size wr W:=BW.trans (hW.mono BW.size);have hTW:=TW.call hW;refine ⟨hW,⟨?_,?_,?_,?_⟩,⟨?_,?_,?_,?_,?_⟩,ckb t0 hwr,ckb t1 hwr,ckb t2 hwr,ckb t3 hwr,ckb t4 hwr⟩
    ·exact ckb (hb2.cell (HT0.out.cell (j:=1) (i:=0) rfl rfl) (HNP.out _ (by omega))) hwr
    ·exact ckb (hb2.cell (HT0.out.cell (j:=1) (i:=1) rfl rfl) (HNP.out _ (by omega))) hwr
    ·exact ckb (hb2.cell (HT0.out.cell (j:=1) (i:=2) rfl rfl) (HNP.out _ (by omega))) hwr
    ·exact ckb (hb2.cell (HT0.out.cell (j:=1) (i:=3) rfl rfl) (HNP.out _ (by omega))) hwr
    ·exact hTW.cell (j:=0) (i:=0) rfl rfl
    ·exact hTW.cell (j:=0) (i:=1) rfl rfl
    ·exact hTW.cell (j:=0) (i:=2) rfl rfl
    ·exact hTW.cell (j:=0) (i:=3) rfl rfl
    ·exact hTW.cell (j:=0) (i:=4) rfl rfl
   have KS:=zaa hks;have HBW:=zaa BW
   have hbn':OBools wr (.slice (some ⟨bb2 i,0,none⟩) h.been.length capb) h.been (bb2 i):=by
    have e:=(hr.cell (i:=i * 5 + 2) (by omega)).symm.trans t2;rw [← Option.some.inj e];exact hbn
   have KB:=zaa fun (W:World) (hW:Below wr.heap.size wr W)=>(hbn'.read (P:=In wr) hbn'.lt).keep (Q:=In W) (In.keep hW).1 (In.keep hW).2;have KF:=zaa fun (W:World) (hW:Below wr.heap.size wr W)=>hfr.keep (Q:=In W) (In.keep hW).1 (In.keep hW).2;have KW:=zaa fun (W:World) (hW:Below wr.heap.size wr W)=>hwy.keep (Q:=In W) (In.keep hW).1 (In.keep hW).2;have HR:=zaa hr;have HSO:=zaa (And.intro hso (And.intro hsf hsh));have HBE:=zaa hbe;have HSM:=zaa hsm;have HLS:=zaa (And.intro hly hsc);have zf:∀ W,Below wr.heap.size wr W → ∀ o,W.frozen? ⟨bw,o,none⟩ = false:=fun W hW o=>(zah hr hW).frozen o;have HZF:=zaa zf;clear hs1 hs2 hx hh hcur hHO hfin hway hfr hwy hbn hbn' TW BW t0 t1 t2 t3 t4 z0 r0 r1 r2 r3 r4 hf2 hb2 hso hsf hsh hr ho hks hWA hly hsc hsQ zf hbe hsm
   refine zct (S:=fun W=>Below WA.heap.size WA W ∧
     (W.cell? ⟨w.heap.size + 1,0,none⟩ = some ok ∧ W.cell? ⟨w.heap.size + 1,1,none⟩ = some (.slice (some ⟨bo,0,none⟩) d.occ.length q1) ∧ W.cell? ⟨w.heap.size + 1,2,none⟩ = some (.slice a4 d.points.length q2) ∧ W.cell? ⟨w.heap.size + 1,3,none⟩ = some (.slice (some ⟨bw,0,none⟩) d.ways.length q3)) ∧
     (W.cell? ⟨wr.heap.size,0,none⟩ = some (.slice aa0 x.sections.length cc0) ∧ W.cell? ⟨wr.heap.size,1,none⟩ = some (.slice aa1 x.lies.length cc1) ∧ W.cell? ⟨wr.heap.size,2,none⟩ = some (.slice aa2 x.flanks.length cc2) ∧ W.cell? ⟨wr.heap.size,3,none⟩ = some (.slice aa3 x.over.length cc3) ∧ W.cell? ⟨wr.heap.size,4,none⟩ = some (.slice aa4 x.near.length cc4)) ∧
     (W.cell? ⟨bw,i * 5,none⟩ = some (.int .i64 h.state) ∧ W.cell? ⟨bw,i * 5 + 1,none⟩ = some (.int .i64 h.gone) ∧ W.cell? ⟨bw,i * 5 + 2,none⟩ = some (.slice (some ⟨bb2 i,0,none⟩) h.been.length capb) ∧ W.cell? ⟨bw,i * 5 + 3,none⟩ = some (.bool h.shown) ∧ W.cell? ⟨bw,i * 5 + 4,none⟩ = some (.int .i64 h.timer))) 15 (by kernel_rfl) (KS.out _ (zaf _)) (fun hS=>?_)
   refine tkL (v:=?v0) At.z (by kernel_rfl) (fun _ _ _ h=>h) rfl ?h0 hS ?_
   case h0=>intro _ s;(try dsimp only at s);go_simp;try with_reducible rfl
   try simp only [Act.put,sA,sB,sC]
   refine tkL (v:=?v1) At.z.s (by kernel_rfl) (fun _ _ _ h=>h) rfl ?h1 hS ?_
   case h1=>intro _ s;(try dsimp only at s);go_simp;try with_reducible rfl
   try simp only [Act.put,sA,sB,sC]
   refine tkL (v:=?v2) At.z.s.s (by kernel_rfl) (fun _ _ _ h=>h) rfl ?h2 hS ?_
   case h2=>intro _ s;(try dsimp only at s);go_simp;try with_reducible rfl
   try simp only [Act.put,sA,sB,sC]
   refine tkL (v:=?v3) At.z.s.s.s (by kernel_rfl) (fun _ _ _ h=>h) rfl ?h3 hS ?_
   case h3=>intro _ s;(try dsimp only at s);go_simp;try with_reducible rfl
   try simp only [Act.put,sA,sB,sC]
   refine tkL (v:=?v4) At.z.s.s.s.s (by kernel_rfl) (fun _ _ _ h=>h) rfl ?h4 hS ?_
   case h4=>intro _ s;(try dsimp only at s);go_simp;try with_reducible rfl
   try simp only [Act.put,sA,sB,sC]
   refine tkL (v:=?v5) At.z.s.s.s.s.s (by kernel_rfl) (fun _ _ _ h=>h) rfl ?h5 hS ?_
   case h5=>intro _ s;(try dsimp only at s);go_simp;try with_reducible rfl
   try simp only [Act.put,sA,sB,sC]
   refine tkL (v:=?v6) At.z.s.s.s.s.s.s (by kernel_rfl) (fun _ _ _ h=>h) rfl ?h6 hS ?_
   case h6=>intro _ s;(try dsimp only at s);go_simp;try with_reducible rfl
   try simp only [Act.put,sA,sB,sC]
   refine tkL (v:=?v7) At.z.s.s.s.s.s.s.s (by kernel_rfl) (fun _ _ _ h=>h) rfl ?h7 hS ?_
   case h7=>intro _ s;(try dsimp only at s);go_simp;try with_reducible rfl
   try simp only [Act.put,sA,sB,sC]
   refine tkL (v:=?v8) At.z.s.s.s.s.s.s.s.s (by kernel_rfl) (fun _ _ _ h=>h) rfl ?h8 hS ?_
   case h8=>intro _ s;(try dsimp only at s);go_simp;try with_reducible rfl
   try simp only [Act.put,sA,sB,sC]
   refine tkL (v:=?v9) At.z.s.s.s.s.s.s.s.s.s (by kernel_rfl) (fun _ _ _ h=>h) rfl ?h9 hS ?_
   case h9=>intro _ s;(try dsimp only at s);go_simp;try with_reducible rfl
   try simp only [Act.put,sA,sB,sC]
   refine tkL (v:=?v12) At.z.s.s.s.s.s.s.s.s.s.s.s.s (by kernel_rfl) (fun _ _ _ h=>h) rfl ?h12 hS ?_
   case h12=>intro _ s;(try dsimp only at s);go_simp;try with_reducible rfl
   try simp only [Act.put,sA,sB,sC]
   have hD:=hS.1;have hwD:=HBW.out.trans (hD.mono HBW.out.size);refine zbk (i:=10) At.z.s.s.s.s.s.s.s.s.s.s (by kernel_rfl) (fun K hK=>?_);go_simp;refine (zdh h _ _ (KB.out _ hwD) (by have:=HBE.out; have:=HSM.out.1; omega) (by have:=HBE.out; omega)).mono ?_;rintro e w1 ⟨rfl,hb1⟩;rw [HSO.out.1];have hD1:=hD.trans (hb1.mono hD.size);have hw1:=HBW.out.trans (hD1.mono HBW.out.size);have hS1:=KS.out _ hD1;refine hK.out _ _ hS1 ?_;clear hK K hb1 hS hD hwD;simp only [zrr]
   try simp only [Act.put,sA,sB,sC]
   refine zbk (i:=11) At.z.s.s.s.s.s.s.s.s.s.s.s (by kernel_rfl) (fun K hK=>?_);go_simp;refine (zln _ _ _ _ _ _ _ _ _ s d.occ d.points x _ (KF.out _ hw1).1 (KF.out _ hw1).2.1 (KW.out _ hw1) HSM.out HLS.out.1 HLS.out.2 ⟨hpl,hol⟩ hpos HSO.out.2.1).mono ?_;rintro e w2 ⟨rfl,hb2⟩;obtain ⟨s2,hs2⟩:∃ s2,s2 = zcf d.occ d.points x s:=⟨_,rfl⟩
   have HE:Hid (zao x.sections.length s2 = zar d.occ d.points x h ∧ zcw x.sections.length s2):=by
    rw [hs2];have:=zkq (occ:=d.occ) (points:=d.points) HSO.out.2.1 hpos HSM.out.1;rw [HSO.out.2.2] at this;exact this
   rw [← hs2];have hD2:=hD1.trans (hb2.mono hD1.size);have hw2:=HBW.out.trans (hD2.mono HBW.out.size);have hS2:=KS.out _ hD2;refine hK.out _ _ hS2 ?_;clear hK K hb2 hS1 hD1 hw1 hs2;generalize stV s = vs
   try simp only [Act.put,sA,sB,sC]
   cases s2 using StD.by with
   | idle=>
    simp only [stV];have m2:=Tryz.inv_idle_held (.agg #[]);refine zbk (i:=13) At.z.s.s.s.s.s.s.s.s.s.s.s.s.s (by kernel_rfl) (fun K hK=>?_);go_simp;refine (zb8 _ _ _ _ _ x.sections _ (KW.out _ hw2).1 hpos HSM.out.1).mono ?_;rintro e w3 ⟨vb,bq3,rfl,hO3,hq3,hb3⟩;obtain ⟨y,hy⟩:∃ y,y = zao x.sections.length (.idle):=⟨_,rfl⟩;have HY:=zaa (hy.trans HE.out.1);rw [← hy] at hO3 ⊢;have hD3:=hD2.trans (hb3.mono hD2.size);have hw3:=HBW.out.trans (hD3.mono HBW.out.size);have hS3:=KS.out _ hD3;have hq3':wr.heap.size ≤ bq3:=Nat.le_trans hw2.size hq3;obtain ⟨fb,Nb,cb,rfl,-⟩:=id hO3;refine hK.out _ _ hS3 ?_;clear hK K hb3 hS2 hD2 hw2 hy m2
    try simp only [Act.put,sA,sB,sC]
    refine ze0 (i:=14) (v:=?vv101) At.z.s.s.s.s.s.s.s.s.s.s.s.s.s.s (by kernel_rfl) (by kernel_rfl) (by kernel_rfl) (by kernel_rfl) (fun _ _ _ h=>h) rfl ?hy101 hS3 ?rest101
    case hy101=>(intro w' hSw; (try dsimp only at hSw); go_simp; try with_reducible rfl)
    try simp only [Act.put,sA,sB,sC]
    obtain ⟨-,-,-,t0,t1,t2,t3,t4⟩:=hS3;have z0:=HZF.out _ hw3 (i * 5);have z1:=HZF.out _ hw3 (i * 5 + 1);have z2:=HZF.out _ hw3 (i * 5 + 2);have z3:=HZF.out _ hw3 (i * 5 + 3);have z4:=HZF.out _ hw3 (i * 5 + 4);have HH:=zaa (zbw (i:=i) (b:=bb2 i) HR.out hw3 hO3 hq3');clear hO3 hw3 hq3 hq3' hD3;refine zf1 (m:=15) At.z.s.s.s.s.s.s.s.s.s.s.s.s.s.s.s (by kernel_rfl) (by kernel_rfl) (fun K hK=>?_);go_simp;refine hK.out _ _ ?_;clear hK K t0 t1 t2 t3 t4 z0 z1 z2 z3 z4;go_wp2;go_roundw
    case rel=>exact ⟨i + 1,by omega,by go_num,FIN.out _ (by rw [← HY.out]; exact HH.out)⟩
    case measure=>simp [intOf]; omega
   | set b=>
    simp only [stV];have m2:=Tryz.inv_set_held (.agg #[.bool b]);refine zbk (i:=13) At.z.s.s.s.s.s.s.s.s.s.s.s.s.s (by kernel_rfl) (fun K hK=>?_);go_simp;refine (zhg b _ _ _ _ _ x.sections _ (KW.out _ hw2).1 hpos HSM.out.1).mono ?_;rintro e w3 ⟨vb,bq3,rfl,hO3,hq3,hb3⟩;obtain ⟨y,hy⟩:∃ y,y = zao x.sections.length (.set b):=⟨_,rfl⟩;have HY:=zaa (hy.trans HE.out.1);rw [← hy] at hO3 ⊢;have hD3:=hD2.trans (hb3.mono hD2.size);have hw3:=HBW.out.trans (hD3.mono HBW.out.size);have hS3:=KS.out _ hD3;have hq3':wr.heap.size ≤ bq3:=Nat.le_trans hw2.size hq3;obtain ⟨fb,Nb,cb,rfl,-⟩:=id hO3;refine hK.out _ _ hS3 ?_;clear hK K hb3 hS2 hD2 hw2 hy m2
    try simp only [Act.put,sA,sB,sC]
    refine ze0 (i:=14) (v:=?vv102) At.z.s.s.s.s.s.s.s.s.s.s.s.s.s.s (by kernel_rfl) (by kernel_rfl) (by kernel_rfl) (by kernel_rfl) (fun _ _ _ h=>h) rfl ?hy102 hS3 ?rest102
    case hy102=>(intro w' hSw; (try dsimp only at hSw); go_simp; try with_reducible rfl)
    try simp only [Act.put,sA,sB,sC]
    obtain ⟨-,-,-,t0,t1,t2,t3,t4⟩:=hS3;have z0:=HZF.out _ hw3 (i * 5);have z1:=HZF.out _ hw3 (i * 5 + 1);have z2:=HZF.out _ hw3 (i * 5 + 2);have z3:=HZF.out _ hw3 (i * 5 + 3);have z4:=HZF.out _ hw3 (i * 5 + 4);have HH:=zaa (zbw (i:=i) (b:=bb2 i) HR.out hw3 hO3 hq3');clear hO3 hw3 hq3 hq3' hD3;refine zf1 (m:=15) At.z.s.s.s.s.s.s.s.s.s.s.s.s.s.s.s (by kernel_rfl) (by kernel_rfl) (fun K hK=>?_);go_simp;refine hK.out _ _ ?_;clear hK K t0 t1 t2 t3 t4 z0 z1 z2 z3 z4;go_wp2;go_roundw
    case rel=>exact ⟨i + 1,by omega,by go_num,FIN.out _ (by rw [← HY.out]; exact HH.out)⟩
    case measure=>simp [intOf]; omega
   | clear=>
    simp only [stV];have m2:=Tryz.inv_clear_held (.agg #[]);refine zbk (i:=13) At.z.s.s.s.s.s.s.s.s.s.s.s.s.s (by kernel_rfl) (fun K hK=>?_);go_simp;refine (zi4 _ _ _ _ _ x.sections _ (KW.out _ hw2).1 hpos HSM.out.1).mono ?_;rintro e w3 ⟨vb,bq3,rfl,hO3,hq3,hb3⟩;obtain ⟨y,hy⟩:∃ y,y = zao x.sections.length (.clear):=⟨_,rfl⟩;have HY:=zaa (hy.trans HE.out.1);rw [← hy] at hO3 ⊢;have hD3:=hD2.trans (hb3.mono hD2.size);have hw3:=HBW.out.trans (hD3.mono HBW.out.size);have hS3:=KS.out _ hD3;have hq3':wr.heap.size ≤ bq3:=Nat.le_trans hw2.size hq3;obtain ⟨fb,Nb,cb,rfl,-⟩:=id hO3;refine hK.out _ _ hS3 ?_;clear hK K hb3 hS2 hD2 hw2 hy m2
    try simp only [Act.put,sA,sB,sC]
    refine ze0 (i:=14) (v:=?vv103) At.z.s.s.s.s.s.s.s.s.s.s.s.s.s.s (by kernel_rfl) (by kernel_rfl) (by kernel_rfl) (by kernel_rfl) (fun _ _ _ h=>h) rfl ?hy103 hS3 ?rest103
    case hy103=>(intro w' hSw; (try dsimp only at hSw); go_simp; try with_reducible rfl)
    try simp only [Act.put,sA,sB,sC]
    obtain ⟨-,-,-,t0,t1,t2,t3,t4⟩:=hS3;have z0:=HZF.out _ hw3 (i * 5);have z1:=HZF.out _ hw3 (i * 5 + 1);have z2:=HZF.out _ hw3 (i * 5 + 2);have z3:=HZF.out _ hw3 (i * 5 + 3);have z4:=HZF.out _ hw3 (i * 5 + 4);have HH:=zaa (zbw (i:=i) (b:=bb2 i) HR.out hw3 hO3 hq3');clear hO3 hw3 hq3 hq3' hD3;refine zf1 (m:=15) At.z.s.s.s.s.s.s.s.s.s.s.s.s.s.s.s (by kernel_rfl) (by kernel_rfl) (fun K hK=>?_);go_simp;refine hK.out _ _ ?_;clear hK K t0 t1 t2 t3 t4 z0 z1 z2 z3 z4;go_wp2;go_roundw
    case rel=>exact ⟨i + 1,by omega,by go_num,FIN.out _ (by rw [← HY.out]; exact HH.out)⟩
    case measure=>simp [intOf]; omega
   | taking t=>
    simp only [stV];have m2:=Tryz.inv_taking_held (.agg #[.int .i64 t]);refine zbk (i:=13) At.z.s.s.s.s.s.s.s.s.s.s.s.s.s (by kernel_rfl) (fun K hK=>?_);go_simp;refine (zcm t _ _ _ _ _ x.sections _ (KW.out _ hw2).1 hpos HSM.out.1).mono ?_;rintro e w3 ⟨vb,bq3,rfl,hO3,hq3,hb3⟩;obtain ⟨y,hy⟩:∃ y,y = zao x.sections.length (.taking t):=⟨_,rfl⟩;have HY:=zaa (hy.trans HE.out.1);rw [← hy] at hO3 ⊢;have hD3:=hD2.trans (hb3.mono hD2.size);have hw3:=HBW.out.trans (hD3.mono HBW.out.size);have hS3:=KS.out _ hD3;have hq3':wr.heap.size ≤ bq3:=Nat.le_trans hw2.size hq3;obtain ⟨fb,Nb,cb,rfl,-⟩:=id hO3;refine hK.out _ _ hS3 ?_;clear hK K hb3 hS2 hD2 hw2 hy m2
    try simp only [Act.put,sA,sB,sC]
    refine ze0 (i:=14) (v:=?vv104) At.z.s.s.s.s.s.s.s.s.s.s.s.s.s.s (by kernel_rfl) (by kernel_rfl) (by kernel_rfl) (by kernel_rfl) (fun _ _ _ h=>h) rfl ?hy104 hS3 ?rest104
    case hy104=>(intro w' hSw; (try dsimp only at hSw); go_simp; try with_reducible rfl)
    try simp only [Act.put,sA,sB,sC]
    obtain ⟨-,-,-,t0,t1,t2,t3,t4⟩:=hS3;have z0:=HZF.out _ hw3 (i * 5);have z1:=HZF.out _ hw3 (i * 5 + 1);have z2:=HZF.out _ hw3 (i * 5 + 2);have z3:=HZF.out _ hw3 (i * 5 + 3);have z4:=HZF.out _ hw3 (i * 5 + 4);have HH:=zaa (zbw (i:=i) (b:=bb2 i) HR.out hw3 hO3 hq3');clear hO3 hw3 hq3 hq3' hD3;refine zf1 (m:=15) At.z.s.s.s.s.s.s.s.s.s.s.s.s.s.s.s (by kernel_rfl) (by kernel_rfl) (fun K hK=>?_);go_simp;refine hK.out _ _ ?_;clear hK K t0 t1 t2 t3 t4 z0 z1 z2 z3 z4;go_wp2;go_roundw
    case rel=>exact ⟨i + 1,by omega,by go_num,FIN.out _ (by rw [← HY.out]; exact HH.out)⟩
    case measure=>simp [intOf]; omega
   | used g l b=>
    simp only [stV];have m2:=Tryz.inv_used_held (.agg (zbl g l b));refine zbk (i:=13) At.z.s.s.s.s.s.s.s.s.s.s.s.s.s (by kernel_rfl) (fun K hK=>?_);go_simp;refine (zkw g l b _ _ _ _ _ x.sections _ (KW.out _ hw2).1 hpos HSM.out.1 HE.out.2.1).mono ?_;rintro e w3 ⟨vb,bq3,rfl,hO3,hq3,hb3⟩;obtain ⟨y,hy⟩:∃ y,y = zao x.sections.length (.used g l b):=⟨_,rfl⟩;have HY:=zaa (hy.trans HE.out.1);rw [← hy] at hO3 ⊢;have hD3:=hD2.trans (hb3.mono hD2.size);have hw3:=HBW.out.trans (hD3.mono HBW.out.size);have hS3:=KS.out _ hD3;have hq3':wr.heap.size ≤ bq3:=Nat.le_trans hw2.size hq3;obtain ⟨fb,Nb,cb,rfl,-⟩:=id hO3;refine hK.out _ _ hS3 ?_;clear hK K hb3 hS2 hD2 hw2 hy m2
    try simp only [Act.put,sA,sB,sC]
    refine ze0 (i:=14) (v:=?vv105) At.z.s.s.s.s.s.s.s.s.s.s.s.s.s.s (by kernel_rfl) (by kernel_rfl) (by kernel_rfl) (by kernel_rfl) (fun _ _ _ h=>h) rfl ?hy105 hS3 ?rest105
    case hy105=>(intro w' hSw; (try dsimp only at hSw); go_simp; try with_reducible rfl)
    try simp only [Act.put,sA,sB,sC]
    obtain ⟨-,-,-,t0,t1,t2,t3,t4⟩:=hS3;have z0:=HZF.out _ hw3 (i * 5);have z1:=HZF.out _ hw3 (i * 5 + 1);have z2:=HZF.out _ hw3 (i * 5 + 2);have z3:=HZF.out _ hw3 (i * 5 + 3);have z4:=HZF.out _ hw3 (i * 5 + 4);have HH:=zaa (zbw (i:=i) (b:=bb2 i) HR.out hw3 hO3 hq3');clear hO3 hw3 hq3 hq3' hD3;refine zf1 (m:=15) At.z.s.s.s.s.s.s.s.s.s.s.s.s.s.s.s (by kernel_rfl) (by kernel_rfl) (fun K hK=>?_);go_simp;refine hK.out _ _ ?_;clear hK K t0 t1 t2 t3 t4 z0 z1 z2 z3 z4;go_wp2;go_roundw
    case rel=>exact ⟨i + 1,by omega,by go_num,FIN.out _ (by rw [← HY.out]; exact HH.out)⟩
    case measure=>simp [intOf]; omega
  ·have hfin:∃ bb',OFrame (fun c=>P c ∨ New w wr c) wr (.slice (some ⟨bo,0,none⟩) d.occ.length q1) (.slice a4 d.points.length q2) (.slice a3 d.ways.length q3) (zbu ways d) bo bp bw bb' ∧ But (fun c=>¬ P c) w wr:=by
    obtain ⟨bb',hf',hb'⟩:=hset.end HLEN.out (by omega);exact ⟨bb',hf'.bound fun c hc hl=>hc.imp id fun z=>⟨by have:=HZ.out; omega,hl⟩,(But.of_calls HT0.out.below).trans hb'⟩
   have HFI:=zaa hfin;clear hfin hset;go_wp2;exact bodyPost_end (v:=.tuple #[]) (by simp [results,Tryz.results147,go_sem]) rfl ⟨rfl,HFI.out⟩
end Go.Proofs.YtdhinkgjiapigabGreatDoor
namespace Go.Proofs.YtdhinkgjiapigabGreatDoor
open Go.RowKit Go.Deep
open Classical
def MapR (g:HeldD → HeldD) (P:Nat → Prop) (W0:World) (v1 v2 v3:Value) (d:FrameD) (bo bp bw:Nat) (i:Nat) (W:World):Prop:=
 ∃ (cur:List HeldD) (bb:Nat → Nat),cur.length = d.ways.length ∧ (∀ (j:Nat) h,j < i → d.ways[j]? = some h → cur[j]? = some (g h)) ∧ (∀ j:Nat,i ≤ j → cur[j]? = d.ways[j]?) ∧
  OFrame (fun c=>P c ∨ W0.heap.size ≤ c) W v1 v2 v3 { d with ways:=cur } bo bp bw bb ∧ But (fun c=>¬ P c) W0 W
theorem MapR.next {g:HeldD → HeldD} {P:Nat → Prop} {W0:World} {v1 v2 v3:Value} {d:FrameD} {bo bp bw:Nat} {i:Nat} {W W':World} {cur:List HeldD} {bb:Nat → Nat} {h:HeldD} {f:Nat → Value} {N:Nat}
  (hl:cur.length = d.ways.length) (h1:∀ (j:Nat) h,j < i → d.ways[j]? = some h → cur[j]? = some (g h)) (h2:∀ j:Nat,i ≤ j → cur[j]? = d.ways[j]?)
  (hf:OFrame (fun c=>P c ∨ W0.heap.size ≤ c) W v1 v2 v3 { d with ways:=cur } bo bp bw bb) (hb:But (fun c=>¬ P c) W0 W) (hh:d.ways[i]? = some h)
  (hr:W.rowIs bw 93 N f) (hs:HeldStep W W' bw N i f (bb i) (g h)):MapR g P W0 v1 v2 v3 d bo bp bw (i + 1) W':=by
 have hi:=(List.getElem?_eq_some_iff.1 hh).1
 obtain ⟨bb',hf',e⟩:=hf.step (Q:=fun c=>P c ∨ W0.heap.size ≤ c) (i:=i) (by show i < cur.length; omega) (x:=g h) (w':=W')
  (fun f' N' hr' _ _=>hs.from hr hr') (fun _ q=>q) (fun c q _=>.inr (Nat.le_trans hb.size q))
 refine ⟨cur.set i (g h),bb',by rw [List.length_set]; exact hl,fun j y hj hy=>?_,fun j hj=>?_,hf',?_⟩
 ·by_cases e2:j = i
  ·subst e2;rw [hh] at hy
   cases hy
   rw [List.getElem?_set_self (by omega)]
  ·rw [List.getElem?_set_ne (Ne.symm e2)];exact h1 j y (by omega) hy
 ·rw [List.getElem?_set_ne (by omega)];exact h2 j (by omega)
 ·refine ⟨e.os.trans hb.os,e.tape.trans hb.tape,e.output.trans hb.output,Nat.le_trans hb.size e.size,fun c hc hk=>?_⟩;refine (e.block c (Nat.lt_of_lt_of_le hc hb.size) ⟨fun q=>?_,fun q=>?_⟩).trans (hb.block c hc hk)
  ·rcases hf.pw (by show cur.length ≠ 0; omega) with z | z
   ·exact hk (q ▸ z)
   ·omega
  ·rcases hf.pb i (by show i < cur.length; omega) with z | z
   ·exact hk (q ▸ z)
   ·omega
theorem MapR.stay {g:HeldD → HeldD} {P:Nat → Prop} {W0:World} {v1 v2 v3:Value} {d:FrameD} {bo bp bw:Nat} {i:Nat} {W W':World} {cur:List HeldD} {bb:Nat → Nat} {h:HeldD}
  (hl:cur.length = d.ways.length) (h1:∀ (j:Nat) h,j < i → d.ways[j]? = some h → cur[j]? = some (g h)) (h2:∀ j:Nat,i ≤ j → cur[j]? = d.ways[j]?)
  (hf:OFrame (fun c=>P c ∨ W0.heap.size ≤ c) W v1 v2 v3 { d with ways:=cur } bo bp bw bb) (hb:But (fun c=>¬ P c) W0 W) (hh:d.ways[i]? = some h) (hg:g h = h) (hB:Below W.heap.size W W'):MapR g P W0 v1 v2 v3 d bo bp bw (i + 1) W':=by
 refine ⟨cur,bb,hl,fun j y hj hy=>?_,fun j hj=>h2 j (by omega),hf.but (K:=fun _=>True) (But.of_calls hB) (fun _ _=>trivial) fun _ z=>z,hb.call hB⟩;by_cases e2:j = i
 ·subst e2;rw [hh] at hy
  cases hy
  rw [h2 j (Nat.le_refl _),hh,hg]
 ·exact h1 j y (by omega) hy
theorem MapR.end {g:HeldD → HeldD} {P:Nat → Prop} {W0:World} {v1 v2 v3:Value} {d:FrameD} {bo bp bw:Nat} {n:Nat} {W:World} (h:MapR g P W0 v1 v2 v3 d bo bp bw n W) (hn:n = d.ways.length) :
  ∃ bb,OFrame (fun c=>P c ∨ W0.heap.size ≤ c) W v1 v2 v3 { d with ways:=d.ways.map g } bo bp bw bb ∧ But (fun c=>¬ P c) W0 W:=by
 obtain ⟨cur,bb,h0,h1,-,hf,hb⟩:=h
 have:cur = d.ways.map g:=by
  apply List.ext_getElem?;intro j;rw [List.getElem?_map];by_cases hj:j < d.ways.length
  ·obtain ⟨x,hx⟩:=zkd d.ways hj;rw [h1 j x (by omega) hx,hx]; rfl
  ·rw [List.getElem?_eq_none (by omega),List.getElem?_eq_none (by omega)]; rfl
 rw [this] at hf;exact ⟨bb,hf,hb⟩
def zhm (t:Int):StD:=if t ≤ 1 then .idle else .taking (t - 1)
set_option maxHeartbeats 1000000 in
theorem znl (t:Int) (w:World) (ht:1 ≤ t) (ht2:t ≤ 1048576):Calls Tryz.prog 226 #[.agg #[.int .i64 t]] w fun e w'=>e = .returned (stV (zhm t)) ∧ Below w.heap.size w w':=by
 have BW:=zab w (.cells #[.int .i64 t] 258);go_enter Tryz.func226,Tryz.ntmps226;by_cases h:t ≤ 1
 ·have HE:=zaa (show zhm t = .idle by unfold zhm; rw [if_pos h]);go_wp2;go_ret;exact ⟨by rw [HE.out]; rfl,BW⟩
 ·have HE:=zaa (show zhm t = .taking (t - 1) by unfold zhm; rw [if_neg h]);have h':¬ t ≤ 1:=h;go_wp2;go_ret;exact ⟨by rw [HE.out]; rfl,BW⟩
end Go.Proofs.YtdhinkgjiapigabGreatDoor

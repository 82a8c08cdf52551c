import Derived.Test.YtdhinkgjiapigabGreatDoorDoL1
import Derived.Test.YtdhinkgjiapigabGreatDoorSzA
import Derived.Test.YtdhinkgjiapigabGreatDoorToC
import Derived.Test.YtdhinkgjiapigabGreatDoorEqG
import Derived.Test.YtdhinkgjiapigabGreatDoorMarkA
import Derived.Test.YtdhinkgjiapigabGreatDoorDoI4
import Derived.Deep.RegionWith
import Derived.Deep.DeepCutAuto
namespace Go.Proofs.YtdhinkgjiapigabGreatDoor
open Go.RowKit Go.Deep
open Classical
def Rows (rs:List (Nat × TypeId × Array Value)) (W:World):Prop:=∀ r ∈ rs,W.rowIs r.1 r.2.1 r.2.2.size (fun i=>r.2.2[i]!)
theorem Rows.but {rs:List (Nat × TypeId × Array Value)} {W W':World} {K:Nat → Prop} (h:Rows rs W) (hB:But K W W') (hk:∀ r ∈ rs,K r.1):Rows rs W':=fun r hr=>hB.row (h r hr) (hk r hr)
theorem Rows.call {rs:List (Nat × TypeId × Array Value)} {W W':World} (h:Rows rs W) (hB:Below W.heap.size W W'):Rows rs W':=h.but (K:=fun _=>True) (But.of_calls hB) fun _ _=>trivial
theorem Rows.snoc {rs:List (Nat × TypeId × Array Value)} {W:World} (h:Rows rs W) {b:Nat} {t:TypeId} {c:Array Value} (hr:W.rowIs b t c.size (fun i=>c[i]!)):Rows (rs ++ [(b,t,c)]) W:=fun r hm=>by
 rcases List.mem_append.1 hm with z | z
 ·exact h r z
 ·obtain rfl:=List.mem_singleton.1 z
  exact hr
theorem Rows.cell {rs:List (Nat × TypeId × Array Value)} {W:World} (h:Rows rs W) {j b i:Nat} {t:TypeId} {c:Array Value} {v:Value} (hj:rs[j]? = some (b,t,c)) (hi:c[i]? = some v):W.cell? ⟨b,i,none⟩ = some v:=by
 have hr:=h _ (List.mem_of_getElem? hj)
 obtain ⟨hl,e⟩:=Array.getElem?_eq_some_iff.1 hi
 rw [hr.cell (i:=i) hl]
 show some c[i]! = some v
 rw [getElem!_pos c i hl,e]
theorem Rows.cells3 {rs:List (Nat × TypeId × Array Value)} {W:World} (h:Rows rs W) {j b:Nat} {t:TypeId} {x0 x1 x2:Value} (hj:rs[j]? = some (b,t,#[x0,x1,x2])):W.cell? ⟨b,0,none⟩ = some x0 ∧ W.cell? ⟨b,1,none⟩ = some x1 ∧ W.cell? ⟨b,2,none⟩ = some x2:=⟨h.cell hj rfl,h.cell hj rfl,h.cell hj rfl⟩
theorem Rows.cells4 {rs:List (Nat × TypeId × Array Value)} {W:World} (h:Rows rs W) {j b:Nat} {t:TypeId} {x0 x1 x2 x3:Value} (hj:rs[j]? = some (b,t,#[x0,x1,x2,x3])):W.cell? ⟨b,0,none⟩ = some x0 ∧ W.cell? ⟨b,1,none⟩ = some x1 ∧ W.cell? ⟨b,2,none⟩ = some x2 ∧ W.cell? ⟨b,3,none⟩ = some x3:=⟨h.cell hj rfl,h.cell hj rfl,h.cell hj rfl,h.cell hj rfl⟩
theorem Rows.cells5 {rs:List (Nat × TypeId × Array Value)} {W:World} (h:Rows rs W) {j b:Nat} {t:TypeId} {x0 x1 x2 x3 x4:Value} (hj:rs[j]? = some (b,t,#[x0,x1,x2,x3,x4])):W.cell? ⟨b,0,none⟩ = some x0 ∧ W.cell? ⟨b,1,none⟩ = some x1 ∧ W.cell? ⟨b,2,none⟩ = some x2 ∧ W.cell? ⟨b,3,none⟩ = some x3 ∧ W.cell? ⟨b,4,none⟩ = some x4:=⟨h.cell hj rfl,h.cell hj rfl,h.cell hj rfl,h.cell hj rfl,h.cell hj rfl⟩
theorem row5d {W:World} {b t:Nat} {f:Nat → Value} (h:W.rowIs b t 5 f):W.cell? ⟨b,0,none⟩ = some (f 0) ∧ W.cell? ⟨b,1,none⟩ = some (f 1) ∧ W.cell? ⟨b,2,none⟩ = some (f 2) ∧ W.cell? ⟨b,3,none⟩ = some (f 3) ∧ W.cell? ⟨b,4,none⟩ = some (f 4) ∧ W.frozen? ⟨b,0,none⟩ = false ∧ W.frozen? ⟨b,1,none⟩ = false ∧ W.frozen? ⟨b,2,none⟩ = false ∧ W.frozen? ⟨b,3,none⟩ = false ∧ W.frozen? ⟨b,4,none⟩ = false:=
 ⟨h.cell (i:=0) (by omega),h.cell (i:=1) (by omega),h.cell (i:=2) (by omega),h.cell (i:=3) (by omega),h.cell (i:=4) (by omega),h.frozen 0,h.frozen 1,h.frozen 2,h.frozen 3,h.frozen 4⟩
theorem At.s3 {l:List Oper} {i:Nat} {o p q r:Oper} (h:At l i o):At (p :: q :: r :: l) (i + 3) o:=h
theorem new_done {b W:World} (hD:Below b.heap.size b W):∃ W' bn,W.alloc (.cells #[.int .i64 0,.bool false,.slice none 0 0,.slice none 0 0,.slice none 0 0] 50) = W' ∧ W.heap.size = bn ∧ Below W.heap.size W W' ∧ Below b.heap.size b W' ∧ Hid (W'.rowIs bn 50 5 (fun i=>(#[.int .i64 0,.bool false,.slice none 0 0,.slice none 0 0,.slice none 0 0]:Array Value)[i]!)) ∧ b.heap.size ≤ bn:=
 have hb:=below_new W (.cells #[.int .i64 0,.bool false,.slice none 0 0,.slice none 0 0,.slice none 0 0] 50)
 ⟨_,_,rfl,rfl,hb,hD.trans (hb.mono hD.size),hide (rowIs_new W 50 #[.int .i64 0,.bool false,.slice none 0 0,.slice none 0 0,.slice none 0 0]),hD.size⟩
theorem toPlan_on {b W:World} (hD:Below b.heap.size b W) {v1 v2 v3:Value} {p:PlanD} (hp:PlanAt (In W) W v1 v2 v3 p) (hs:p.Small 1048576):Calls Tryz.prog 16 #[.agg #[.int .i64 p.sections,v1,v2,v3,.int .i64 p.hold]] W fun e w'=>∃ u1 u2 u3,e = .returned (.agg #[.int .i64 p.sections,u1,u2,u3,.int .i64 p.hold]) ∧ Below W.heap.size W w' ∧ Below b.heap.size b w' ∧ Hid (PlanAt (In w') w' u1 u2 u3 p) ∧ Hid (WaysC (In w') w' u2 p.ways):=by
 refine (toPlanC_any p.sections p.hold v1 v2 v3 p W hp hs).mono ?_
 rintro e w' ⟨u1,u2,u3,rfl,hb,hu,huc⟩
 exact ⟨u1,u2,u3,rfl,hb,hD.trans (hb.mono hD.size),hu.keep (same_refl _ _) fun b hb=>hb.2.1,huc.keep (same_refl _ _) fun b hb=>hb.2.1⟩
theorem toFrame_on {b W:World} (hD:Below b.heap.size b W) {v1 v2 v3:Value} {d:FrameD} (hf:FrameAt (In W) W v1 v2 v3 d) (hs:d.Small 1048576):Calls Tryz.prog 17 #[.agg #[.bool d.ok,v1,v2,v3]] W fun e w'=>∃ u1 u2 u3,e = .returned (.agg #[.bool d.ok,u1,u2,u3]) ∧ Below W.heap.size W w' ∧ Below b.heap.size b w' ∧ Hid (FrameAt (In w') w' u1 u2 u3 d):=by
 refine (toFrame_any _ v1 v2 v3 d W hf hs).mono ?_
 rintro e w' ⟨u1,u2,u3,rfl,hb,hu⟩
 exact ⟨u1,u2,u3,rfl,hb,hD.trans (hb.mono hD.size),hu.keep (same_refl _ _) fun b hb=>hb.2.1⟩
theorem toEvent_on {b W:World} (hD:Below b.heap.size b W) (op of lie:Int):Calls Tryz.prog 22 #[.agg #[.int .i64 op,.int .i64 of,.int .i64 lie]] W fun e w'=>e = .returned (.agg #[.int .i64 op,.int .i64 of,.int .i64 lie]) ∧ Below W.heap.size W w' ∧ Below b.heap.size b w':=by
 refine (toEvent_do op of lie W).mono ?_
 rintro e w' ⟨rfl,hb⟩
 exact ⟨rfl,hb,hD.trans (hb.mono hD.size)⟩
theorem done_res {b W w':World} {C:Int} {D:FrameD} {x1 x2 x3:Value} {e:Ending} {B0:Nat} (hD:Below b.heap.size b W) (h3:e = .returned (.agg #[.int .i64 C,.bool D.ok,x1,x2,x3])) (h4:Below W.heap.size W w') (h5:FrameM B0 w' x1 x2 x3 D) (hB:W.heap.size ≤ B0) :
  ∃ a1 c1 a2 c2 a3 c3,e = .returned (.agg #[.int .i64 C,.bool D.ok,.slice a1 D.occ.length c1,.slice a2 D.points.length c2,.slice a3 D.ways.length c3]) ∧ Below W.heap.size W w' ∧ Below b.heap.size b w' ∧ Hid (FrameM b.heap.size w' (.slice a1 D.occ.length c1) (.slice a2 D.points.length c2) (.slice a3 D.ways.length c3) D):=by
 obtain ⟨a1,c1,a2,c2,a3,c3,rfl,rfl,rfl⟩:=h5.slices
 exact ⟨a1,c1,a2,c2,a3,c3,h3,h4,hD.trans (h4.mono hD.size),h5.but (But.refl _ _) (Nat.le_trans hD.size hB)⟩
theorem done_laid {w W:World} {bn:Nat} {f:Nat → Value} {c:Int} {ok:Bool} {D:FrameD} {a1 a2 a3:Option Addr} {c1 c2 c3:Nat} (hD:Below w.heap.size w W) (hM:FrameM w.heap.size W (.slice a1 D.occ.length c1) (.slice a2 D.points.length c2) (.slice a3 D.ways.length c3) D) (hN:W.rowIs bn 50 5 f) (hbn:w.heap.size ≤ bn) :
  Below w.heap.size w (((((W.setCell ⟨bn,0,none⟩ (.int .i64 c)).setCell ⟨bn,1,none⟩ (.bool ok)).setCell ⟨bn,2,none⟩ (.slice a1 D.occ.length c1)).setCell ⟨bn,3,none⟩ (.slice a2 D.points.length c2)).setCell ⟨bn,4,none⟩ (.slice a3 D.ways.length c3)) ∧
  (((((W.setCell ⟨bn,0,none⟩ (.int .i64 c)).setCell ⟨bn,1,none⟩ (.bool ok)).setCell ⟨bn,2,none⟩ (.slice a1 D.occ.length c1)).setCell ⟨bn,3,none⟩ (.slice a2 D.points.length c2)).setCell ⟨bn,4,none⟩ (.slice a3 D.ways.length c3)).rowIs bn 50 5 (fun i=>(#[.int .i64 c,.bool ok,.slice a1 D.occ.length c1,.slice a2 D.points.length c2,.slice a3 D.ways.length c3]:Array Value)[i]!) ∧
  FrameP (fun c=>w.heap.size ≤ c ∧ c ≠ bn) (((((W.setCell ⟨bn,0,none⟩ (.int .i64 c)).setCell ⟨bn,1,none⟩ (.bool ok)).setCell ⟨bn,2,none⟩ (.slice a1 D.occ.length c1)).setCell ⟨bn,3,none⟩ (.slice a2 D.points.length c2)).setCell ⟨bn,4,none⟩ (.slice a3 D.ways.length c3)) (.slice a1 D.occ.length c1) (.slice a2 D.points.length c2) (.slice a3 D.ways.length c3) D:=by
 have hj:∀ o:Nat,¬ ((fun c=>c ≠ bn) (⟨bn,o,none⟩:Addr).block):=fun o z=>z rfl
 have hB:=((((((But.refl (fun c=>c ≠ bn) W).setCell (hj 0) (.int .i64 c)).setCell (hj 1) (.bool ok)).setCell (hj 2) (.slice a1 D.occ.length c1)).setCell (hj 3) (.slice a2 D.points.length c2)).setCell (hj 4) (.slice a3 D.ways.length c3))
 refine ⟨hD.trans (hB.below hD.size fun c hc=>by omega),?_,(hM.off hN (by decide) (by decide) (by decide)).but hB (fun _ z=>z.2) fun _ z=>z⟩
 refine (((((hN.set 0 _).set 1 _).set 2 _).set 3 _).set 4 _).congr fun i hi=>?_
 rcases i with _ | _ | _ | _ | _ | i
 ·rfl
 ·rfl
 ·rfl
 ·rfl
 ·rfl
 ·omega
set_option maxRecDepth 100000 in
set_option maxHeartbeats 40000000 in
theorem lawD_any (v1 v2 v3 f1 f2 f3:Value) (p:PlanD) (d:FrameD) (op of lie:Int) (w:World) (hp:PlanAt (In w) w v1 v2 v3 p) (hf:FrameAt (In w) w f1 f2 f3 d) (hs:p.Small 9223372036854775807) (hfs:d.Small 9223372036854775807) (hg:w.cell? ⟨1,0,none⟩ = some errT) :
  Calls Tryz.prog 4 #[.agg #[.int .i64 p.sections,v1,v2,v3,.int .i64 p.hold],.agg #[.bool d.ok,f1,f2,f3],.agg #[.int .i64 op,.int .i64 of,.int .i64 lie]] w fun e w'=>e = .returned (.bool true) ∧ Below w.heap.size w w':=by
 have T0:=boxes3 w 26 31 48 #[.int .i64 p.sections,v1,v2,v3,.int .i64 p.hold] #[.bool d.ok,f1,f2,f3] #[.int .i64 op,.int .i64 of,.int .i64 lie]
 have KP:=hide fun (W:World) (h:Below w.heap.size w W)=>hp.keep (Q:=In W) (In.keep h).1 (In.keep h).2
 have KF:=hide fun (W:World) (h:Below w.heap.size w W)=>hf.keep (Q:=In W) (In.keep h).1 (In.keep h).2
 have HG:=hide hg
 clear hp hf hg
 go_enter Tryz.func4,Tryz.ntmps4
 go_wp2_with fail
 refine (szPlan_any p.sections p.hold v1 v2 v3 p 1048576 _ (KP.out _ T0.below) hs (by omega) (by omega)).mono ?_
 rintro e w1 ⟨r,rfl,hb,hr | ⟨pr,pr2,sm⟩⟩
 ·subst hr
  have T1:=T0.call hb
  go_wp2
  go_ret
  exact ⟨rfl,T1.below⟩
 have SM:=hide sm
 have T1:=T0.call hb
 clear sm hs T0 hb
 have e0:=T1.cell (j:=1) (i:=0) rfl rfl
 have e1:=T1.cell (j:=1) (i:=1) rfl rfl
 have e2:=T1.cell (j:=1) (i:=2) rfl rfl
 have e3:=T1.cell (j:=1) (i:=3) rfl rfl
 go_wp2_with fail
 refine (szFrame_any _ f1 f2 f3 d r _ (KF.out _ T1.below) hfs pr (by omega)).mono ?_
 clear e0 e1 e2 e3
 rintro e w2 ⟨r2,rfl,hb,hr | ⟨pr3,-,sm⟩⟩
 ·subst hr
  have T2:=T1.call hb
  go_wp2
  go_ret
  exact ⟨rfl,T2.below⟩
 have SF:=hide sm
 have T2:=T1.call hb
 clear sm hfs T1 hb
 obtain ⟨C,D,hCD⟩:∃ C D,doOf p d op of lie = (C,D):=⟨_,_,rfl⟩
 have SD:=hide (show D.Small 1048576 by have:=do_small p d op of lie; rw [hCD] at this; exact this)
 have hsp:∀ (b W:World) (u1 u2 u3 g1 g2 g3:Value),Below b.heap.size b W → PlanAt (In W) W u1 u2 u3 p → FrameAt (In W) W g1 g2 g3 d → Calls Tryz.prog 21 #[.agg #[.int .i64 p.sections,u1,u2,u3,.int .i64 p.hold],.agg #[.bool d.ok,g1,g2,g3],.agg #[.int .i64 op,.int .i64 of,.int .i64 lie]] W fun e w'=>∃ a1 c1 a2 c2 a3 c3,e = .returned (.agg #[.int .i64 C,.bool D.ok,.slice a1 D.occ.length c1,.slice a2 D.points.length c2,.slice a3 D.ways.length c3]) ∧ Below W.heap.size W w' ∧ Below b.heap.size b w' ∧ Hid (FrameM b.heap.size w' (.slice a1 D.occ.length c1) (.slice a2 D.points.length c2) (.slice a3 D.ways.length c3) D):=fun b W u1 u2 u3 g1 g2 g3 hD h1 h2=>by
  have h:=specDo_any u1 u2 u3 g1 g2 g3 p d op of lie W h1 h2 SM.out SF.out
  rw [hCD] at h
  refine h.mono ?_
  rintro e w' ⟨x1,x2,x3,h3,h4,h5⟩
  exact done_res hD h3 h4 h5 (by omega)
 have hip:∀ (b W:World) (u1 u2 u3 g1 g2 g3:Value),Below b.heap.size b W → PlanAt (In W) W u1 u2 u3 p → WaysC (In W) W u2 p.ways → FrameAt (In W) W g1 g2 g3 d → Below w.heap.size w W → Calls Tryz.prog 23 #[.agg #[.int .i64 p.sections,u1,u2,u3,.int .i64 p.hold],.agg #[.bool d.ok,g1,g2,g3],.agg #[.int .i64 op,.int .i64 of,.int .i64 lie]] W fun e w'=>∃ a1 c1 a2 c2 a3 c3,e = .returned (.agg #[.int .i64 C,.bool D.ok,.slice a1 D.occ.length c1,.slice a2 D.points.length c2,.slice a3 D.ways.length c3]) ∧ Below W.heap.size W w' ∧ Below b.heap.size b w' ∧ Hid (FrameM b.heap.size w' (.slice a1 D.occ.length c1) (.slice a2 D.points.length c2) (.slice a3 D.ways.length c3) D):=fun b W u1 u2 u3 g1 g2 g3 hD h1 h2 h3 h4=>by
  have h:=implDo_any u1 u2 u3 g1 g2 g3 p d op of lie W h1 h2 h3 SM.out SF.out (ck HG.out h4)
  rw [hCD] at h
  refine h.mono ?_
  rintro e w' ⟨x1,x2,x3,h3,h4,h5⟩
  exact done_res hD h3 h4 h5 (Nat.le_refl _)
 have HSP:=hide hsp
 have HIP:=hide hip
 clear hsp hip hCD
 have R2:Rows [(w.heap.size,26,#[.int .i64 p.sections,v1,v2,v3,.int .i64 p.hold]),(w.heap.size + 1,31,#[.bool d.ok,f1,f2,f3]),(w.heap.size + 2,48,#[.int .i64 op,.int .i64 of,.int .i64 lie])] w2:=fun r hr=>by
  simp only [List.mem_cons,List.not_mem_nil,or_false] at hr
  rcases hr with rfl | rfl | rfl
  ·exact T2.row 0 _ _ rfl
  ·exact T2.row 1 _ _ rfl
  ·exact T2.row 2 _ _ rfl
 have hz2:w.heap.size + 2 < w2.heap.size:=T2.lt (j:=2) rfl
 have HBB:=hide T2.below
 clear T2
 go_upto_region 8 with fail
 have hks:∀ W,Below w2.heap.size w2 W → Below w2.heap.size w2 W ∧ W.cell? ⟨w.heap.size,0,none⟩ = some (.int .i64 p.sections) ∧ W.cell? ⟨w.heap.size,1,none⟩ = some (v1) ∧ W.cell? ⟨w.heap.size,2,none⟩ = some (v2) ∧ W.cell? ⟨w.heap.size,3,none⟩ = some (v3) ∧ W.cell? ⟨w.heap.size,4,none⟩ = some (.int .i64 p.hold) ∧ W.cell? ⟨w.heap.size + 1,0,none⟩ = some (.bool d.ok) ∧ W.cell? ⟨w.heap.size + 1,1,none⟩ = some (f1) ∧ W.cell? ⟨w.heap.size + 1,2,none⟩ = some (f2) ∧ W.cell? ⟨w.heap.size + 1,3,none⟩ = some (f3) ∧ W.cell? ⟨w.heap.size + 2,0,none⟩ = some (.int .i64 op) ∧ W.cell? ⟨w.heap.size + 2,1,none⟩ = some (.int .i64 of) ∧ W.cell? ⟨w.heap.size + 2,2,none⟩ = some (.int .i64 lie):=fun W hW=>⟨hW,(R2.call hW).cell (j:=0) (i:=0) rfl rfl,(R2.call hW).cell (j:=0) (i:=1) rfl rfl,(R2.call hW).cell (j:=0) (i:=2) rfl rfl,(R2.call hW).cell (j:=0) (i:=3) rfl rfl,(R2.call hW).cell (j:=0) (i:=4) rfl rfl,(R2.call hW).cell (j:=1) (i:=0) rfl rfl,(R2.call hW).cell (j:=1) (i:=1) rfl rfl,(R2.call hW).cell (j:=1) (i:=2) rfl rfl,(R2.call hW).cell (j:=1) (i:=3) rfl rfl,(R2.call hW).cell (j:=2) (i:=0) rfl rfl,(R2.call hW).cell (j:=2) (i:=1) rfl rfl,(R2.call hW).cell (j:=2) (i:=2) rfl rfl⟩
 have KS:=hide hks
 clear hks
 go_cut [8] (fun v wc=>∃ bn r1 rc1 r2 rc2 r3 rc3,v = .pointer (some ⟨bn,0,none⟩) ∧ w2.heap.size ≤ bn ∧ Below w2.heap.size w2 wc ∧ wc.rowIs bn 50 5 (fun i=>(#[.int .i64 C,.bool D.ok,.slice r1 D.occ.length rc1,.slice r2 D.points.length rc2,.slice r3 D.ways.length rc3]:Array Value)[i]!) ∧ FrameP (fun c=>w2.heap.size ≤ c ∧ c ≠ bn) wc (.slice r1 D.occ.length rc1) (.slice r2 D.points.length rc2) (.slice r3 D.ways.length rc3) D)
 case first=>
  refine beginL (S:=fun W=>Below w2.heap.size w2 W ∧ W.cell? ⟨w.heap.size,0,none⟩ = some (.int .i64 p.sections) ∧ W.cell? ⟨w.heap.size,1,none⟩ = some (v1) ∧ W.cell? ⟨w.heap.size,2,none⟩ = some (v2) ∧ W.cell? ⟨w.heap.size,3,none⟩ = some (v3) ∧ W.cell? ⟨w.heap.size,4,none⟩ = some (.int .i64 p.hold) ∧ W.cell? ⟨w.heap.size + 1,0,none⟩ = some (.bool d.ok) ∧ W.cell? ⟨w.heap.size + 1,1,none⟩ = some (f1) ∧ W.cell? ⟨w.heap.size + 1,2,none⟩ = some (f2) ∧ W.cell? ⟨w.heap.size + 1,3,none⟩ = some (f3) ∧ W.cell? ⟨w.heap.size + 2,0,none⟩ = some (.int .i64 op) ∧ W.cell? ⟨w.heap.size + 2,1,none⟩ = some (.int .i64 of) ∧ W.cell? ⟨w.heap.size + 2,2,none⟩ = some (.int .i64 lie)) 8 (by kernel_rfl) (KS.out _ (below_drew _)) (fun hS=>?_)
  have hD:=hS.1
  obtain ⟨wA0,hwA⟩:∃ W,W = w2.drew:=⟨_,rfl⟩
  rw [← hwA] at hS hD ⊢
  clear hwA
  refine takeL (i:=0) (v:=?vv0x1) (At.z) (by kernel_rfl) (by kernel_rfl) (by kernel_rfl) (by kernel_rfl) (fun _ _ _ h=>h) rfl ?hy0x1 hS ?rest0x1
  case hy0x1=>(intro w' hSw; (try dsimp only at hSw); go_simp; try with_reducible rfl)
  try simp only [Act.put,List.setIfInBounds_toArray,List.set_cons_zero,List.set_cons_succ]
  refine takeL (i:=2) (v:=?vv2x2) (At.s (At.s At.z)) (by kernel_rfl) (by kernel_rfl) (by kernel_rfl) (by kernel_rfl) (fun _ _ _ h=>h) rfl ?hy2x2 hS ?rest2x2
  case hy2x2=>(intro w' hSw; (try dsimp only at hSw); go_simp; try with_reducible rfl)
  try simp only [Act.put,List.setIfInBounds_toArray,List.set_cons_zero,List.set_cons_succ]
  refine takeL (i:=4) (v:=?vv4x3) (At.s3 (At.s At.z)) (by kernel_rfl) (by kernel_rfl) (by kernel_rfl) (by kernel_rfl) (fun _ _ _ h=>h) rfl ?hy4x3 hS ?rest4x3
  case hy4x3=>(intro w' hSw; (try dsimp only at hSw); go_simp; try with_reducible rfl)
  try simp only [Act.put,List.setIfInBounds_toArray,List.set_cons_zero,List.set_cons_succ]
  clear hS
  refine pairL (i:=1) (j:=7) (At.s At.z) (At.s3 (At.s3 (At.s At.z))) (by kernel_rfl) (fun K hK=>?_) (fun K hK=>?_)
  ·go_simp
   refine (toPlan_on hD (KP.out _ (HBB.out.trans (hD.mono HBB.out.size))) SM.out).mono ?_
   rintro e wA1 ⟨u1,u2,u3,rfl,hb,hE,HP,HPC⟩
   refine hK.out _ _ (KS.out _ hE) ?_
   clear hK K hD hb
   clear wA0
   try simp only [Act.put,List.setIfInBounds_toArray,List.set_cons_zero,List.set_cons_succ]
   have hD:=hE
   clear hE
   refine pairL (i:=3) (j:=7) (At.s3 At.z) (At.s3 (At.s3 (At.s At.z))) (by kernel_rfl) (fun K hK=>?_) (fun K hK=>?_)
   ·go_simp
    refine (toFrame_on hD (KF.out _ (HBB.out.trans (hD.mono HBB.out.size))) SF.out).mono ?_
    rintro e wA2 ⟨g1,g2,g3,rfl,hb,hE,HFF⟩
    replace HP:=hide (HP.out.keep (In.keep hb).1 (In.keep hb).2)
    replace HPC:=hide (HPC.out.keep (In.keep hb).1 (In.keep hb).2)
    refine hK.out _ _ (KS.out _ hE) ?_
    clear hK K hD hb
    clear wA1
    try simp only [Act.put,List.setIfInBounds_toArray,List.set_cons_zero,List.set_cons_succ]
    have hD:=hE
    clear hE
    refine pairL (i:=5) (j:=7) (At.s3 (At.s (At.s At.z))) (At.s3 (At.s3 (At.s At.z))) (by kernel_rfl) (fun K hK=>?_) (fun K hK=>?_)
    ·go_simp
     refine (toEvent_on hD op of lie).mono ?_
     rintro e wA3 ⟨rfl,hb,hE⟩
     replace HP:=hide (HP.out.keep (In.keep hb).1 (In.keep hb).2)
     replace HPC:=hide (HPC.out.keep (In.keep hb).1 (In.keep hb).2)
     replace HFF:=hide (HFF.out.keep (In.keep hb).1 (In.keep hb).2)
     refine hK.out _ _ (KS.out _ hE) ?_
     clear hK K hD hb
     clear wA2
     try simp only [Act.put,List.setIfInBounds_toArray,List.set_cons_zero,List.set_cons_succ]
     have hD:=hE
     clear hE
     refine pairL (i:=6) (j:=7) (At.s3 (At.s3 At.z)) (At.s3 (At.s3 (At.s At.z))) (by kernel_rfl) (fun K hK=>?_) (fun K hK=>?_)
     ·go_simp
      refine (HSP.out _ _ _ _ _ _ _ _ hD HP.out HFF.out).mono ?_
      rintro e wA4 ⟨r1,rc1,r2,rc2,r3,rc3,rfl,hb,hE,HM⟩
      refine hK.out _ _ (KS.out _ hE) ?_
      clear hK K hD hb HP HPC HFF
      clear wA3
      try simp only [Act.put,List.setIfInBounds_toArray,List.set_cons_zero,List.set_cons_succ]
      have hD:=hE
      clear hE
      refine stepL (i:=7) (At.s3 (At.s3 (At.s At.z))) (by kernel_rfl) (fun K hK=>?_)
      go_simp
      obtain ⟨wA5,bn,e1,e2,hb,hE,HN,hbn⟩:=new_done hD
      rw [e1,e2]
      clear e1 e2
      replace HM:=hide (HM.out.call hb)
      refine hK.out _ _ (KS.out _ hE) ?_
      clear hK K hD hb
      clear wA4
      try simp only [Act.put,List.setIfInBounds_toArray,List.set_cons_zero,List.set_cons_succ]
      have hD:=hE
      clear hE
      obtain ⟨n0,n1,n2,n3,n4,m0,m1,m2,m3,m4⟩:=row5d HN.out
      have HG:=hide (done_laid (c:=C) (ok:=D.ok) hD HM.out HN.out hbn)
      clear HM HN hD
      refine endL (m:=8) (At.s3 (At.s3 (At.s (At.s At.z)))) (by kernel_rfl) (by kernel_rfl) (fun K hK=>?_)
      go_simp
      refine hK.out _ _ ?_
      clear hK K n0 n1 n2 n3 n4 m0 m1 m2 m3 m4
      go_wp2_with fail
      go_meet
      exact ⟨_,_,_,_,_,_,_,rfl,hbn,HG.out⟩
     ·go_simp
      obtain ⟨wA4,bn,e1,e2,hb,hE,HN,hbn⟩:=new_done hD
      rw [e1,e2]
      clear e1 e2
      replace HP:=hide (HP.out.keep (In.keep hb).1 (In.keep hb).2)
      replace HPC:=hide (HPC.out.keep (In.keep hb).1 (In.keep hb).2)
      replace HFF:=hide (HFF.out.keep (In.keep hb).1 (In.keep hb).2)
      refine hK.out _ _ (KS.out _ hE) ?_
      clear hK K hD hb
      clear wA3
      try simp only [Act.put,List.setIfInBounds_toArray,List.set_cons_zero,List.set_cons_succ]
      have hD:=hE
      clear hE
      refine stepL (i:=6) (At.s3 (At.s3 At.z)) (by kernel_rfl) (fun K hK=>?_)
      go_simp
      refine (HSP.out _ _ _ _ _ _ _ _ hD HP.out HFF.out).mono ?_
      rintro e wA5 ⟨r1,rc1,r2,rc2,r3,rc3,rfl,hb,hE,HM⟩
      replace HN:=hide (rowIs_calls HN.out hb)
      refine hK.out _ _ (KS.out _ hE) ?_
      clear hK K hD hb HP HPC HFF
      clear wA4
      try simp only [Act.put,List.setIfInBounds_toArray,List.set_cons_zero,List.set_cons_succ]
      have hD:=hE
      clear hE
      obtain ⟨n0,n1,n2,n3,n4,m0,m1,m2,m3,m4⟩:=row5d HN.out
      have HG:=hide (done_laid (c:=C) (ok:=D.ok) hD HM.out HN.out hbn)
      clear HM HN hD
      refine endL (m:=8) (At.s3 (At.s3 (At.s (At.s At.z)))) (by kernel_rfl) (by kernel_rfl) (fun K hK=>?_)
      go_simp
      refine hK.out _ _ ?_
      clear hK K n0 n1 n2 n3 n4 m0 m1 m2 m3 m4
      go_wp2_with fail
      go_meet
      exact ⟨_,_,_,_,_,_,_,rfl,hbn,HG.out⟩
    ·go_simp
     obtain ⟨wA3,bn,e1,e2,hb,hE,HN,hbn⟩:=new_done hD
     rw [e1,e2]
     clear e1 e2
     replace HP:=hide (HP.out.keep (In.keep hb).1 (In.keep hb).2)
     replace HPC:=hide (HPC.out.keep (In.keep hb).1 (In.keep hb).2)
     replace HFF:=hide (HFF.out.keep (In.keep hb).1 (In.keep hb).2)
     refine hK.out _ _ (KS.out _ hE) ?_
     clear hK K hD hb
     clear wA2
     try simp only [Act.put,List.setIfInBounds_toArray,List.set_cons_zero,List.set_cons_succ]
     have hD:=hE
     clear hE
     refine stepL (i:=5) (At.s3 (At.s (At.s At.z))) (by kernel_rfl) (fun K hK=>?_)
     go_simp
     refine (toEvent_on hD op of lie).mono ?_
     rintro e wA4 ⟨rfl,hb,hE⟩
     replace HP:=hide (HP.out.keep (In.keep hb).1 (In.keep hb).2)
     replace HPC:=hide (HPC.out.keep (In.keep hb).1 (In.keep hb).2)
     replace HFF:=hide (HFF.out.keep (In.keep hb).1 (In.keep hb).2)
     replace HN:=hide (rowIs_calls HN.out hb)
     refine hK.out _ _ (KS.out _ hE) ?_
     clear hK K hD hb
     clear wA3
     try simp only [Act.put,List.setIfInBounds_toArray,List.set_cons_zero,List.set_cons_succ]
     have hD:=hE
     clear hE
     refine stepL (i:=6) (At.s3 (At.s3 At.z)) (by kernel_rfl) (fun K hK=>?_)
     go_simp
     refine (HSP.out _ _ _ _ _ _ _ _ hD HP.out HFF.out).mono ?_
     rintro e wA5 ⟨r1,rc1,r2,rc2,r3,rc3,rfl,hb,hE,HM⟩
     replace HN:=hide (rowIs_calls HN.out hb)
     refine hK.out _ _ (KS.out _ hE) ?_
     clear hK K hD hb HP HPC HFF
     clear wA4
     try simp only [Act.put,List.setIfInBounds_toArray,List.set_cons_zero,List.set_cons_succ]
     have hD:=hE
     clear hE
     obtain ⟨n0,n1,n2,n3,n4,m0,m1,m2,m3,m4⟩:=row5d HN.out
     have HG:=hide (done_laid (c:=C) (ok:=D.ok) hD HM.out HN.out hbn)
     clear HM HN hD
     refine endL (m:=8) (At.s3 (At.s3 (At.s (At.s At.z)))) (by kernel_rfl) (by kernel_rfl) (fun K hK=>?_)
     go_simp
     refine hK.out _ _ ?_
     clear hK K n0 n1 n2 n3 n4 m0 m1 m2 m3 m4
     go_wp2_with fail
     go_meet
     exact ⟨_,_,_,_,_,_,_,rfl,hbn,HG.out⟩
   ·go_simp
    obtain ⟨wA2,bn,e1,e2,hb,hE,HN,hbn⟩:=new_done hD
    rw [e1,e2]
    clear e1 e2
    replace HP:=hide (HP.out.keep (In.keep hb).1 (In.keep hb).2)
    replace HPC:=hide (HPC.out.keep (In.keep hb).1 (In.keep hb).2)
    refine hK.out _ _ (KS.out _ hE) ?_
    clear hK K hD hb
    clear wA1
    try simp only [Act.put,List.setIfInBounds_toArray,List.set_cons_zero,List.set_cons_succ]
    have hD:=hE
    clear hE
    refine stepL (i:=3) (At.s3 At.z) (by kernel_rfl) (fun K hK=>?_)
    go_simp
    refine (toFrame_on hD (KF.out _ (HBB.out.trans (hD.mono HBB.out.size))) SF.out).mono ?_
    rintro e wA3 ⟨g1,g2,g3,rfl,hb,hE,HFF⟩
    replace HP:=hide (HP.out.keep (In.keep hb).1 (In.keep hb).2)
    replace HPC:=hide (HPC.out.keep (In.keep hb).1 (In.keep hb).2)
    replace HN:=hide (rowIs_calls HN.out hb)
    refine hK.out _ _ (KS.out _ hE) ?_
    clear hK K hD hb
    clear wA2
    try simp only [Act.put,List.setIfInBounds_toArray,List.set_cons_zero,List.set_cons_succ]
    have hD:=hE
    clear hE
    refine stepL (i:=5) (At.s3 (At.s (At.s At.z))) (by kernel_rfl) (fun K hK=>?_)
    go_simp
    refine (toEvent_on hD op of lie).mono ?_
    rintro e wA4 ⟨rfl,hb,hE⟩
    replace HP:=hide (HP.out.keep (In.keep hb).1 (In.keep hb).2)
    replace HPC:=hide (HPC.out.keep (In.keep hb).1 (In.keep hb).2)
    replace HN:=hide (rowIs_calls HN.out hb)
    replace HFF:=hide (HFF.out.keep (In.keep hb).1 (In.keep hb).2)
    refine hK.out _ _ (KS.out _ hE) ?_
    clear hK K hD hb
    clear wA3
    try simp only [Act.put,List.setIfInBounds_toArray,List.set_cons_zero,List.set_cons_succ]
    have hD:=hE
    clear hE
    refine stepL (i:=6) (At.s3 (At.s3 At.z)) (by kernel_rfl) (fun K hK=>?_)
    go_simp
    refine (HSP.out _ _ _ _ _ _ _ _ hD HP.out HFF.out).mono ?_
    rintro e wA5 ⟨r1,rc1,r2,rc2,r3,rc3,rfl,hb,hE,HM⟩
    replace HN:=hide (rowIs_calls HN.out hb)
    refine hK.out _ _ (KS.out _ hE) ?_
    clear hK K hD hb HP HPC HFF
    clear wA4
    try simp only [Act.put,List.setIfInBounds_toArray,List.set_cons_zero,List.set_cons_succ]
    have hD:=hE
    clear hE
    obtain ⟨n0,n1,n2,n3,n4,m0,m1,m2,m3,m4⟩:=row5d HN.out
    have HG:=hide (done_laid (c:=C) (ok:=D.ok) hD HM.out HN.out hbn)
    clear HM HN hD
    refine endL (m:=8) (At.s3 (At.s3 (At.s (At.s At.z)))) (by kernel_rfl) (by kernel_rfl) (fun K hK=>?_)
    go_simp
    refine hK.out _ _ ?_
    clear hK K n0 n1 n2 n3 n4 m0 m1 m2 m3 m4
    go_wp2_with fail
    go_meet
    exact ⟨_,_,_,_,_,_,_,rfl,hbn,HG.out⟩
  ·go_simp
   obtain ⟨wA1,bn,e1,e2,hb,hE,HN,hbn⟩:=new_done hD
   rw [e1,e2]
   clear e1 e2
   refine hK.out _ _ (KS.out _ hE) ?_
   clear hK K hD hb
   clear wA0
   try simp only [Act.put,List.setIfInBounds_toArray,List.set_cons_zero,List.set_cons_succ]
   have hD:=hE
   clear hE
   refine stepL (i:=1) (At.s At.z) (by kernel_rfl) (fun K hK=>?_)
   go_simp
   refine (toPlan_on hD (KP.out _ (HBB.out.trans (hD.mono HBB.out.size))) SM.out).mono ?_
   rintro e wA2 ⟨u1,u2,u3,rfl,hb,hE,HP,HPC⟩
   replace HN:=hide (rowIs_calls HN.out hb)
   refine hK.out _ _ (KS.out _ hE) ?_
   clear hK K hD hb
   clear wA1
   try simp only [Act.put,List.setIfInBounds_toArray,List.set_cons_zero,List.set_cons_succ]
   have hD:=hE
   clear hE
   refine stepL (i:=3) (At.s3 At.z) (by kernel_rfl) (fun K hK=>?_)
   go_simp
   refine (toFrame_on hD (KF.out _ (HBB.out.trans (hD.mono HBB.out.size))) SF.out).mono ?_
   rintro e wA3 ⟨g1,g2,g3,rfl,hb,hE,HFF⟩
   replace HN:=hide (rowIs_calls HN.out hb)
   replace HP:=hide (HP.out.keep (In.keep hb).1 (In.keep hb).2)
   replace HPC:=hide (HPC.out.keep (In.keep hb).1 (In.keep hb).2)
   refine hK.out _ _ (KS.out _ hE) ?_
   clear hK K hD hb
   clear wA2
   try simp only [Act.put,List.setIfInBounds_toArray,List.set_cons_zero,List.set_cons_succ]
   have hD:=hE
   clear hE
   refine stepL (i:=5) (At.s3 (At.s (At.s At.z))) (by kernel_rfl) (fun K hK=>?_)
   go_simp
   refine (toEvent_on hD op of lie).mono ?_
   rintro e wA4 ⟨rfl,hb,hE⟩
   replace HN:=hide (rowIs_calls HN.out hb)
   replace HP:=hide (HP.out.keep (In.keep hb).1 (In.keep hb).2)
   replace HPC:=hide (HPC.out.keep (In.keep hb).1 (In.keep hb).2)
   replace HFF:=hide (HFF.out.keep (In.keep hb).1 (In.keep hb).2)
   refine hK.out _ _ (KS.out _ hE) ?_
   clear hK K hD hb
   clear wA3
   try simp only [Act.put,List.setIfInBounds_toArray,List.set_cons_zero,List.set_cons_succ]
   have hD:=hE
   clear hE
   refine stepL (i:=6) (At.s3 (At.s3 At.z)) (by kernel_rfl) (fun K hK=>?_)
   go_simp
   refine (HSP.out _ _ _ _ _ _ _ _ hD HP.out HFF.out).mono ?_
   rintro e wA5 ⟨r1,rc1,r2,rc2,r3,rc3,rfl,hb,hE,HM⟩
   replace HN:=hide (rowIs_calls HN.out hb)
   refine hK.out _ _ (KS.out _ hE) ?_
   clear hK K hD hb HP HPC HFF
   clear wA4
   try simp only [Act.put,List.setIfInBounds_toArray,List.set_cons_zero,List.set_cons_succ]
   have hD:=hE
   clear hE
   obtain ⟨n0,n1,n2,n3,n4,m0,m1,m2,m3,m4⟩:=row5d HN.out
   have HG:=hide (done_laid (c:=C) (ok:=D.ok) hD HM.out HN.out hbn)
   clear HM HN hD
   refine endL (m:=8) (At.s3 (At.s3 (At.s (At.s At.z)))) (by kernel_rfl) (by kernel_rfl) (fun K hK=>?_)
   go_simp
   refine hK.out _ _ ?_
   clear hK K n0 n1 n2 n3 n4 m0 m1 m2 m3 m4
   go_wp2_with fail
   go_meet
   exact ⟨_,_,_,_,_,_,_,rfl,hbn,HG.out⟩
 case rest=>
  obtain ⟨bd,r1,rc1,r2,rc2,r3,rc3,rfl,hbd,hbZ,hrS,hFS⟩:=hcut
  rename World=>wZ
  have RZ:Rows [(w.heap.size,26,#[.int .i64 p.sections,v1,v2,v3,.int .i64 p.hold]),(w.heap.size + 1,31,#[.bool d.ok,f1,f2,f3]),(w.heap.size + 2,48,#[.int .i64 op,.int .i64 of,.int .i64 lie]),(bd,50,#[.int .i64 C,.bool D.ok,.slice r1 D.occ.length rc1,.slice r2 D.points.length rc2,.slice r3 D.ways.length rc3])] wZ:=(R2.call hbZ).snoc hrS
  have HBZ:=hide (HBB.out.trans (hbZ.mono HBB.out.size))
  have HFS:=hide (hFS.there.read.keep (same_refl _ _) (Q:=In wZ) fun b hb=>hb.2)
  have hzZ:w2.heap.size ≤ wZ.heap.size:=hbZ.size
  have hbd2:bd < wZ.heap.size:=hrS.lt
  clear hbZ hrS hFS R2 KS
  obtain ⟨cP0,cP1,cP2,cP3,cP4⟩:=RZ.cells5 (j:=0) rfl
  go_wp2_with fail
  refine (toPlanC_any p.sections p.hold v1 v2 v3 p _ (KP.out _ HBZ.out) SM.out).mono ?_
  clear cP0 cP1 cP2 cP3 cP4
  rintro e w4 ⟨x1,x2,x3,rfl,hb4,hx,hxc⟩
  have HXF:=hide hx
  have HXC:=hide (hxc.keep (same_refl _ _) (Q:=In w4) fun b hb=>hb.2.1)
  have HX4:=hide (hx.keep (same_refl _ _) (Q:=In w4) fun b hb=>hb.2.1)
  obtain ⟨⟨y1,z1,rfl,-⟩,⟨y2,z2,rfl,-⟩,⟨y3,z3,rfl,-⟩⟩:=id hx
  have hbn4:=below_new w4 (.cells #[.int .i64 p.sections,.slice y1 p.switches.length z1,.slice y2 p.ways.length z2,.slice y3 p.bars.length z3,.int .i64 p.hold] 37)
  have hrn4:=rowIs_new w4 37 #[.int .i64 p.sections,.slice y1 p.switches.length z1,.slice y2 p.ways.length z2,.slice y3 p.bars.length z3,.int .i64 p.hold]
  have hz4:=hb4.size
  have hb5:=hb4.trans (hbn4.mono hb4.size)
  have R5a:=(RZ.call hb4).call hbn4
  have HB5:=hide (HBZ.out.trans (hb5.mono HBZ.out.size))
  have HBZ5:=hide hb5
  have hzW5:(w4.alloc (.cells #[.int .i64 p.sections,.slice y1 p.switches.length z1,.slice y2 p.ways.length z2,.slice y3 p.bars.length z3,.int .i64 p.hold] 37)).heap.size = w4.heap.size + 1:=by simp
  have HBN4:=hide hbn4
  have R5:Rows [(w.heap.size,26,#[.int .i64 p.sections,v1,v2,v3,.int .i64 p.hold]),(w.heap.size + 1,31,#[.bool d.ok,f1,f2,f3]),(w.heap.size + 2,48,#[.int .i64 op,.int .i64 of,.int .i64 lie]),(bd,50,#[.int .i64 C,.bool D.ok,.slice r1 D.occ.length rc1,.slice r2 D.points.length rc2,.slice r3 D.ways.length rc3]),(w4.heap.size,37,#[.int .i64 p.sections,.slice y1 p.switches.length z1,.slice y2 p.ways.length z2,.slice y3 p.bars.length z3,.int .i64 p.hold])] (w4.alloc (.cells #[.int .i64 p.sections,.slice y1 p.switches.length z1,.slice y2 p.ways.length z2,.slice y3 p.bars.length z3,.int .i64 p.hold] 37)):=R5a.snoc hrn4
  clear hx hxc RZ R5a hb4 hbn4 hb5 hrn4
  obtain ⟨cF0,cF1,cF2,cF3⟩:=R5.cells4 (j:=1) rfl
  go_wp2_with fail
  refine (toFrame_any _ f1 f2 f3 d _ (KF.out _ HB5.out) SF.out).mono ?_
  clear cF0 cF1 cF2 cF3
  obtain ⟨W5,hW5⟩:∃ W5,W5 = w4.alloc (.cells #[.int .i64 p.sections,.slice y1 p.switches.length z1,.slice y2 p.ways.length z2,.slice y3 p.bars.length z3,.int .i64 p.hold] 37):=⟨_,rfl⟩
  rw [← hW5] at R5 HB5 hzW5 HBN4 HBZ5 ⊢
  clear hW5
  rintro e w6 ⟨g1,g2,g3,rfl,hb6,hgf⟩
  have HGF:=hide hgf
  have HG6:=hide (hgf.keep (same_refl _ _) (Q:=In w6) fun b hb=>hb.2.1)
  obtain ⟨⟨q1,s1,rfl,-⟩,⟨q2,s2,rfl,-⟩,⟨q3,s3,rfl,-⟩⟩:=id hgf
  have hbn6:=below_new w6 (.cells #[.bool d.ok,.slice q1 d.occ.length s1,.slice q2 d.points.length s2,.slice q3 d.ways.length s3] 42)
  have hrn6:=rowIs_new w6 42 #[.bool d.ok,.slice q1 d.occ.length s1,.slice q2 d.points.length s2,.slice q3 d.ways.length s3]
  have hz6:=hb6.size
  have hb7:=hb6.trans (hbn6.mono hb6.size)
  have R7a:=(R5.call hb6).call hbn6
  have R7:Rows [(w.heap.size,26,#[.int .i64 p.sections,v1,v2,v3,.int .i64 p.hold]),(w.heap.size + 1,31,#[.bool d.ok,f1,f2,f3]),(w.heap.size + 2,48,#[.int .i64 op,.int .i64 of,.int .i64 lie]),(bd,50,#[.int .i64 C,.bool D.ok,.slice r1 D.occ.length rc1,.slice r2 D.points.length rc2,.slice r3 D.ways.length rc3]),(w4.heap.size,37,#[.int .i64 p.sections,.slice y1 p.switches.length z1,.slice y2 p.ways.length z2,.slice y3 p.bars.length z3,.int .i64 p.hold]),(w6.heap.size,42,#[.bool d.ok,.slice q1 d.occ.length s1,.slice q2 d.points.length s2,.slice q3 d.ways.length s3])] (w6.alloc (.cells #[.bool d.ok,.slice q1 d.occ.length s1,.slice q2 d.points.length s2,.slice q3 d.ways.length s3] 42)):=R7a.snoc hrn6
  have hb47:=HBN4.out.trans (hb7.mono HBN4.out.size)
  have hzW7:(w6.alloc (.cells #[.bool d.ok,.slice q1 d.occ.length s1,.slice q2 d.points.length s2,.slice q3 d.ways.length s3] 42)).heap.size = w6.heap.size + 1:=by simp
  have HX7:Hid (PlanAt (In (w6.alloc (.cells #[.bool d.ok,.slice q1 d.occ.length s1,.slice q2 d.points.length s2,.slice q3 d.ways.length s3] 42))) (w6.alloc (.cells #[.bool d.ok,.slice q1 d.occ.length s1,.slice q2 d.points.length s2,.slice q3 d.ways.length s3] 42)) (.slice y1 p.switches.length z1) (.slice y2 p.ways.length z2) (.slice y3 p.bars.length z3) p ∧ WaysC (In (w6.alloc (.cells #[.bool d.ok,.slice q1 d.occ.length s1,.slice q2 d.points.length s2,.slice q3 d.ways.length s3] 42))) (w6.alloc (.cells #[.bool d.ok,.slice q1 d.occ.length s1,.slice q2 d.points.length s2,.slice q3 d.ways.length s3] 42)) (.slice y2 p.ways.length z2) p.ways ∧ FrameAt (In (w6.alloc (.cells #[.bool d.ok,.slice q1 d.occ.length s1,.slice q2 d.points.length s2,.slice q3 d.ways.length s3] 42))) (w6.alloc (.cells #[.bool d.ok,.slice q1 d.occ.length s1,.slice q2 d.points.length s2,.slice q3 d.ways.length s3] 42)) (.slice q1 d.occ.length s1) (.slice q2 d.points.length s2) (.slice q3 d.ways.length s3) d):=
   ⟨HX4.out.keep (In.keep hb47).1 (In.keep hb47).2,HXC.out.keep (In.keep hb47).1 (In.keep hb47).2,HG6.out.keep (In.keep hbn6).1 (In.keep hbn6).2⟩
  have HB7:=hide (HB5.out.trans (hb7.mono HB5.out.size))
  have HB47:=hide hb47
  have HBN6:=hide hbn6
  have HBZ7:=hide (HBZ5.out.trans (hb7.mono HBZ5.out.size))
  clear hgf R5 R7a hb6 hbn6 hb7 hrn6 hb47 HB5 HBN4 HBZ5
  go_upto_region 11 with fail
  obtain ⟨W7,hW7⟩:∃ W7,W7 = w6.alloc (.cells #[.bool d.ok,.slice q1 d.occ.length s1,.slice q2 d.points.length s2,.slice q3 d.ways.length s3] 42):=⟨_,rfl⟩
  rw [← hW7] at R7 HB7 HX7 hzW7 HB47 HBN6 HBZ7 ⊢
  clear hW7 HBB
  have HBB:=HB7
  have HX:=hide fun (W:World) (h:Below W7.heap.size W7 W)=>And.intro (HX7.out.1.keep (Q:=In W) (In.keep h).1 (In.keep h).2) (And.intro (HX7.out.2.1.keep (Q:=In W) (In.keep h).1 (In.keep h).2) (HX7.out.2.2.keep (Q:=In W) (In.keep h).1 (In.keep h).2))
  have hks:∀ W,Below W7.heap.size W7 W → Below W7.heap.size W7 W ∧ W.cell? ⟨w4.heap.size,0,none⟩ = some (.int .i64 p.sections) ∧ W.cell? ⟨w4.heap.size,1,none⟩ = some (.slice y1 p.switches.length z1) ∧ W.cell? ⟨w4.heap.size,2,none⟩ = some (.slice y2 p.ways.length z2) ∧ W.cell? ⟨w4.heap.size,3,none⟩ = some (.slice y3 p.bars.length z3) ∧ W.cell? ⟨w4.heap.size,4,none⟩ = some (.int .i64 p.hold) ∧ W.cell? ⟨w6.heap.size,0,none⟩ = some (.bool d.ok) ∧ W.cell? ⟨w6.heap.size,1,none⟩ = some (.slice q1 d.occ.length s1) ∧ W.cell? ⟨w6.heap.size,2,none⟩ = some (.slice q2 d.points.length s2) ∧ W.cell? ⟨w6.heap.size,3,none⟩ = some (.slice q3 d.ways.length s3) ∧ W.cell? ⟨w.heap.size + 2,0,none⟩ = some (.int .i64 op) ∧ W.cell? ⟨w.heap.size + 2,1,none⟩ = some (.int .i64 of) ∧ W.cell? ⟨w.heap.size + 2,2,none⟩ = some (.int .i64 lie):=fun W hW=>⟨hW,(R7.call hW).cell (j:=4) (i:=0) rfl rfl,(R7.call hW).cell (j:=4) (i:=1) rfl rfl,(R7.call hW).cell (j:=4) (i:=2) rfl rfl,(R7.call hW).cell (j:=4) (i:=3) rfl rfl,(R7.call hW).cell (j:=4) (i:=4) rfl rfl,(R7.call hW).cell (j:=5) (i:=0) rfl rfl,(R7.call hW).cell (j:=5) (i:=1) rfl rfl,(R7.call hW).cell (j:=5) (i:=2) rfl rfl,(R7.call hW).cell (j:=5) (i:=3) rfl rfl,(R7.call hW).cell (j:=2) (i:=0) rfl rfl,(R7.call hW).cell (j:=2) (i:=1) rfl rfl,(R7.call hW).cell (j:=2) (i:=2) rfl rfl⟩
  have KS:=hide hks
  clear hks
  go_cut [11] (fun v wc=>∃ bn j1 jc1 j2 jc2 j3 jc3,v = .pointer (some ⟨bn,0,none⟩) ∧ W7.heap.size ≤ bn ∧ Below W7.heap.size W7 wc ∧ wc.rowIs bn 50 5 (fun i=>(#[.int .i64 C,.bool D.ok,.slice j1 D.occ.length jc1,.slice j2 D.points.length jc2,.slice j3 D.ways.length jc3]:Array Value)[i]!) ∧ FrameP (fun c=>W7.heap.size ≤ c ∧ c ≠ bn) wc (.slice j1 D.occ.length jc1) (.slice j2 D.points.length jc2) (.slice j3 D.ways.length jc3) D)
  case first=>
   refine beginL (S:=fun W=>Below W7.heap.size W7 W ∧ W.cell? ⟨w4.heap.size,0,none⟩ = some (.int .i64 p.sections) ∧ W.cell? ⟨w4.heap.size,1,none⟩ = some (.slice y1 p.switches.length z1) ∧ W.cell? ⟨w4.heap.size,2,none⟩ = some (.slice y2 p.ways.length z2) ∧ W.cell? ⟨w4.heap.size,3,none⟩ = some (.slice y3 p.bars.length z3) ∧ W.cell? ⟨w4.heap.size,4,none⟩ = some (.int .i64 p.hold) ∧ W.cell? ⟨w6.heap.size,0,none⟩ = some (.bool d.ok) ∧ W.cell? ⟨w6.heap.size,1,none⟩ = some (.slice q1 d.occ.length s1) ∧ W.cell? ⟨w6.heap.size,2,none⟩ = some (.slice q2 d.points.length s2) ∧ W.cell? ⟨w6.heap.size,3,none⟩ = some (.slice q3 d.ways.length s3) ∧ W.cell? ⟨w.heap.size + 2,0,none⟩ = some (.int .i64 op) ∧ W.cell? ⟨w.heap.size + 2,1,none⟩ = some (.int .i64 of) ∧ W.cell? ⟨w.heap.size + 2,2,none⟩ = some (.int .i64 lie)) 6 (by kernel_rfl) (KS.out _ (below_drew _)) (fun hS=>?_)
   have hD:=hS.1
   obtain ⟨wA0,hwA⟩:∃ W,W = W7.drew:=⟨_,rfl⟩
   rw [← hwA] at hS hD ⊢
   clear hwA
   refine takeL (i:=0) (v:=?vv0x4) (At.z) (by kernel_rfl) (by kernel_rfl) (by kernel_rfl) (by kernel_rfl) (fun _ _ _ h=>h) rfl ?hy0x4 hS ?rest0x4
   case hy0x4=>(intro w' hSw; (try dsimp only at hSw); go_simp; try with_reducible rfl)
   try simp only [Act.put,List.setIfInBounds_toArray,List.set_cons_zero,List.set_cons_succ]
   refine takeL (i:=1) (v:=?vv1x5) (At.s At.z) (by kernel_rfl) (by kernel_rfl) (by kernel_rfl) (by kernel_rfl) (fun _ _ _ h=>h) rfl ?hy1x5 hS ?rest1x5
   case hy1x5=>(intro w' hSw; (try dsimp only at hSw); go_simp; try with_reducible rfl)
   try simp only [Act.put,List.setIfInBounds_toArray,List.set_cons_zero,List.set_cons_succ]
   refine takeL (i:=2) (v:=?vv2x6) (At.s (At.s At.z)) (by kernel_rfl) (by kernel_rfl) (by kernel_rfl) (by kernel_rfl) (fun _ _ _ h=>h) rfl ?hy2x6 hS ?rest2x6
   case hy2x6=>(intro w' hSw; (try dsimp only at hSw); go_simp; try with_reducible rfl)
   try simp only [Act.put,List.setIfInBounds_toArray,List.set_cons_zero,List.set_cons_succ]
   clear hS
   refine pairL (i:=3) (j:=5) (At.s3 At.z) (At.s3 (At.s (At.s At.z))) (by kernel_rfl) (fun K hK=>?_) (fun K hK=>?_)
   ·go_simp
    refine (toEvent_on hD op of lie).mono ?_
    rintro e wA1 ⟨rfl,hb,hE⟩
    refine hK.out _ _ (KS.out _ hE) ?_
    clear hK K hD hb
    clear wA0
    try simp only [Act.put,List.setIfInBounds_toArray,List.set_cons_zero,List.set_cons_succ]
    have hD:=hE
    clear hE
    refine pairL (i:=4) (j:=5) (At.s3 (At.s At.z)) (At.s3 (At.s (At.s At.z))) (by kernel_rfl) (fun K hK=>?_) (fun K hK=>?_)
    ·go_simp
     refine (HIP.out _ _ _ _ _ _ _ _ hD (HX.out _ hD).1 (HX.out _ hD).2.1 (HX.out _ hD).2.2 (HBB.out.trans (hD.mono HBB.out.size))).mono ?_
     rintro e wA2 ⟨j1,jc1,j2,jc2,j3,jc3,rfl,hb,hE,HM⟩
     refine hK.out _ _ (KS.out _ hE) ?_
     clear hK K hD hb
     clear wA1
     try simp only [Act.put,List.setIfInBounds_toArray,List.set_cons_zero,List.set_cons_succ]
     have hD:=hE
     clear hE
     refine stepL (i:=5) (At.s3 (At.s (At.s At.z))) (by kernel_rfl) (fun K hK=>?_)
     go_simp
     obtain ⟨wA3,bn,e1,e2,hb,hE,HN,hbn⟩:=new_done hD
     rw [e1,e2]
     clear e1 e2
     replace HM:=hide (HM.out.call hb)
     refine hK.out _ _ (KS.out _ hE) ?_
     clear hK K hD hb
     clear wA2
     try simp only [Act.put,List.setIfInBounds_toArray,List.set_cons_zero,List.set_cons_succ]
     have hD:=hE
     clear hE
     obtain ⟨n0,n1,n2,n3,n4,m0,m1,m2,m3,m4⟩:=row5d HN.out
     have HG:=hide (done_laid (c:=C) (ok:=D.ok) hD HM.out HN.out hbn)
     clear HM HN hD
     refine endL (m:=6) (At.s3 (At.s3 At.z)) (by kernel_rfl) (by kernel_rfl) (fun K hK=>?_)
     go_simp
     refine hK.out _ _ ?_
     clear hK K n0 n1 n2 n3 n4 m0 m1 m2 m3 m4
     go_wp2_with fail
     go_meet
     exact ⟨_,_,_,_,_,_,_,rfl,hbn,HG.out⟩
    ·go_simp
     obtain ⟨wA2,bn,e1,e2,hb,hE,HN,hbn⟩:=new_done hD
     rw [e1,e2]
     clear e1 e2
     refine hK.out _ _ (KS.out _ hE) ?_
     clear hK K hD hb
     clear wA1
     try simp only [Act.put,List.setIfInBounds_toArray,List.set_cons_zero,List.set_cons_succ]
     have hD:=hE
     clear hE
     refine stepL (i:=4) (At.s3 (At.s At.z)) (by kernel_rfl) (fun K hK=>?_)
     go_simp
     refine (HIP.out _ _ _ _ _ _ _ _ hD (HX.out _ hD).1 (HX.out _ hD).2.1 (HX.out _ hD).2.2 (HBB.out.trans (hD.mono HBB.out.size))).mono ?_
     rintro e wA3 ⟨j1,jc1,j2,jc2,j3,jc3,rfl,hb,hE,HM⟩
     replace HN:=hide (rowIs_calls HN.out hb)
     refine hK.out _ _ (KS.out _ hE) ?_
     clear hK K hD hb
     clear wA2
     try simp only [Act.put,List.setIfInBounds_toArray,List.set_cons_zero,List.set_cons_succ]
     have hD:=hE
     clear hE
     obtain ⟨n0,n1,n2,n3,n4,m0,m1,m2,m3,m4⟩:=row5d HN.out
     have HG:=hide (done_laid (c:=C) (ok:=D.ok) hD HM.out HN.out hbn)
     clear HM HN hD
     refine endL (m:=6) (At.s3 (At.s3 At.z)) (by kernel_rfl) (by kernel_rfl) (fun K hK=>?_)
     go_simp
     refine hK.out _ _ ?_
     clear hK K n0 n1 n2 n3 n4 m0 m1 m2 m3 m4
     go_wp2_with fail
     go_meet
     exact ⟨_,_,_,_,_,_,_,rfl,hbn,HG.out⟩
   ·go_simp
    obtain ⟨wA1,bn,e1,e2,hb,hE,HN,hbn⟩:=new_done hD
    rw [e1,e2]
    clear e1 e2
    refine hK.out _ _ (KS.out _ hE) ?_
    clear hK K hD hb
    clear wA0
    try simp only [Act.put,List.setIfInBounds_toArray,List.set_cons_zero,List.set_cons_succ]
    have hD:=hE
    clear hE
    refine stepL (i:=3) (At.s3 At.z) (by kernel_rfl) (fun K hK=>?_)
    go_simp
    refine (toEvent_on hD op of lie).mono ?_
    rintro e wA2 ⟨rfl,hb,hE⟩
    replace HN:=hide (rowIs_calls HN.out hb)
    refine hK.out _ _ (KS.out _ hE) ?_
    clear hK K hD hb
    clear wA1
    try simp only [Act.put,List.setIfInBounds_toArray,List.set_cons_zero,List.set_cons_succ]
    have hD:=hE
    clear hE
    refine stepL (i:=4) (At.s3 (At.s At.z)) (by kernel_rfl) (fun K hK=>?_)
    go_simp
    refine (HIP.out _ _ _ _ _ _ _ _ hD (HX.out _ hD).1 (HX.out _ hD).2.1 (HX.out _ hD).2.2 (HBB.out.trans (hD.mono HBB.out.size))).mono ?_
    rintro e wA3 ⟨j1,jc1,j2,jc2,j3,jc3,rfl,hb,hE,HM⟩
    replace HN:=hide (rowIs_calls HN.out hb)
    refine hK.out _ _ (KS.out _ hE) ?_
    clear hK K hD hb
    clear wA2
    try simp only [Act.put,List.setIfInBounds_toArray,List.set_cons_zero,List.set_cons_succ]
    have hD:=hE
    clear hE
    obtain ⟨n0,n1,n2,n3,n4,m0,m1,m2,m3,m4⟩:=row5d HN.out
    have HG:=hide (done_laid (c:=C) (ok:=D.ok) hD HM.out HN.out hbn)
    clear HM HN hD
    refine endL (m:=6) (At.s3 (At.s3 At.z)) (by kernel_rfl) (by kernel_rfl) (fun K hK=>?_)
    go_simp
    refine hK.out _ _ ?_
    clear hK K n0 n1 n2 n3 n4 m0 m1 m2 m3 m4
    go_wp2_with fail
    go_meet
    exact ⟨_,_,_,_,_,_,_,rfl,hbn,HG.out⟩
  case rest=>
   obtain ⟨be,j1,jc1,j2,jc2,j3,jc3,rfl,hbe,hbI,hrI,hFI⟩:=hcut
   rename World=>wI
   have RI:Rows [(w.heap.size,26,#[.int .i64 p.sections,v1,v2,v3,.int .i64 p.hold]),(w.heap.size + 1,31,#[.bool d.ok,f1,f2,f3]),(w.heap.size + 2,48,#[.int .i64 op,.int .i64 of,.int .i64 lie]),(bd,50,#[.int .i64 C,.bool D.ok,.slice r1 D.occ.length rc1,.slice r2 D.points.length rc2,.slice r3 D.ways.length rc3]),(w4.heap.size,37,#[.int .i64 p.sections,.slice y1 p.switches.length z1,.slice y2 p.ways.length z2,.slice y3 p.bars.length z3,.int .i64 p.hold]),(w6.heap.size,42,#[.bool d.ok,.slice q1 d.occ.length s1,.slice q2 d.points.length s2,.slice q3 d.ways.length s3]),(be,50,#[.int .i64 C,.bool D.ok,.slice j1 D.occ.length jc1,.slice j2 D.points.length jc2,.slice j3 D.ways.length jc3])] wI:=(R7.call hbI).snoc hrI
   have hbeI:be < wI.heap.size:=hrI.lt
   have HBI:=hide (HB7.out.trans (hbI.mono HB7.out.size))
   have HFI:=hide hFI
   have hzI:=hbI.size
   have HBI7:=hide hbI
   have HXI:=hide (HX.out _ hbI)
   have HBZI:=hide (HBZ7.out.trans (hbI.mono HBZ7.out.size))
   have HB4I:=hide (HB47.out.trans (hbI.mono HB47.out.size))
   have HB6I:=hide (HBN6.out.trans (hbI.mono HBN6.out.size))
   have HFSI:Hid (FrameAt (In wZ) wI (.slice r1 D.occ.length rc1) (.slice r2 D.points.length rc2) (.slice r3 D.ways.length rc3) D):=HFS.out.keep (In.keep HBZI.out).1 fun _ z=>z
   clear hbI hrI hFI R7 KS HX HX7 HBB HB7 HBZ7 HB47 HBN6 HFS
   have HQ8:=hide (eqDone_any C D.ok _ _ _ _ _ _ D wI (HFI.out.there.read.keep (same_refl _ _) (Q:=In wI) fun b hb=>hb.2) (HFSI.out.keep (same_refl _ _) (Q:=In wI) fun b hb=>Nat.lt_of_lt_of_le hb HBZI.out.size) SD.out)
   obtain ⟨cI0,cI1,cI2,cI3,cI4⟩:=RI.cells5 (j:=6) rfl
   obtain ⟨cS0,cS1,cS2,cS3,cS4⟩:=RI.cells5 (j:=3) rfl
   go_wp2_with fail
   refine HQ8.out.mono ?_
   clear cI0 cI1 cI2 cI3 cI4 cS0 cS1 cS2 cS3 cS4 HQ8
   rintro e w9 ⟨rfl,hb9⟩
   have R9:=RI.call hb9
   have hz9:=hb9.size
   have HB9:=hide (HBI.out.trans (hb9.mono HBI.out.size))
   have HI9:=hide hb9
   have HR9:=hide (R9.call (below_drew _))
   have hq:Calls Tryz.prog 16 #[.agg #[.int .i64 p.sections,v1,v2,v3,.int .i64 p.hold]] w9.drew fun e w'=>∃ u1 u2 u3,e = .returned (.agg #[.int .i64 p.sections,u1,u2,u3,.int .i64 p.hold]) ∧ Below w9.drew.heap.size w9.drew w' ∧ PlanAt (In w') w' u1 u2 u3 p ∧ (w'.cell? ⟨w4.heap.size,0,none⟩ = some (.int .i64 p.sections) ∧ w'.cell? ⟨w4.heap.size,1,none⟩ = some (.slice y1 p.switches.length z1) ∧ w'.cell? ⟨w4.heap.size,2,none⟩ = some (.slice y2 p.ways.length z2) ∧ w'.cell? ⟨w4.heap.size,3,none⟩ = some (.slice y3 p.bars.length z3) ∧ w'.cell? ⟨w4.heap.size,4,none⟩ = some (.int .i64 p.hold)):=by
    have hB:=HB9.out.trans ((below_drew w9).mono HB9.out.size)
    refine (toPlan_any p.sections p.hold v1 v2 v3 p _ (KP.out _ hB) SM.out).mono ?_
    rintro e w' ⟨u1,u2,u3,rfl,hb,hu⟩
    have Xa:=HR9.out.call hb
    exact ⟨u1,u2,u3,rfl,hb,hu.keep (same_refl _ _) fun b hb=>hb.2.1,Xa.cell (j:=4) (i:=0) rfl rfl,Xa.cell (j:=4) (i:=1) rfl rfl,Xa.cell (j:=4) (i:=2) rfl rfl,Xa.cell (j:=4) (i:=3) rfl rfl,Xa.cell (j:=4) (i:=4) rfl rfl⟩
   have HQ:=hide hq
   have hq2:∀ W u1 u2 u3,Below w9.drew.heap.size w9.drew W → PlanAt (In W) W u1 u2 u3 p → Calls Tryz.prog 19 #[.agg #[.int .i64 p.sections,.slice y1 p.switches.length z1,.slice y2 p.ways.length z2,.slice y3 p.bars.length z3,.int .i64 p.hold],.agg #[.int .i64 p.sections,u1,u2,u3,.int .i64 p.hold]] W fun e w'=>e = .returned (.bool true) ∧ Below w9.drew.heap.size w9.drew w':=fun W u1 u2 u3 hbw hpw=>by
    have hIW:Below wI.heap.size wI W:=(HI9.out.trans ((below_drew w9).mono HI9.out.size)).trans (hbw.mono HI9.out.size)
    refine (eqPlan_any p.sections p.hold _ _ _ u1 u2 u3 p W (HXI.out.1.keep (In.keep hIW).1 (In.keep hIW).2) hpw SM.out).mono ?_
    rintro e w' ⟨rfl,hb⟩
    exact ⟨rfl,hbw.trans (hb.mono hbw.size)⟩
   have HQ2:=hide hq2
   clear hq hq2 hb9 RI
   obtain ⟨cP0,cP1,cP2,cP3,cP4⟩:=R9.cells5 (j:=0) rfl
   obtain ⟨cp0,cp1,cp2,cp3,cp4⟩:=R9.cells5 (j:=4) rfl
   go_wp2
   go_cut [50] (fun v wk=>v = .bool false ∧ Below w9.heap.size w9 wk)
   case first=>
    go_region_with (first | (go_at_call 16; refine HQ.out.mono ?_; rintro e wa ⟨u1,u2,u3,rfl,hb9,hp9,k0,k1,k2,k3,k4⟩; have HP9:=hide hp9; have HBa:=hide hb9; clear hp9 hb9) | (go_at_call 19; refine (HQ2.out _ _ _ _ HBa.out HP9.out).mono ?_; rintro e wb ⟨rfl,hba⟩; have HBA:=hide hba; clear hba))
    all_goals
     go_wp2_with fail
     go_meet
     exact ⟨rfl,(below_drew w9).trans (HBA.out.mono (below_drew w9).size)⟩
   case rest=>
    obtain ⟨rfl,hbk⟩:=hcut
    rename World=>wk
    have RK:=R9.call hbk
    have HBk:=hide (HB9.out.trans (hbk.mono HB9.out.size))
    have HIk:=hide (HI9.out.trans (hbk.mono HI9.out.size))
    have hzk:=hbk.size
    clear cP0 cP1 cP2 cP3 cP4 cp0 cp1 cp2 cp3 cp4 HQ HQ2 HR9 hbk R9 HB9 HI9
    have HRK:=hide (RK.call (below_drew _))
    have hq:Calls Tryz.prog 17 #[.agg #[.bool d.ok,f1,f2,f3]] wk.drew fun e w'=>∃ u1 u2 u3,e = .returned (.agg #[.bool d.ok,u1,u2,u3]) ∧ Below wk.drew.heap.size wk.drew w' ∧ FrameAt (In w') w' u1 u2 u3 d ∧ (w'.cell? ⟨w6.heap.size,0,none⟩ = some (.bool d.ok) ∧ w'.cell? ⟨w6.heap.size,1,none⟩ = some (.slice q1 d.occ.length s1) ∧ w'.cell? ⟨w6.heap.size,2,none⟩ = some (.slice q2 d.points.length s2) ∧ w'.cell? ⟨w6.heap.size,3,none⟩ = some (.slice q3 d.ways.length s3)):=by
     have hB:=HBk.out.trans ((below_drew wk).mono HBk.out.size)
     refine (toFrame_any _ f1 f2 f3 d _ (KF.out _ hB) SF.out).mono ?_
     rintro e w' ⟨u1,u2,u3,rfl,hb,hu⟩
     have Xa:=HRK.out.call hb
     exact ⟨u1,u2,u3,rfl,hb,hu.keep (same_refl _ _) fun b hb=>hb.2.1,Xa.cell (j:=5) (i:=0) rfl rfl,Xa.cell (j:=5) (i:=1) rfl rfl,Xa.cell (j:=5) (i:=2) rfl rfl,Xa.cell (j:=5) (i:=3) rfl rfl⟩
    have HQ:=hide hq
    have hq2:∀ W u1 u2 u3,Below wk.drew.heap.size wk.drew W → FrameAt (In W) W u1 u2 u3 d → Calls Tryz.prog 20 #[.agg #[.bool d.ok,.slice q1 d.occ.length s1,.slice q2 d.points.length s2,.slice q3 d.ways.length s3],.agg #[.bool d.ok,u1,u2,u3]] W fun e w'=>e = .returned (.bool true) ∧ Below wk.drew.heap.size wk.drew w':=fun W u1 u2 u3 hbw hpw=>by
     have hIW:Below wI.heap.size wI W:=(HIk.out.trans ((below_drew wk).mono HIk.out.size)).trans (hbw.mono HIk.out.size)
     refine (eqFrame_any d.ok _ _ _ u1 u2 u3 d W (HXI.out.2.2.keep (In.keep hIW).1 (In.keep hIW).2) hpw SF.out).mono ?_
     rintro e w' ⟨rfl,hb⟩
     exact ⟨rfl,hbw.trans (hb.mono hbw.size)⟩
    have HQ2:=hide hq2
    clear hq hq2
    obtain ⟨cF0,cF1,cF2,cF3⟩:=RK.cells4 (j:=1) rfl
    obtain ⟨cf0,cf1,cf2,cf3⟩:=RK.cells4 (j:=5) rfl
    go_wp2
    go_cut [55] (fun v wl=>v = .bool false ∧ Below wk.heap.size wk wl)
    case first=>
     go_region_with (first | (go_at_call 17; refine HQ.out.mono ?_; rintro e wa ⟨u1,u2,u3,rfl,hb9,hp9,k0,k1,k2,k3⟩; have HP9:=hide hp9; have HBa:=hide hb9; clear hp9 hb9) | (go_at_call 20; refine (HQ2.out _ _ _ _ HBa.out HP9.out).mono ?_; rintro e wb ⟨rfl,hba⟩; have HBA:=hide hba; clear hba))
     all_goals
      go_wp2_with fail
      go_meet
      exact ⟨rfl,(below_drew wk).trans (HBA.out.mono (below_drew wk).size)⟩
    case rest=>
     obtain ⟨rfl,hbl⟩:=hcut
     rename World=>wB
     have RB:=RK.call hbl
     have HBB:=hide (HBk.out.trans (hbl.mono HBk.out.size))
     have hIB:Below wI.heap.size wI wB:=HIk.out.trans (hbl.mono HIk.out.size)
     have hzB:=hIB.size
     clear cF0 cF1 cF2 cF3 cf0 cf1 cf2 cf3 HQ HQ2 HRK hbl RK HBk HIk
     have h4B:Below w4.heap.size w4 wB:=HB4I.out.trans (hIB.mono HB4I.out.size)
     have h6B:Below w6.heap.size w6 wB:=HB6I.out.trans (hIB.mono HB6I.out.size)
     have hXB:PlanAt (Fresh wZ w4) wB (.slice y1 p.switches.length z1) (.slice y2 p.ways.length z2) (.slice y3 p.bars.length z3) p:=HXF.out.keep (fun b hb o=>h4B.cell (p:=⟨b,o,none⟩) hb.2.1) fun _ h=>h
     have hMay:May (Fresh wZ w4) wB:=⟨fun b hb o=>(h4B.frozen (p:=⟨b,o,none⟩) hb.2.1).trans (hb.2.2 o),fun b hb=>Nat.lt_of_lt_of_le hb.2.1 h4B.size⟩
     have HMP:=hide (markPlanB_any (Fresh wZ w4) (.int .i64 p.sections) (.int .i64 p.hold) _ _ _ p wB hXB SM.out hMay)
     have hFB:FrameAt (Fresh W5 w6) wB (.slice q1 d.occ.length s1) (.slice q2 d.points.length s2) (.slice q3 d.ways.length s3) d:=HGF.out.keep (fun b hb o=>h6B.cell (p:=⟨b,o,none⟩) hb.2.1) fun _ h=>h
     have hMayB:May (Fresh W5 w6) wB:=⟨fun b hb o=>(h6B.frozen (p:=⟨b,o,none⟩) hb.2.1).trans (hb.2.2 o),fun b hb=>Nat.lt_of_lt_of_le hb.2.1 h6B.size⟩
     have HFB:=hide (And.intro hFB hMayB)
     have HIB:=hide hIB
     clear hXB hMay hFB hMayB h4B h6B hIB
     obtain ⟨cp0,cp1,cp2,cp3,cp4⟩:=RB.cells5 (j:=4) rfl
     go_wp2_with fail
     refine HMP.out.mono ?_
     clear cp0 cp1 cp2 cp3 cp4 HMP
     rintro e wC ⟨rk,rfl,hrk0,hrk1,MC⟩
     have hzC:=MC.but.size
     have RC:Rows [(w.heap.size,26,#[.int .i64 p.sections,v1,v2,v3,.int .i64 p.hold]),(w.heap.size + 1,31,#[.bool d.ok,f1,f2,f3]),(w.heap.size + 2,48,#[.int .i64 op,.int .i64 of,.int .i64 lie]),(bd,50,#[.int .i64 C,.bool D.ok,.slice r1 D.occ.length rc1,.slice r2 D.points.length rc2,.slice r3 D.ways.length rc3]),(w4.heap.size,37,#[.int .i64 p.sections,.slice y1 p.switches.length z1,.slice y2 p.ways.length z2,.slice y3 p.bars.length z3,.int .i64 p.hold]),(w6.heap.size,42,#[.bool d.ok,.slice q1 d.occ.length s1,.slice q2 d.points.length s2,.slice q3 d.ways.length s3]),(be,50,#[.int .i64 C,.bool D.ok,.slice j1 D.occ.length jc1,.slice j2 D.points.length jc2,.slice j3 D.ways.length jc3])] wC:=RB.but MC.but fun r hr hf=>by
      obtain ⟨h1,h2⟩:=(show wZ.heap.size ≤ r.1 ∧ r.1 < w4.heap.size from ⟨hf.1,hf.2.1⟩)
      simp only [List.mem_cons,List.not_mem_nil,or_false] at hr
      rcases hr with rfl | rfl | rfl | rfl | rfl | rfl | rfl <;> (simp only at h1 h2; omega)
     have hFC:FrameAt (Fresh W5 w6) wC (.slice q1 d.occ.length s1) (.slice q2 d.points.length s2) (.slice q3 d.ways.length s3) d:=HFB.out.1.keep (MC.but.same fun b hb=>⟨HFB.out.2.there b hb,fun hc=>by have:=hb.1; have:=hc.2.1; omega⟩) fun _ h=>h
     have HMF:=hide (markFrameS_any _ (.bool d.ok) _ _ _ d rk wC hFC SF.out (HFB.out.2.marked MC) hrk0 hrk1)
     have HMC:=hide MC
     clear hFC HFB RB MC
     obtain ⟨cf0,cf1,cf2,cf3⟩:=RC.cells4 (j:=5) rfl
     go_wp2_with fail
     refine HMF.out.mono ?_
     clear cf0 cf1 cf2 cf3 HMF
     rintro e wD ⟨rd,rfl,hrd0,MD⟩
     have hzD:=MD.but.size
     have RD:Rows [(w.heap.size,26,#[.int .i64 p.sections,v1,v2,v3,.int .i64 p.hold]),(w.heap.size + 1,31,#[.bool d.ok,f1,f2,f3]),(w.heap.size + 2,48,#[.int .i64 op,.int .i64 of,.int .i64 lie]),(bd,50,#[.int .i64 C,.bool D.ok,.slice r1 D.occ.length rc1,.slice r2 D.points.length rc2,.slice r3 D.ways.length rc3]),(w4.heap.size,37,#[.int .i64 p.sections,.slice y1 p.switches.length z1,.slice y2 p.ways.length z2,.slice y3 p.bars.length z3,.int .i64 p.hold]),(w6.heap.size,42,#[.bool d.ok,.slice q1 d.occ.length s1,.slice q2 d.points.length s2,.slice q3 d.ways.length s3]),(be,50,#[.int .i64 C,.bool D.ok,.slice j1 D.occ.length jc1,.slice j2 D.points.length jc2,.slice j3 D.ways.length jc3])] wD:=RC.but MD.but fun r hr hf=>by
      obtain ⟨h1,h2⟩:=(show W5.heap.size ≤ r.1 ∧ r.1 < w6.heap.size from ⟨hf.1,hf.2.1⟩)
      simp only [List.mem_cons,List.not_mem_nil,or_false] at hr
      rcases hr with rfl | rfl | rfl | rfl | rfl | rfl | rfl <;> (simp only at h1 h2; omega)
     have hFSD:FrameAt (In wZ) wD (.slice r1 D.occ.length rc1) (.slice r2 D.points.length rc2) (.slice r3 D.ways.length rc3) D:=HFSI.out.keep (((same_below HIB.out fun b (hb:b < wZ.heap.size)=>by omega).trans (HMC.out.but.same (P:=In wZ) fun b (hb:b < wZ.heap.size)=>⟨by omega,fun hc=>by have:=hc.1; omega⟩)).trans (MD.but.same (P:=In wZ) fun b (hb:b < wZ.heap.size)=>⟨by omega,fun hc=>by have:=hc.1; omega⟩)) fun _ z=>z
     have hFID:FrameP (fun c=>W7.heap.size ≤ c ∧ c ≠ be) wD (.slice j1 D.occ.length jc1) (.slice j2 D.points.length jc2) (.slice j3 D.ways.length jc3) D:=((HFI.out.but (K:=fun _=>True) (Q:=(fun c=>W7.heap.size ≤ c ∧ c ≠ be)) (But.of_calls HIB.out) (fun _ _=>trivial) fun _ h=>h).but (Q:=(fun c=>W7.heap.size ≤ c ∧ c ≠ be)) HMC.out.but (fun c hc hd=>by have:=hd.2.1; omega) fun _ h=>h).but (Q:=(fun c=>W7.heap.size ≤ c ∧ c ≠ be)) MD.but (fun c hc hd=>by have:=hd.2.1; omega) fun _ h=>h
     have hBBD:Below w.heap.size w wD:=(HBB.out.trans (HMC.out.but.below HBB.out.size fun c hc hd=>by have:=hd.1; omega)).trans (MD.but.below (Nat.le_trans HBB.out.size hzC) fun c hc hd=>by have:=hd.1; omega)
     have HQD:=hide (eqDone_any C D.ok _ _ _ _ _ _ D wD (hFID.there.read.keep (same_refl _ _) (Q:=In wD) fun b hb=>hb.2) (hFSD.keep (same_refl _ _) (Q:=In wD) fun b (hb:b < wZ.heap.size)=>show b < wD.heap.size by omega) SD.out)
     have HFSD:=hide hFSD
     have HFID:=hide hFID
     have HBD:=hide hBBD
     have t0:decide (rd < 0) = false:=by simp; omega
     clear hFSD hFID hBBD MD HMC HIB RC HBB HFI HFSI
     obtain ⟨cI0,cI1,cI2,cI3,cI4⟩:=RD.cells5 (j:=6) rfl
     obtain ⟨cS0,cS1,cS2,cS3,cS4⟩:=RD.cells5 (j:=3) rfl
     go_wp2_with fail
     refine HQD.out.mono ?_
     clear cI0 cI1 cI2 cI3 cI4 cS0 cS1 cS2 cS3 cS4 HQD
     rintro e wE ⟨rfl,hbE⟩
     have RE:=RD.call hbE
     have hzE:=hbE.size
     have hFIE:FrameP (fun c=>W7.heap.size ≤ c ∧ c ≠ be) wE (.slice j1 D.occ.length jc1) (.slice j2 D.points.length jc2) (.slice j3 D.ways.length jc3) D:=HFID.out.but (K:=fun _=>True) (But.of_calls hbE) (fun _ _=>trivial) fun _ h=>h
     have HBE:=hide (HBD.out.trans (hbE.mono HBD.out.size))
     have HFSE:=hide (HFSD.out.keep (Q:=In wZ) (same_below hbE fun b (hb:b < wZ.heap.size)=>by omega) fun _ z=>z)
     have HMK:=hide (markDone_any (fun c=>W7.heap.size ≤ c ∧ c ≠ be) (.int .i64 C) (.bool D.ok) _ _ _ D 1 wE hFIE (fun c hc=>⟨by omega,by omega⟩) SD.out (by omega) (by omega))
     clear hFIE hbE RD HFID HFSD HBD t0
     obtain ⟨cI0,cI1,cI2,cI3,cI4⟩:=RE.cells5 (j:=6) rfl
     go_wp2_with fail
     refine HMK.out.mono ?_
     clear cI0 cI1 cI2 cI3 cI4 HMK
     rintro e wF ⟨rfl,hFIF,hBF⟩
     have hzF:=hBF.size
     have RF:Rows [(w.heap.size,26,#[.int .i64 p.sections,v1,v2,v3,.int .i64 p.hold]),(w.heap.size + 1,31,#[.bool d.ok,f1,f2,f3]),(w.heap.size + 2,48,#[.int .i64 op,.int .i64 of,.int .i64 lie]),(bd,50,#[.int .i64 C,.bool D.ok,.slice r1 D.occ.length rc1,.slice r2 D.points.length rc2,.slice r3 D.ways.length rc3]),(w4.heap.size,37,#[.int .i64 p.sections,.slice y1 p.switches.length z1,.slice y2 p.ways.length z2,.slice y3 p.bars.length z3,.int .i64 p.hold]),(w6.heap.size,42,#[.bool d.ok,.slice q1 d.occ.length s1,.slice q2 d.points.length s2,.slice q3 d.ways.length s3]),(be,50,#[.int .i64 C,.bool D.ok,.slice j1 D.occ.length jc1,.slice j2 D.points.length jc2,.slice j3 D.ways.length jc3])] wF:=RE.but hBF fun r hr hf=>by
      obtain ⟨h1,h2⟩:=hf
      simp only [List.mem_cons,List.not_mem_nil,or_false] at hr
      rcases hr with rfl | rfl | rfl | rfl | rfl | rfl | rfl <;> (simp only at h1 h2; omega)
     have HBF:=hide (HBE.out.trans (hBF.below HBE.out.size fun c hc hd=>by have:=hd.1; omega))
     have HFSF:=hide (HFSE.out.keep (Q:=In wZ) (hBF.same (P:=In wZ) fun b (hb:b < wZ.heap.size)=>⟨by omega,fun hd=>by have:=hd.1; omega⟩) fun _ z=>z)
     have HFIF:=hide (hFIF.there.read.keep (same_refl _ _) (Q:=In wF) fun b hb=>hb.2)
     have hcn:=cntF_nn D
     have HHF:=hide (heldDone_any (.int .i64 C) (.bool D.ok) _ _ _ D 1 wF HFIF.out SD.out (by omega) (by omega))
     obtain ⟨cn,hcn'⟩:∃ c,cntF D = c:=⟨_,rfl⟩
     rw [hcn'] at hcn HHF ⊢
     have HCN:=hide hcn'
     have t1:decide (1 + cn < 0) = false:=by simp; omega
     clear hFIF hBF RE HBE HFSE hcn'
     obtain ⟨cI0,cI1,cI2,cI3,cI4⟩:=RF.cells5 (j:=6) rfl
     go_wp2_with fail
     refine HHF.out.mono ?_
     clear cI0 cI1 cI2 cI3 cI4 HHF
     rintro e wG ⟨rfl,hbG⟩
     have RG:=RF.call hbG
     have hzG:=hbG.size
     have HBB:=hide (HBF.out.trans (hbG.mono HBF.out.size))
     have HFSG:=hide (HFSF.out.keep (Q:=In wZ) (same_below hbG fun b (hb:b < wZ.heap.size)=>by omega) fun _ z=>z)
     have HFIG:=hide (HFIF.out.keep (In.keep hbG).1 (In.keep hbG).2)
     clear hbG RF HBF HFSF HFIF
     go_upto_region 31 with fail
     have hks:∀ W,Below wG.heap.size wG W → Below wG.heap.size wG W ∧ W.cell? ⟨w.heap.size,0,none⟩ = some (.int .i64 p.sections) ∧ W.cell? ⟨w.heap.size,1,none⟩ = some (v1) ∧ W.cell? ⟨w.heap.size,2,none⟩ = some (v2) ∧ W.cell? ⟨w.heap.size,3,none⟩ = some (v3) ∧ W.cell? ⟨w.heap.size,4,none⟩ = some (.int .i64 p.hold) ∧ W.cell? ⟨w.heap.size + 1,0,none⟩ = some (.bool d.ok) ∧ W.cell? ⟨w.heap.size + 1,1,none⟩ = some (f1) ∧ W.cell? ⟨w.heap.size + 1,2,none⟩ = some (f2) ∧ W.cell? ⟨w.heap.size + 1,3,none⟩ = some (f3) ∧ W.cell? ⟨w.heap.size + 2,0,none⟩ = some (.int .i64 op) ∧ W.cell? ⟨w.heap.size + 2,1,none⟩ = some (.int .i64 of) ∧ W.cell? ⟨w.heap.size + 2,2,none⟩ = some (.int .i64 lie):=fun W hW=>⟨hW,(RG.call hW).cell (j:=0) (i:=0) rfl rfl,(RG.call hW).cell (j:=0) (i:=1) rfl rfl,(RG.call hW).cell (j:=0) (i:=2) rfl rfl,(RG.call hW).cell (j:=0) (i:=3) rfl rfl,(RG.call hW).cell (j:=0) (i:=4) rfl rfl,(RG.call hW).cell (j:=1) (i:=0) rfl rfl,(RG.call hW).cell (j:=1) (i:=1) rfl rfl,(RG.call hW).cell (j:=1) (i:=2) rfl rfl,(RG.call hW).cell (j:=1) (i:=3) rfl rfl,(RG.call hW).cell (j:=2) (i:=0) rfl rfl,(RG.call hW).cell (j:=2) (i:=1) rfl rfl,(RG.call hW).cell (j:=2) (i:=2) rfl rfl⟩
     have KS:=hide hks
     clear hks
     go_cut [15] (fun v wc=>∃ bn i1 ic1 i2 ic2 i3 ic3,v = .pointer (some ⟨bn,0,none⟩) ∧ wG.heap.size ≤ bn ∧ Below wG.heap.size wG wc ∧ wc.rowIs bn 50 5 (fun i=>(#[.int .i64 C,.bool D.ok,.slice i1 D.occ.length ic1,.slice i2 D.points.length ic2,.slice i3 D.ways.length ic3]:Array Value)[i]!) ∧ FrameP (fun c=>wG.heap.size ≤ c ∧ c ≠ bn) wc (.slice i1 D.occ.length ic1) (.slice i2 D.points.length ic2) (.slice i3 D.ways.length ic3) D)
     case first=>
      refine beginL (S:=fun W=>Below wG.heap.size wG W ∧ W.cell? ⟨w.heap.size,0,none⟩ = some (.int .i64 p.sections) ∧ W.cell? ⟨w.heap.size,1,none⟩ = some (v1) ∧ W.cell? ⟨w.heap.size,2,none⟩ = some (v2) ∧ W.cell? ⟨w.heap.size,3,none⟩ = some (v3) ∧ W.cell? ⟨w.heap.size,4,none⟩ = some (.int .i64 p.hold) ∧ W.cell? ⟨w.heap.size + 1,0,none⟩ = some (.bool d.ok) ∧ W.cell? ⟨w.heap.size + 1,1,none⟩ = some (f1) ∧ W.cell? ⟨w.heap.size + 1,2,none⟩ = some (f2) ∧ W.cell? ⟨w.heap.size + 1,3,none⟩ = some (f3) ∧ W.cell? ⟨w.heap.size + 2,0,none⟩ = some (.int .i64 op) ∧ W.cell? ⟨w.heap.size + 2,1,none⟩ = some (.int .i64 of) ∧ W.cell? ⟨w.heap.size + 2,2,none⟩ = some (.int .i64 lie)) 8 (by kernel_rfl) (KS.out _ (below_drew _)) (fun hS=>?_)
      have hD:=hS.1
      obtain ⟨wA0,hwA⟩:∃ W,W = wG.drew:=⟨_,rfl⟩
      rw [← hwA] at hS hD ⊢
      clear hwA
      refine takeL (i:=0) (v:=?vv0x7) (At.z) (by kernel_rfl) (by kernel_rfl) (by kernel_rfl) (by kernel_rfl) (fun _ _ _ h=>h) rfl ?hy0x7 hS ?rest0x7
      case hy0x7=>(intro w' hSw; (try dsimp only at hSw); go_simp; try with_reducible rfl)
      try simp only [Act.put,List.setIfInBounds_toArray,List.set_cons_zero,List.set_cons_succ]
      refine takeL (i:=2) (v:=?vv2x8) (At.s (At.s At.z)) (by kernel_rfl) (by kernel_rfl) (by kernel_rfl) (by kernel_rfl) (fun _ _ _ h=>h) rfl ?hy2x8 hS ?rest2x8
      case hy2x8=>(intro w' hSw; (try dsimp only at hSw); go_simp; try with_reducible rfl)
      try simp only [Act.put,List.setIfInBounds_toArray,List.set_cons_zero,List.set_cons_succ]
      refine takeL (i:=4) (v:=?vv4x9) (At.s3 (At.s At.z)) (by kernel_rfl) (by kernel_rfl) (by kernel_rfl) (by kernel_rfl) (fun _ _ _ h=>h) rfl ?hy4x9 hS ?rest4x9
      case hy4x9=>(intro w' hSw; (try dsimp only at hSw); go_simp; try with_reducible rfl)
      try simp only [Act.put,List.setIfInBounds_toArray,List.set_cons_zero,List.set_cons_succ]
      clear hS
      refine pairL (i:=1) (j:=7) (At.s At.z) (At.s3 (At.s3 (At.s At.z))) (by kernel_rfl) (fun K hK=>?_) (fun K hK=>?_)
      ·go_simp
       refine (toPlan_on hD (KP.out _ (HBB.out.trans (hD.mono HBB.out.size))) SM.out).mono ?_
       rintro e wA1 ⟨u1,u2,u3,rfl,hb,hE,HP,HPC⟩
       refine hK.out _ _ (KS.out _ hE) ?_
       clear hK K hD hb
       clear wA0
       try simp only [Act.put,List.setIfInBounds_toArray,List.set_cons_zero,List.set_cons_succ]
       have hD:=hE
       clear hE
       refine pairL (i:=3) (j:=7) (At.s3 At.z) (At.s3 (At.s3 (At.s At.z))) (by kernel_rfl) (fun K hK=>?_) (fun K hK=>?_)
       ·go_simp
        refine (toFrame_on hD (KF.out _ (HBB.out.trans (hD.mono HBB.out.size))) SF.out).mono ?_
        rintro e wA2 ⟨g1,g2,g3,rfl,hb,hE,HFF⟩
        replace HP:=hide (HP.out.keep (In.keep hb).1 (In.keep hb).2)
        replace HPC:=hide (HPC.out.keep (In.keep hb).1 (In.keep hb).2)
        refine hK.out _ _ (KS.out _ hE) ?_
        clear hK K hD hb
        clear wA1
        try simp only [Act.put,List.setIfInBounds_toArray,List.set_cons_zero,List.set_cons_succ]
        have hD:=hE
        clear hE
        refine pairL (i:=5) (j:=7) (At.s3 (At.s (At.s At.z))) (At.s3 (At.s3 (At.s At.z))) (by kernel_rfl) (fun K hK=>?_) (fun K hK=>?_)
        ·go_simp
         refine (toEvent_on hD op of lie).mono ?_
         rintro e wA3 ⟨rfl,hb,hE⟩
         replace HP:=hide (HP.out.keep (In.keep hb).1 (In.keep hb).2)
         replace HPC:=hide (HPC.out.keep (In.keep hb).1 (In.keep hb).2)
         replace HFF:=hide (HFF.out.keep (In.keep hb).1 (In.keep hb).2)
         refine hK.out _ _ (KS.out _ hE) ?_
         clear hK K hD hb
         clear wA2
         try simp only [Act.put,List.setIfInBounds_toArray,List.set_cons_zero,List.set_cons_succ]
         have hD:=hE
         clear hE
         refine pairL (i:=6) (j:=7) (At.s3 (At.s3 At.z)) (At.s3 (At.s3 (At.s At.z))) (by kernel_rfl) (fun K hK=>?_) (fun K hK=>?_)
         ·go_simp
          refine (HIP.out _ _ _ _ _ _ _ _ hD HP.out HPC.out HFF.out (HBB.out.trans (hD.mono HBB.out.size))).mono ?_
          rintro e wA4 ⟨i1,ic1,i2,ic2,i3,ic3,rfl,hb,hE,HM⟩
          refine hK.out _ _ (KS.out _ hE) ?_
          clear hK K hD hb HP HPC HFF
          clear wA3
          try simp only [Act.put,List.setIfInBounds_toArray,List.set_cons_zero,List.set_cons_succ]
          have hD:=hE
          clear hE
          refine stepL (i:=7) (At.s3 (At.s3 (At.s At.z))) (by kernel_rfl) (fun K hK=>?_)
          go_simp
          obtain ⟨wA5,bn,e1,e2,hb,hE,HN,hbn⟩:=new_done hD
          rw [e1,e2]
          clear e1 e2
          replace HM:=hide (HM.out.call hb)
          refine hK.out _ _ (KS.out _ hE) ?_
          clear hK K hD hb
          clear wA4
          try simp only [Act.put,List.setIfInBounds_toArray,List.set_cons_zero,List.set_cons_succ]
          have hD:=hE
          clear hE
          obtain ⟨n0,n1,n2,n3,n4,m0,m1,m2,m3,m4⟩:=row5d HN.out
          have HG:=hide (done_laid (c:=C) (ok:=D.ok) hD HM.out HN.out hbn)
          clear HM HN hD
          refine endL (m:=8) (At.s3 (At.s3 (At.s (At.s At.z)))) (by kernel_rfl) (by kernel_rfl) (fun K hK=>?_)
          go_simp
          refine hK.out _ _ ?_
          clear hK K n0 n1 n2 n3 n4 m0 m1 m2 m3 m4
          go_wp2_with fail
          go_meet
          exact ⟨_,_,_,_,_,_,_,rfl,hbn,HG.out⟩
         ·go_simp
          obtain ⟨wA4,bn,e1,e2,hb,hE,HN,hbn⟩:=new_done hD
          rw [e1,e2]
          clear e1 e2
          replace HP:=hide (HP.out.keep (In.keep hb).1 (In.keep hb).2)
          replace HPC:=hide (HPC.out.keep (In.keep hb).1 (In.keep hb).2)
          replace HFF:=hide (HFF.out.keep (In.keep hb).1 (In.keep hb).2)
          refine hK.out _ _ (KS.out _ hE) ?_
          clear hK K hD hb
          clear wA3
          try simp only [Act.put,List.setIfInBounds_toArray,List.set_cons_zero,List.set_cons_succ]
          have hD:=hE
          clear hE
          refine stepL (i:=6) (At.s3 (At.s3 At.z)) (by kernel_rfl) (fun K hK=>?_)
          go_simp
          refine (HIP.out _ _ _ _ _ _ _ _ hD HP.out HPC.out HFF.out (HBB.out.trans (hD.mono HBB.out.size))).mono ?_
          rintro e wA5 ⟨i1,ic1,i2,ic2,i3,ic3,rfl,hb,hE,HM⟩
          replace HN:=hide (rowIs_calls HN.out hb)
          refine hK.out _ _ (KS.out _ hE) ?_
          clear hK K hD hb HP HPC HFF
          clear wA4
          try simp only [Act.put,List.setIfInBounds_toArray,List.set_cons_zero,List.set_cons_succ]
          have hD:=hE
          clear hE
          obtain ⟨n0,n1,n2,n3,n4,m0,m1,m2,m3,m4⟩:=row5d HN.out
          have HG:=hide (done_laid (c:=C) (ok:=D.ok) hD HM.out HN.out hbn)
          clear HM HN hD
          refine endL (m:=8) (At.s3 (At.s3 (At.s (At.s At.z)))) (by kernel_rfl) (by kernel_rfl) (fun K hK=>?_)
          go_simp
          refine hK.out _ _ ?_
          clear hK K n0 n1 n2 n3 n4 m0 m1 m2 m3 m4
          go_wp2_with fail
          go_meet
          exact ⟨_,_,_,_,_,_,_,rfl,hbn,HG.out⟩
        ·go_simp
         obtain ⟨wA3,bn,e1,e2,hb,hE,HN,hbn⟩:=new_done hD
         rw [e1,e2]
         clear e1 e2
         replace HP:=hide (HP.out.keep (In.keep hb).1 (In.keep hb).2)
         replace HPC:=hide (HPC.out.keep (In.keep hb).1 (In.keep hb).2)
         replace HFF:=hide (HFF.out.keep (In.keep hb).1 (In.keep hb).2)
         refine hK.out _ _ (KS.out _ hE) ?_
         clear hK K hD hb
         clear wA2
         try simp only [Act.put,List.setIfInBounds_toArray,List.set_cons_zero,List.set_cons_succ]
         have hD:=hE
         clear hE
         refine stepL (i:=5) (At.s3 (At.s (At.s At.z))) (by kernel_rfl) (fun K hK=>?_)
         go_simp
         refine (toEvent_on hD op of lie).mono ?_
         rintro e wA4 ⟨rfl,hb,hE⟩
         replace HP:=hide (HP.out.keep (In.keep hb).1 (In.keep hb).2)
         replace HPC:=hide (HPC.out.keep (In.keep hb).1 (In.keep hb).2)
         replace HFF:=hide (HFF.out.keep (In.keep hb).1 (In.keep hb).2)
         replace HN:=hide (rowIs_calls HN.out hb)
         refine hK.out _ _ (KS.out _ hE) ?_
         clear hK K hD hb
         clear wA3
         try simp only [Act.put,List.setIfInBounds_toArray,List.set_cons_zero,List.set_cons_succ]
         have hD:=hE
         clear hE
         refine stepL (i:=6) (At.s3 (At.s3 At.z)) (by kernel_rfl) (fun K hK=>?_)
         go_simp
         refine (HIP.out _ _ _ _ _ _ _ _ hD HP.out HPC.out HFF.out (HBB.out.trans (hD.mono HBB.out.size))).mono ?_
         rintro e wA5 ⟨i1,ic1,i2,ic2,i3,ic3,rfl,hb,hE,HM⟩
         replace HN:=hide (rowIs_calls HN.out hb)
         refine hK.out _ _ (KS.out _ hE) ?_
         clear hK K hD hb HP HPC HFF
         clear wA4
         try simp only [Act.put,List.setIfInBounds_toArray,List.set_cons_zero,List.set_cons_succ]
         have hD:=hE
         clear hE
         obtain ⟨n0,n1,n2,n3,n4,m0,m1,m2,m3,m4⟩:=row5d HN.out
         have HG:=hide (done_laid (c:=C) (ok:=D.ok) hD HM.out HN.out hbn)
         clear HM HN hD
         refine endL (m:=8) (At.s3 (At.s3 (At.s (At.s At.z)))) (by kernel_rfl) (by kernel_rfl) (fun K hK=>?_)
         go_simp
         refine hK.out _ _ ?_
         clear hK K n0 n1 n2 n3 n4 m0 m1 m2 m3 m4
         go_wp2_with fail
         go_meet
         exact ⟨_,_,_,_,_,_,_,rfl,hbn,HG.out⟩
       ·go_simp
        obtain ⟨wA2,bn,e1,e2,hb,hE,HN,hbn⟩:=new_done hD
        rw [e1,e2]
        clear e1 e2
        replace HP:=hide (HP.out.keep (In.keep hb).1 (In.keep hb).2)
        replace HPC:=hide (HPC.out.keep (In.keep hb).1 (In.keep hb).2)
        refine hK.out _ _ (KS.out _ hE) ?_
        clear hK K hD hb
        clear wA1
        try simp only [Act.put,List.setIfInBounds_toArray,List.set_cons_zero,List.set_cons_succ]
        have hD:=hE
        clear hE
        refine stepL (i:=3) (At.s3 At.z) (by kernel_rfl) (fun K hK=>?_)
        go_simp
        refine (toFrame_on hD (KF.out _ (HBB.out.trans (hD.mono HBB.out.size))) SF.out).mono ?_
        rintro e wA3 ⟨g1,g2,g3,rfl,hb,hE,HFF⟩
        replace HP:=hide (HP.out.keep (In.keep hb).1 (In.keep hb).2)
        replace HPC:=hide (HPC.out.keep (In.keep hb).1 (In.keep hb).2)
        replace HN:=hide (rowIs_calls HN.out hb)
        refine hK.out _ _ (KS.out _ hE) ?_
        clear hK K hD hb
        clear wA2
        try simp only [Act.put,List.setIfInBounds_toArray,List.set_cons_zero,List.set_cons_succ]
        have hD:=hE
        clear hE
        refine stepL (i:=5) (At.s3 (At.s (At.s At.z))) (by kernel_rfl) (fun K hK=>?_)
        go_simp
        refine (toEvent_on hD op of lie).mono ?_
        rintro e wA4 ⟨rfl,hb,hE⟩
        replace HP:=hide (HP.out.keep (In.keep hb).1 (In.keep hb).2)
        replace HPC:=hide (HPC.out.keep (In.keep hb).1 (In.keep hb).2)
        replace HN:=hide (rowIs_calls HN.out hb)
        replace HFF:=hide (HFF.out.keep (In.keep hb).1 (In.keep hb).2)
        refine hK.out _ _ (KS.out _ hE) ?_
        clear hK K hD hb
        clear wA3
        try simp only [Act.put,List.setIfInBounds_toArray,List.set_cons_zero,List.set_cons_succ]
        have hD:=hE
        clear hE
        refine stepL (i:=6) (At.s3 (At.s3 At.z)) (by kernel_rfl) (fun K hK=>?_)
        go_simp
        refine (HIP.out _ _ _ _ _ _ _ _ hD HP.out HPC.out HFF.out (HBB.out.trans (hD.mono HBB.out.size))).mono ?_
        rintro e wA5 ⟨i1,ic1,i2,ic2,i3,ic3,rfl,hb,hE,HM⟩
        replace HN:=hide (rowIs_calls HN.out hb)
        refine hK.out _ _ (KS.out _ hE) ?_
        clear hK K hD hb HP HPC HFF
        clear wA4
        try simp only [Act.put,List.setIfInBounds_toArray,List.set_cons_zero,List.set_cons_succ]
        have hD:=hE
        clear hE
        obtain ⟨n0,n1,n2,n3,n4,m0,m1,m2,m3,m4⟩:=row5d HN.out
        have HG:=hide (done_laid (c:=C) (ok:=D.ok) hD HM.out HN.out hbn)
        clear HM HN hD
        refine endL (m:=8) (At.s3 (At.s3 (At.s (At.s At.z)))) (by kernel_rfl) (by kernel_rfl) (fun K hK=>?_)
        go_simp
        refine hK.out _ _ ?_
        clear hK K n0 n1 n2 n3 n4 m0 m1 m2 m3 m4
        go_wp2_with fail
        go_meet
        exact ⟨_,_,_,_,_,_,_,rfl,hbn,HG.out⟩
      ·go_simp
       obtain ⟨wA1,bn,e1,e2,hb,hE,HN,hbn⟩:=new_done hD
       rw [e1,e2]
       clear e1 e2
       refine hK.out _ _ (KS.out _ hE) ?_
       clear hK K hD hb
       clear wA0
       try simp only [Act.put,List.setIfInBounds_toArray,List.set_cons_zero,List.set_cons_succ]
       have hD:=hE
       clear hE
       refine stepL (i:=1) (At.s At.z) (by kernel_rfl) (fun K hK=>?_)
       go_simp
       refine (toPlan_on hD (KP.out _ (HBB.out.trans (hD.mono HBB.out.size))) SM.out).mono ?_
       rintro e wA2 ⟨u1,u2,u3,rfl,hb,hE,HP,HPC⟩
       replace HN:=hide (rowIs_calls HN.out hb)
       refine hK.out _ _ (KS.out _ hE) ?_
       clear hK K hD hb
       clear wA1
       try simp only [Act.put,List.setIfInBounds_toArray,List.set_cons_zero,List.set_cons_succ]
       have hD:=hE
       clear hE
       refine stepL (i:=3) (At.s3 At.z) (by kernel_rfl) (fun K hK=>?_)
       go_simp
       refine (toFrame_on hD (KF.out _ (HBB.out.trans (hD.mono HBB.out.size))) SF.out).mono ?_
       rintro e wA3 ⟨g1,g2,g3,rfl,hb,hE,HFF⟩
       replace HN:=hide (rowIs_calls HN.out hb)
       replace HP:=hide (HP.out.keep (In.keep hb).1 (In.keep hb).2)
       replace HPC:=hide (HPC.out.keep (In.keep hb).1 (In.keep hb).2)
       refine hK.out _ _ (KS.out _ hE) ?_
       clear hK K hD hb
       clear wA2
       try simp only [Act.put,List.setIfInBounds_toArray,List.set_cons_zero,List.set_cons_succ]
       have hD:=hE
       clear hE
       refine stepL (i:=5) (At.s3 (At.s (At.s At.z))) (by kernel_rfl) (fun K hK=>?_)
       go_simp
       refine (toEvent_on hD op of lie).mono ?_
       rintro e wA4 ⟨rfl,hb,hE⟩
       replace HN:=hide (rowIs_calls HN.out hb)
       replace HP:=hide (HP.out.keep (In.keep hb).1 (In.keep hb).2)
       replace HPC:=hide (HPC.out.keep (In.keep hb).1 (In.keep hb).2)
       replace HFF:=hide (HFF.out.keep (In.keep hb).1 (In.keep hb).2)
       refine hK.out _ _ (KS.out _ hE) ?_
       clear hK K hD hb
       clear wA3
       try simp only [Act.put,List.setIfInBounds_toArray,List.set_cons_zero,List.set_cons_succ]
       have hD:=hE
       clear hE
       refine stepL (i:=6) (At.s3 (At.s3 At.z)) (by kernel_rfl) (fun K hK=>?_)
       go_simp
       refine (HIP.out _ _ _ _ _ _ _ _ hD HP.out HPC.out HFF.out (HBB.out.trans (hD.mono HBB.out.size))).mono ?_
       rintro e wA5 ⟨i1,ic1,i2,ic2,i3,ic3,rfl,hb,hE,HM⟩
       replace HN:=hide (rowIs_calls HN.out hb)
       refine hK.out _ _ (KS.out _ hE) ?_
       clear hK K hD hb HP HPC HFF
       clear wA4
       try simp only [Act.put,List.setIfInBounds_toArray,List.set_cons_zero,List.set_cons_succ]
       have hD:=hE
       clear hE
       obtain ⟨n0,n1,n2,n3,n4,m0,m1,m2,m3,m4⟩:=row5d HN.out
       have HG:=hide (done_laid (c:=C) (ok:=D.ok) hD HM.out HN.out hbn)
       clear HM HN hD
       refine endL (m:=8) (At.s3 (At.s3 (At.s (At.s At.z)))) (by kernel_rfl) (by kernel_rfl) (fun K hK=>?_)
       go_simp
       refine hK.out _ _ ?_
       clear hK K n0 n1 n2 n3 n4 m0 m1 m2 m3 m4
       go_wp2_with fail
       go_meet
       exact ⟨_,_,_,_,_,_,_,rfl,hbn,HG.out⟩
     case rest=>
      obtain ⟨bh,i1,ic1,i2,ic2,i3,ic3,rfl,hbh,hbH,hrH,hFH⟩:=hcut
      rename World=>wH
      have RH:Rows [(w.heap.size,26,#[.int .i64 p.sections,v1,v2,v3,.int .i64 p.hold]),(w.heap.size + 1,31,#[.bool d.ok,f1,f2,f3]),(w.heap.size + 2,48,#[.int .i64 op,.int .i64 of,.int .i64 lie]),(bd,50,#[.int .i64 C,.bool D.ok,.slice r1 D.occ.length rc1,.slice r2 D.points.length rc2,.slice r3 D.ways.length rc3]),(w4.heap.size,37,#[.int .i64 p.sections,.slice y1 p.switches.length z1,.slice y2 p.ways.length z2,.slice y3 p.bars.length z3,.int .i64 p.hold]),(w6.heap.size,42,#[.bool d.ok,.slice q1 d.occ.length s1,.slice q2 d.points.length s2,.slice q3 d.ways.length s3]),(be,50,#[.int .i64 C,.bool D.ok,.slice j1 D.occ.length jc1,.slice j2 D.points.length jc2,.slice j3 D.ways.length jc3]),(bh,50,#[.int .i64 C,.bool D.ok,.slice i1 D.occ.length ic1,.slice i2 D.points.length ic2,.slice i3 D.ways.length ic3])] wH:=(RG.call hbH).snoc hrH
      have hzH:=hbH.size
      have HBH:=hide (HBB.out.trans (hbH.mono HBB.out.size))
      have hFSH:FrameAt (In wH) wH (.slice r1 D.occ.length rc1) (.slice r2 D.points.length rc2) (.slice r3 D.ways.length rc3) D:=HFSG.out.keep (same_below hbH fun b (hb:b < wZ.heap.size)=>by omega) fun b (hb:b < wZ.heap.size)=>show b < wH.heap.size by omega
      have HFIH:=hide (HFIG.out.keep (In.keep hbH).1 (In.keep hbH).2)
      have HQH:=hide (eqDone_any C D.ok _ _ _ _ _ _ D wH (hFH.there.read.keep (same_refl _ _) (Q:=In wH) fun b hb=>hb.2) hFSH SD.out)
      clear hbH hrH hFH hFSH RG KS HBB HFSG HFIG
      obtain ⟨cH0,cH1,cH2,cH3,cH4⟩:=RH.cells5 (j:=7) rfl
      obtain ⟨cS0,cS1,cS2,cS3,cS4⟩:=RH.cells5 (j:=3) rfl
      go_wp2_with fail
      refine HQH.out.mono ?_
      clear cH0 cH1 cH2 cH3 cH4 cS0 cS1 cS2 cS3 cS4 HQH
      rintro e wL ⟨rfl,hbL⟩
      have RL:=RH.call hbL
      have HBL:=hide (HBH.out.trans (hbL.mono HBH.out.size))
      have HHL:=hide (heldDone_any (.int .i64 C) (.bool D.ok) _ _ _ D 1 wL (HFIH.out.keep (In.keep hbL).1 (In.keep hbL).2) SD.out (by omega) (by omega))
      rw [HCN.out] at HHL
      clear hbL RH HBH HFIH
      obtain ⟨cI0,cI1,cI2,cI3,cI4⟩:=RL.cells5 (j:=6) rfl
      go_wp2_with fail
      refine HHL.out.mono ?_
      clear cI0 cI1 cI2 cI3 cI4 HHL
      rintro e wM ⟨rfl,hbM⟩
      have HBM:=hide (HBL.out.trans (hbM.mono HBL.out.size))
      clear hbM RL HBL
      go_wp2
      go_ret
      exact ⟨rfl,HBM.out⟩
end Go.Proofs.YtdhinkgjiapigabGreatDoor

import Derived.Test.YtdhinkgjiapigaaGreatDoorPlI
import Derived.Test.YtdhinkgjiapigaaGreatDoorDltx
import Derived.Test.YtdhinkgjiapigaaGreatDoorRanA
import Derived.Test.YtdhinkgjiapigaaGreatDoorWantA
import Derived.Test.YtdhinkgjiapigaaGreatDoorImpl
import Derived.Stop.RegionWithIn
import Derived.Sort.CutIn
namespace Go.Proofs.YtdhinkgjiapigaaGreatDoor
open Go.RowKit Go.Shelf Go.Deep
open Classical
attribute [local go_sem] Oper.semAt_some
theorem zuz {P:Program} {c:Code} {Q:Exit → Act → World → Prop} {a:Act} {w:World} (h:c.wp P (Exit.then (fun a w=>Q .normal a w) (fun _ _ _=>False)) a w):c.wp P Q a w:=
 Code.wp_mono (fun e a w h=>by cases e <;> first | exact h | exact h.elim) h
theorem zux {p:PlanD} {d:FrameD} {s:Int} (hl:d.ways.length = p.ways.length) (h:(za6 d.ways d.ways.length).filter (zub p d s) = []):zuj p d s = -1:=by
 have:=zum p d s p.ways.length;rw [← hl,h] at this;unfold zuj;rw [← hl,← this]; rfl
theorem zuy {p:PlanD} {d:FrameD} {s:Int} {x:Nat} (hl:d.ways.length = p.ways.length) (h:[x] <+: (za6 d.ways d.ways.length).filter (zub p d s)):zuj p d s = x:=by
 have:=zum p d s p.ways.length;obtain ⟨t,ht⟩:=h;rw [← hl,← ht] at this;unfold zuj;rw [← hl,← this]; rfl
set_option maxRecDepth 100000 in
set_option maxHeartbeats 8000000 in
theorem zuc (p1 p2 p3 f1 f2 f3:Value) (p:PlanD) (d:FrameD) (s:Int) (w:World) (hp:PlanAt (In w) w p1 p2 p3 p) (hc:WaysC (In w) w p2 p.ways) (hf:FrameAt (In w) w f1 f2 f3 d) (hs:p.Small 1048576) (hd:d.Small 1048576)
  (hfo:∀ W,Below w.heap.size w W → Calls Tryz.prog 18 #[.agg #[.int .i64 p.sections,p1,p2,p3,.int .i64 p.hold],.agg #[.bool d.ok,f1,f2,f3]] W fun e w'=>e = .returned (.bool (B (zas p d))) ∧ Below W.heap.size W w') :
  Calls Tryz.prog 20 #[.agg #[.int .i64 p.sections,p1,p2,p3,.int .i64 p.hold],.agg #[.bool d.ok,f1,f2,f3],.int .i64 s] w fun e w'=>e = .returned (.int .i64 (zug p d s)) ∧ Below w.heap.size w w':=by
 have T0:=zbs w 27 40 3 #[.int .i64 p.sections,p1,p2,p3,.int .i64 p.hold] #[.bool d.ok,f1,f2,f3] #[.int .i64 0];have KC:=zaa fun (W:World) (h:Below w.heap.size w W)=>hc.keep (Q:=In w) (In.keep h).1 fun _ hb=>hb;have KH:=zaa fun (W:World) (h:Below w.heap.size w W)=>hf.2.2.keep (Q:=In w) (In.keep h).1 fun _ hb=>hb;have HFO:=zaa hfo;obtain ⟨a1,c1,rfl⟩:=hp.1.size;obtain ⟨a2,c2,rfl⟩:=hp.2.1.size;obtain ⟨a3,c3,rfl⟩:=hp.2.2.size;obtain ⟨o1,m1,rfl⟩:=hf.1.size;obtain ⟨o2,m2,rfl⟩:=hf.2.1.size;obtain ⟨o3,m3,rfl⟩:=hf.2.2.size;have HS:=zaa hs;have HD:=zaa hd;clear hfo hs hd hc hp hf;refine (callsIn_wide (n:=0)).1 (callsIn_of_wp_marks Tryz.func20 rfl trivial ?_ rfl);simp only [Tryz.ntmps20,List.size_toArray,List.length_cons,List.length_nil,Nat.reduceAdd,Nat.reduceSub,Array.replicate_succ,Array.replicate_zero,List.push_toArray,List.append_toArray,List.nil_append,List.cons_append];have b0:=T0.cell (j:=0) (i:=0) rfl rfl;have b1:=T0.cell (j:=0) (i:=1) rfl rfl;have b2:=T0.cell (j:=0) (i:=2) rfl rfl;have b3:=T0.cell (j:=0) (i:=3) rfl rfl;have b4:=T0.cell (j:=0) (i:=4) rfl rfl;have e0:=T0.cell (j:=1) (i:=0) rfl rfl;have e1:=T0.cell (j:=1) (i:=1) rfl rfl;have e2:=T0.cell (j:=1) (i:=2) rfl rfl;have e3:=T0.cell (j:=1) (i:=3) rfl rfl;rw [Nat.add_zero] at b0 b1 b2 b3 b4
 gi_wp2_with fail
 refine ⟨trivial,rfl,(callsIn_wide.2 (HFO.out _ T0.below)).mono ?_⟩;clear b0 b1 b2 b3 b4 e0 e1 e2 e3;rintro e w1 ⟨rfl,hb⟩;have T1:=T0.call hb;clear T0 hb HFO;have b0:=T1.cell (j:=0) (i:=0) rfl rfl;have b1:=T1.cell (j:=0) (i:=1) rfl rfl;have b2:=T1.cell (j:=0) (i:=2) rfl rfl;have b3:=T1.cell (j:=0) (i:=3) rfl rfl;have b4:=T1.cell (j:=0) (i:=4) rfl rfl;have e0:=T1.cell (j:=1) (i:=0) rfl rfl;have e1:=T1.cell (j:=1) (i:=1) rfl rfl;have e2:=T1.cell (j:=1) (i:=2) rfl rfl;have e3:=T1.cell (j:=1) (i:=3) rfl rfl;have r0:=T1.cell (j:=2) (i:=0) rfl rfl;have q0:=T1.frozen (j:=2) 0 rfl;rw [Nat.add_zero] at b0 b1 b2 b3 b4;by_cases hfr:zas p d
 case neg=>
  rw [zae hfr];have HFR:=zaa hfr;clear hfr
  gi_wp2
  refine ⟨trivial,?_⟩
  gi_wp2
  have hset:(w1.setCell ⟨w.heap.size + 1 + 1,0,none⟩ (.int .i64 (-1))).cell? ⟨w.heap.size + 1 + 1,0,none⟩ = some (.int .i64 (-1)):=World.cell?_setCell_same' _ _ _ (by rw [r0]; rfl);exact ⟨.int .i64 (-1),by simp [results,Tryz.f20,go_sem,hset],by rw [zue fun z=>HFR.out z.1],T1.below.setCell (p:=⟨w.heap.size + 1 + 1,0,none⟩) (by show _ ≤ w.heap.size + 1 + 1; omega) _⟩
 rw [zam hfr];have HFR:=zaa hfr;clear hfr
 gi_wp2_with fail
 refine ⟨trivial,rfl,(callsIn_wide.2 (zds p.sections s _ _ _ _ w1)).mono ?_⟩;clear b0 b1 b2 b3 b4 e0 e1 e2 e3 r0 q0;rintro e w2 ⟨rfl,hb⟩;have T2:=T1.call hb;clear T1 hb;have b0:=T2.cell (j:=0) (i:=0) rfl rfl;have b1:=T2.cell (j:=0) (i:=1) rfl rfl;have b2:=T2.cell (j:=0) (i:=2) rfl rfl;have b3:=T2.cell (j:=0) (i:=3) rfl rfl;have b4:=T2.cell (j:=0) (i:=4) rfl rfl;have e0:=T2.cell (j:=1) (i:=0) rfl rfl;have e1:=T2.cell (j:=1) (i:=1) rfl rfl;have e2:=T2.cell (j:=1) (i:=2) rfl rfl;have e3:=T2.cell (j:=1) (i:=3) rfl rfl;have r0:=T2.cell (j:=2) (i:=0) rfl rfl;have q0:=T2.frozen (j:=2) 0 rfl;rw [Nat.add_zero] at b0 b1 b2 b3 b4;by_cases hin:InR s 0 (p.sections - 1)
 case neg=>
  rw [zae hin];have HIN:=zaa hin;clear hin
  gi_wp2
  have hset:(w2.setCell ⟨w.heap.size + 1 + 1,0,none⟩ (.int .i64 (-1))).cell? ⟨w.heap.size + 1 + 1,0,none⟩ = some (.int .i64 (-1)):=World.cell?_setCell_same' _ _ _ (by rw [r0]; rfl);exact ⟨.int .i64 (-1),by simp [results,Tryz.f20,go_sem,hset],by rw [zue fun z=>HIN.out z.2],T2.below.setCell (p:=⟨w.heap.size + 1 + 1,0,none⟩) (by show _ ≤ w.heap.size + 1 + 1; omega) _⟩
 rw [zam hin];have HIN:=zaa hin;clear hin
 gi_wp2
 have hq:Calls Tryz.prog 56 #[.agg #[.bool d.ok,.slice o1 d.occ.length m1,.slice o2 d.points.length m2,.slice o3 d.ways.length m3]] w2.drew fun e w3=>e = .returned (.func (.func 99) #[] #[.pointer (some ⟨w2.heap.size,0,none⟩)]) ∧ w3 = w2.drew.alloc (.cells #[.bool d.ok,.slice o1 d.occ.length m1,.slice o2 d.points.length m2,.slice o3 d.ways.length m3] 40) ∧ Boxes w [(27,#[.int .i64 p.sections,.slice a1 p.switches.length c1,.slice a2 p.ways.length c2,.slice a3 p.bars.length c3,.int .i64 p.hold]),(40,#[.bool d.ok,.slice o1 d.occ.length m1,.slice o2 d.points.length m2,.slice o3 d.ways.length m3]),(3,#[.int .i64 0])] w3:=by
  refine (zf5 _ _ _ _ _).mono ?_;rintro e w3 ⟨rfl,rfl⟩;exact ⟨rfl,rfl,(T2.call (zaf _)).call (zab _ _)⟩
 have HQ:=zaa hq;clear hq
 gi_cut [23] from 26 (fun v wc=>v = .func (.func 98) #[] #[.pointer (some ⟨w2.heap.size + 1,0,none⟩),.pointer (some ⟨w2.heap.size + 1 + 1,0,none⟩)] ∧
  wc = ((w2.drew.alloc (.cells #[.bool d.ok,.slice o1 d.occ.length m1,.slice o2 d.points.length m2,.slice o3 d.ways.length m3] 40)).alloc (.cells #[.func (.func 99) #[] #[.pointer (some ⟨w2.heap.size,0,none⟩)]] 96)).alloc (.cells #[.func (.func 57) #[.agg #[.int .i64 p.sections,.slice a1 p.switches.length c1,.slice a2 p.ways.length c2,.slice a3 p.bars.length c3,.int .i64 p.hold,.bool d.ok,.slice o1 d.occ.length m1,.slice o2 d.points.length m2,.slice o3 d.ways.length m3,.int .i64 s]] #[]] 99))
 case first=>
  refine wpIn_wide.2 (zuz ?_)
  go_region_with (first | (go_at_call 56; refine HQ.out.mono ?_; rintro e w3 ⟨rfl,hw3,T3⟩; have HW3:=zaa hw3; clear hw3; have k0:=T3.cell (j:=0) (i:=0) rfl rfl; have k1:=T3.cell (j:=0) (i:=1) rfl rfl; have k2:=T3.cell (j:=0) (i:=2) rfl rfl; have k3:=T3.cell (j:=0) (i:=3) rfl rfl; have k4:=T3.cell (j:=0) (i:=4) rfl rfl; rw [Nat.add_zero] at k0 k1 k2 k3 k4; have l0:=T3.cell (j:=1) (i:=0) rfl rfl; have l1:=T3.cell (j:=1) (i:=1) rfl rfl; have l2:=T3.cell (j:=1) (i:=2) rfl rfl; have l3:=T3.cell (j:=1) (i:=3) rfl rfl) | (go_at_call 55; refine (zeb _ _ _ _ _).mono ?_; rintro e w4 ⟨rfl,hw4⟩; have HW4:=zaa hw4; clear hw4))
  all_goals
   gi_wp2_with fail
   gi_meet
   have hw3:=HW3.out;have hw4:=HW4.out;subst hw3;refine ⟨by simp,hw4⟩
 case rest=>
  obtain ⟨rfl,hwc⟩:=hcut;have HWC:=zaa hwc;clear hwc b0 b1 b2 b3 b4 e0 e1 e2 e3 HQ
  gi_wp2
  have hwc:=HWC.out;have TB:=zbs w2.drew 40 96 99 #[.bool d.ok,.slice o1 d.occ.length m1,.slice o2 d.points.length m2,.slice o3 d.ways.length m3] #[.func (.func 99) #[] #[.pointer (some ⟨w2.heap.size,0,none⟩)]] #[.func (.func 57) #[.agg #[.int .i64 p.sections,.slice a1 p.switches.length c1,.slice a2 p.ways.length c2,.slice a3 p.bars.length c3,.int .i64 p.hold,.bool d.ok,.slice o1 d.occ.length m1,.slice o2 d.points.length m2,.slice o3 d.ways.length m3,.int .i64 s]] #[]]
  have hsz:wc.heap.size = w2.heap.size + 3:=by rw [hwc]; simp
  rw [← hwc] at TB;clear hwc;have Tc:=(T2.call (zaf _)).call TB.below;have f0:wc.cell? ⟨w2.heap.size,0,none⟩ = some (.bool d.ok):=TB.cell (j:=0) (i:=0) rfl rfl;have f1:wc.cell? ⟨w2.heap.size,1,none⟩ = some (.slice o1 d.occ.length m1):=TB.cell (j:=0) (i:=1) rfl rfl;have f2:wc.cell? ⟨w2.heap.size,2,none⟩ = some (.slice o2 d.points.length m2):=TB.cell (j:=0) (i:=2) rfl rfl;have f3:wc.cell? ⟨w2.heap.size,3,none⟩ = some (.slice o3 d.ways.length m3):=TB.cell (j:=0) (i:=3) rfl rfl;have cV:wc.cell? ⟨w2.heap.size + 1,0,none⟩ = some (.func (.func 99) #[] #[.pointer (some ⟨w2.heap.size,0,none⟩)]):=TB.cell (j:=1) (i:=0) rfl rfl;have cK:wc.cell? ⟨w2.heap.size + 1 + 1,0,none⟩ = some (.func (.func 57) #[.agg #[.int .i64 p.sections,.slice a1 p.switches.length c1,.slice a2 p.ways.length c2,.slice a3 p.bars.length c3,.int .i64 p.hold,.bool d.ok,.slice o1 d.occ.length m1,.slice o2 d.points.length m2,.slice o3 d.ways.length m3,.int .i64 s]] #[]):=TB.cell (j:=2) (i:=0) rfl rfl;have hl:d.ways.length = p.ways.length:=HFR.out.2.2.2.2.1;have hw2:=T2.below.size
  have hkeep:∀ x W,x ∈ za6 d.ways d.ways.length → Below wc.heap.size wc W → Calls Tryz.prog 57 ((#[.agg #[.int .i64 p.sections,.slice a1 p.switches.length c1,.slice a2 p.ways.length c2,.slice a3 p.bars.length c3,.int .i64 p.hold,.bool d.ok,.slice o1 d.occ.length m1,.slice o2 d.points.length m2,.slice o3 d.ways.length m3,.int .i64 s]]:Array Value).push (.int .i64 (x:Int))) W fun e W'=>e = .returned (.bool (zub p d s x)) ∧ Below W.heap.size W W':=fun x W hx hW=>by
   have hB:Below w.heap.size w W:=Tc.below.trans (hW.mono Tc.below.size);have hlt:=(zeu hx).1;obtain ⟨y,hy⟩:=zac p.ways (zaa rfl) (show x < p.ways.length by omega);obtain ⟨g,hg⟩:=zac d.ways (zaa rfl) hlt;obtain ⟨q1,q2⟩:=zfv HFR.out hy hg;rw [zui hy hg];exact zm1 _ _ _ _ _ _ _ _ _ p.ways d.ways x y g s W ((KC.out W hB).keep (zax _ _) fun b hb=>Nat.lt_of_lt_of_le hb hB.size) ((KH.out W hB).keep (zax _ _) fun b hb=>Nat.lt_of_lt_of_le hb hB.size) hy hg HS.out.2.1 HD.out.2.2.1 (HS.out.2.2.1 y (List.mem_of_getElem? hy)).1 q1 q2
  have hgv:=zc9 99 57 #[.pointer (some ⟨w2.heap.size,0,none⟩)] #[.agg #[.int .i64 p.sections,.slice a1 p.switches.length c1,.slice a2 p.ways.length c2,.slice a3 p.bars.length c3,.int .i64 p.hold,.bool d.ok,.slice o1 d.occ.length m1,.slice o2 d.points.length m2,.slice o3 d.ways.length m3,.int .i64 s]] wc.heap.size 0 (w2.heap.size + 1) (w2.heap.size + 1 + 1) (za6 d.ways d.ways.length) (zub p d s) wc (by omega) (by omega) (Nat.le_refl _)
   (enters_of Tryz.func99 (by kernel_rfl) rfl) (enters_of Tryz.func57 (by kernel_rfl) rfl) cV cK
   (zd3 _ _ _ _ d.ways wc.heap.size w2.heap.size wc (by omega) (Nat.le_refl _) f0 f1 f2 f3 ((KH.out wc Tc.below).keep (zax _ _) fun b hb=>Nat.lt_of_lt_of_le hb Tc.below.size) HD.out.2.2.1) hkeep
  have HGV:=zaa hgv;have r1:=Tc.cell (j:=2) (i:=0) rfl rfl;have q1:=Tc.frozen (j:=2) 0 rfl;have HTC:=zaa Tc.below;have HL:=zaa hl;clear hgv hkeep f0 f1 f2 f3 cV cK TB r0 q0 T2 hl
  refine zhe (w0:=wc) (n0:=wc.heap.size) (c:=3 + 0) rfl (enters_of Tryz.func98 (by kernel_rfl) rfl) HGV.out (Below.refl _ _) (Nat.le_refl _) (fun _=>rfl)
   (fun pre W=>pre = [] ∧ W.cell? ⟨w.heap.size + 1 + 1,0,none⟩ = some (.int .i64 0) ∧ W.frozen? ⟨w.heap.size + 1 + 1,0,none⟩ = false ∧ Below w.heap.size w W)
   (fun pre W=>∃ x:Nat,pre = [x] ∧ W.cell? ⟨w.heap.size + 1 + 1,0,none⟩ = some (.int .i64 (x:Int)) ∧ Below w.heap.size w W)
   (fun _ A B row hs hg hr=>⟨hs.1,cell_kept hs.2.1 hg fun r e=>(hr r e).2,(frozen_kept hs.2.1 hg fun r e=>(hr r e).2).trans hs.2.2.1,hs.2.2.2.grown hg hs.2.2.2.size fun r e=>by have:=(hr r e).1; omega⟩)
   (fun _ A B row ⟨x,h1,h2,h3⟩ hg hr=>⟨x,h1,cell_kept h2 hg fun r e=>(hr r e).2,h3.grown hg h3.size fun r e=>by have:=(hr r e).1; omega⟩)
   ⟨rfl,r1,q1,HTC.out⟩
   (fun x=>{ tmps:=#[.agg #[.int .i64 p.sections,.slice a1 p.switches.length c1,.slice a2 p.ways.length c2,.slice a3 p.bars.length c3,.int .i64 p.hold],.agg #[.bool d.ok,.slice o1 d.occ.length m1,.slice o2 d.points.length m2,.slice o3 d.ways.length m3],.int .i64 s,.pointer (some ⟨w.heap.size,0,none⟩),.pointer (some ⟨w.heap.size + 1,0,none⟩),undef,.pointer (some ⟨w.heap.size + 1 + 1,0,none⟩),.int .i64 (x:Int),.agg #[.int .i64 p.sections,.slice a1 p.switches.length c1,.slice a2 p.ways.length c2,.slice a3 p.bars.length c3,.int .i64 p.hold],.agg #[.bool d.ok,.slice o1 d.occ.length m1,.slice o2 d.points.length m2,.slice o3 d.ways.length m3],.bool true,.bool true,.agg #[.int .i64 p.sections,.slice a1 p.switches.length c1,.slice a2 p.ways.length c2,.slice a3 p.bars.length c3,.int .i64 p.hold],.int .i64 s,.bool true,.bool true,u16,u17,u18,u19,u20,u21,u22,.func (.func 98) #[] #[.pointer (some ⟨w2.heap.size + 1,0,none⟩),.pointer (some ⟨w2.heap.size + 1 + 1,0,none⟩)],.int .i64 (x:Int),undef],defers:=[] }) ?assign ?body ?done ?stop
  case assign=>
   intro lr x Wr K hK
   gi_wp2
   exact hK
  case body=>
   rintro lr pre x Wr hpre hszr ⟨rfl,hcr,hfz,hB⟩
   gi_wp2
   exact ⟨fun k h1 _=>Below.heap_setCell _ _ _ k (by show k ≠ w.heap.size + 1 + 1; omega),x,rfl,World.cell?_setCell_same' _ _ _ (by rw [hcr]; rfl),hB.setCell (p:=⟨w.heap.size + 1 + 1,0,none⟩) (by show _ ≤ w.heap.size + 1 + 1; omega) _⟩
  case done=>
   rintro D Wr hD ⟨hnil,hcr,hfz,hB⟩ hK
   gi_wp2
   have hK':(Wr.setCell ⟨w.heap.size + 1 + 1,0,none⟩ (.int .i64 (-1))).heap[D]? = some (.deferred (some [])):=(Below.heap_setCell _ _ _ D (by show D ≠ w.heap.size + 1 + 1; omega)).trans hK;refine ⟨by simp,.inl ⟨_,_,rfl,run_takeDeferred hK',?_⟩⟩;have hc5:=cell_kept (World.cell?_setCell_same' Wr ⟨w.heap.size + 1 + 1,0,none⟩ (.int .i64 (-1)) (by rw [hcr]; rfl)) (grownBy_putObj' _ D (.deferred none)) (fun r e=>by cases e; exact ⟨_,hK',rfl⟩);refine ⟨.int .i64 (-1),?_,by rw [zua HFR.out HIN.out,zux HL.out hnil],(hB.setCell (p:=⟨w.heap.size + 1 + 1,0,none⟩) (by show _ ≤ w.heap.size + 1 + 1; omega) _).trans (belowK_b (w:=w) (Nat.le_refl _) _ D _ _ (by omega) hK' rfl rfl)⟩;simp [results,Tryz.f20,go_sem,hc5]
  case stop=>
   rintro D pre Wr hD hpre ⟨x,rfl,hcr,hB⟩ hK
   gi_wp2
   refine ⟨by simp,.inl ⟨_,_,rfl,run_takeDeferred hK,?_⟩⟩;have hc5:=cell_kept hcr (grownBy_putObj' _ D (.deferred none)) (fun r e=>by cases e; exact ⟨_,hK,rfl⟩);refine ⟨.int .i64 (x:Int),?_,by rw [zua HFR.out HIN.out,zuy HL.out hpre],hB.trans (belowK_b (w:=w) (Nat.le_refl _) Wr D _ _ (by omega) hK rfl rfl)⟩;simp [results,Tryz.f20,go_sem,hc5]
end Go.Proofs.YtdhinkgjiapigaaGreatDoor

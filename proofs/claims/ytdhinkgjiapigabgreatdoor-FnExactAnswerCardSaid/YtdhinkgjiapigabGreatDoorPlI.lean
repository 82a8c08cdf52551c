import Derived.Test.YtdhinkgjiapigabGreatDoorSpec7
import Derived.Test.YtdhinkgjiapigabGreatDoorRanA
import Derived.Test.YtdhinkgjiapigabGreatDoorBase
import Derived.Test.YtdhinkgjiapigabGreatDoorWantA
import Derived.Test.YtdhinkgjiapigabGreatDoorColl
import Derived.Test.YtdhinkgjiapigabGreatDoorLocksA
import Derived.Deep.RegionWith
namespace Go.Proofs.YtdhinkgjiapigabGreatDoor
open Classical
theorem zfv {p:PlanD} {d:FrameD} (h:zas p d) {i:Nat} {x:WayD} {g:HeldD} (hx:p.ways[i]? = some x) (hh:d.ways[i]? = some g):0 ≤ g.gone ∧ g.gone < x.sections.length:=by
 have:=(h.2.2.2.2.2.2.1 i (List.getElem?_eq_some_iff.1 hh).1 x g hx hh).1;obtain ⟨a,b⟩:=this.2.2.1;exact ⟨a,by omega⟩
end Go.Proofs.YtdhinkgjiapigabGreatDoor
namespace Go.Proofs.YtdhinkgjiapigabGreatDoor
open Classical
def zir (p:PlanD) (d:FrameD) (q:Nat) (i:Nat):Bool:=match p.ways[i]?,d.ways[i]? with
 | some x,some h=>zgf p.switches x h q
 | _,_=>false
theorem zis {p:PlanD} {d:FrameD} {q i:Nat} {x:WayD} {h:HeldD} (hx:p.ways[i]? = some x) (hh:d.ways[i]? = some h):zir p d q i = zgf p.switches x h q:=by
 unfold zir; rw [hx,hh]
theorem zlw {α:Type} {f:α → Bool} {l:List α} (h:l.any f = true):∃ y,l.find? f = some y:=by
 cases e:l.find? f with
 | none=>
  rw [List.find?_eq_none] at e;obtain ⟨y,hy,hf⟩:=List.any_eq_true.1 h;exact absurd hf (by simpa using e y hy)
 | some y=>exact ⟨y,rfl⟩
theorem zkh {α:Type} {f:α → Bool} {l:List α} (h:l.any f = false):l.find? f = none:=by
 rw [List.find?_eq_none];intro y hy hf;rw [List.any_eq_true.2 ⟨y,hy,hf⟩] at h
 cases h
theorem znp {sw:List Int} {x:WayD} {h:HeldD} {q:Nat} (hs:h.state ≠ 0) (hl:∀ y,(y ∈ x.lies ∨ y ∈ x.flanks) → 1 ≤ y.2):decide (0 < zdc sw x h q) = zgf sw x h q:=by
 unfold zgf
 cases hf:x.flanks.any (fun y=>y.1 == (q:Int)) with
 | true=>
  obtain ⟨y,hy⟩:=zlw hf;rw [zgg hs hy];have:=hl y (.inr (List.mem_of_find?_eq_some hy));simp; omega
 | false=>
  have hf':=zkh hf
  have hq:((q:Int)).toNat = q:=by simp
  cases hk:(x.sections.drop h.gone.toNat).any (· == sw.getD q 0) with
  | false=>
   have:x.lies.find? (fun y=>y.1 == (q:Int) && zb7 x h (sw.getD ((q:Int)).toNat 0)) = none:=by
    rw [List.find?_eq_none];intro y _;rw [hq];unfold zb7;rw [hk]; simp
   rw [ze2 hs hf' this];simp
  | true=>
   have hho:zb7 x h (sw.getD q 0) = true:=by unfold zb7; rw [hk]; simp [hs]
   cases ha:x.lies.any (fun y=>y.1 == (q:Int)) with
   | true=>
    obtain ⟨y,hy⟩:=zlw ha
    have:x.lies.find? (fun y=>y.1 == (q:Int) && zb7 x h (sw.getD ((q:Int)).toNat 0)) = some y:=by
     rw [hq,hho]; simpa using hy
    rw [ziq hs hf' this];have:=hl y (.inl (List.mem_of_find?_eq_some hy));simp; omega
   | false=>
    have hn:=zkh ha
    have:x.lies.find? (fun y=>y.1 == (q:Int) && zb7 x h (sw.getD ((q:Int)).toNat 0)) = none:=by
     rw [hq,hho]; simpa using hn
    rw [ze2 hs hf' this];simp
theorem zkz {p:PlanD} {d:FrameD} (hR:zas p d) (q:Nat):((za6 d.ways d.ways.length).filter (zir p d q)).map (fun i:Nat=>(i:Int)) = zbn p d q:=by
 unfold zbn za6;rw [List.filter_filter,hR.2.2.2.2.1];congr 1;apply List.filter_congr;intro i hi;rw [List.mem_range] at hi;obtain ⟨x,hx⟩:=zac p.ways (zaa rfl) hi;obtain ⟨h,hh⟩:=zac d.ways (zaa hR.2.2.2.2.1) hi;rw [zis hx hh,zd2 hh];unfold zcs;rw [hx,hh];by_cases hs:h.state = 0
 ·show _ = decide (0 < zdc p.switches x h q);rw [ze1 hs]; simp [hs]
 ·show _ = decide (0 < zdc p.switches x h q);rw [znp hs fun y hy=>?_]
  ·simp [hs]
  ·have hok:=hR.1.way hx;rcases hy with z | z
   ·obtain ⟨j,hj⟩:=List.getElem?_of_mem z;exact (hok.2.2.2.2.1.1 j (List.getElem?_eq_some_iff.1 hj).1 y hj).1.2.1
   ·obtain ⟨j,hj⟩:=List.getElem?_of_mem z;exact (hok.2.2.2.2.2.1.1 j (List.getElem?_eq_some_iff.1 hj).1 y hj).1.2.1
end Go.Proofs.YtdhinkgjiapigabGreatDoor
namespace Go.Proofs.YtdhinkgjiapigabGreatDoor
open Go.RowKit Go.Deep Go.Shelf
open Classical
theorem zkf (l:List Nat):zl6 l = zcg (l.map fun i:Nat=>(i:Int)):=by unfold zl6 zcg; rw [List.map_map]; rfl
set_option maxRecDepth 100000 in
set_option maxHeartbeats 8000000 in
theorem zfi (p1 p2 p3 f1 f2 f3:Value) (p:PlanD) (d:FrameD) (q:Nat) (w:World) (hp:PlanAt (In w) w p1 p2 p3 p) (hc:WaysC (In w) w p2 p.ways) (hf:FrameAt (In w) w f1 f2 f3 d) (hs:p.Small 1048576) (hd:d.Small 1048576) (hR:zas p d) (hq:q < p.switches.length) :
  Calls Tryz.prog 115 #[.agg #[.int .i64 p.sections,p1,p2,p3,.int .i64 p.hold],.agg #[.bool d.ok,f1,f2,f3],.int .i64 (q:Int)] w fun e w'=>∃ v,e = .returned v ∧ Below w.heap.size w w' ∧ ∃ m,w'.ownsRow w.heap.size 3 1 v m (zcg (zbn p d q)):=by
 have T0:=zbc w 37 42 #[.int .i64 p.sections,p1,p2,p3,.int .i64 p.hold] #[.bool d.ok,f1,f2,f3];have KI:=zaa fun (W:World) (h:Below w.heap.size w W)=>hp.1.keep (Q:=In W) (In.keep h).1 (In.keep h).2;have KC:=zaa fun (W:World) (h:Below w.heap.size w W)=>hc.keep (Q:=In W) (In.keep h).1 (In.keep h).2;have KH:=zaa fun (W:World) (h:Below w.heap.size w W)=>hf.2.2.keep (Q:=In W) (In.keep h).1 (In.keep h).2;obtain ⟨a1,c1,rfl⟩:=hp.1.size;obtain ⟨a2,c2,rfl⟩:=hp.2.1.size;obtain ⟨a3,c3,rfl⟩:=hp.2.2.size;obtain ⟨o1,m1,rfl⟩:=hf.1.size;obtain ⟨o2,m2,rfl⟩:=hf.2.1.size;obtain ⟨o3,m3,rfl⟩:=hf.2.2.size;have HS:=zaa hs;have HD:=zaa hd;have HFR:=zaa hR
 have hq2:Calls Tryz.prog 112 #[.agg #[.bool d.ok,.slice o1 d.occ.length m1,.slice o2 d.points.length m2,.slice o3 d.ways.length m3]] ((w.alloc (.cells #[.int .i64 p.sections,.slice a1 p.switches.length c1,.slice a2 p.ways.length c2,.slice a3 p.bars.length c3,.int .i64 p.hold] 37)).alloc (.cells #[.bool d.ok,.slice o1 d.occ.length m1,.slice o2 d.points.length m2,.slice o3 d.ways.length m3] 42)).drew fun e w3=>e = .returned (.func (.func 153) #[] #[.pointer (some ⟨w.heap.size + 1 + 1,0,none⟩)]) ∧ w3 = ((w.alloc (.cells #[.int .i64 p.sections,.slice a1 p.switches.length c1,.slice a2 p.ways.length c2,.slice a3 p.bars.length c3,.int .i64 p.hold] 37)).alloc (.cells #[.bool d.ok,.slice o1 d.occ.length m1,.slice o2 d.points.length m2,.slice o3 d.ways.length m3] 42)).drew.alloc (.cells #[.bool d.ok,.slice o1 d.occ.length m1,.slice o2 d.points.length m2,.slice o3 d.ways.length m3] 42) ∧ Boxes w [(37,#[.int .i64 p.sections,.slice a1 p.switches.length c1,.slice a2 p.ways.length c2,.slice a3 p.bars.length c3,.int .i64 p.hold]),(42,#[.bool d.ok,.slice o1 d.occ.length m1,.slice o2 d.points.length m2,.slice o3 d.ways.length m3])] w3:=by
  refine (zf5 _ _ _ _ _).mono ?_;rintro e w3 ⟨rfl,rfl⟩;exact ⟨by simp,rfl,(T0.call (zaf _)).call (zab _ _)⟩
 have HQ:=zaa hq2
 have hcol:∀ w3 w4,w3 = ((w.alloc (.cells #[.int .i64 p.sections,.slice a1 p.switches.length c1,.slice a2 p.ways.length c2,.slice a3 p.bars.length c3,.int .i64 p.hold] 37)).alloc (.cells #[.bool d.ok,.slice o1 d.occ.length m1,.slice o2 d.points.length m2,.slice o3 d.ways.length m3] 42)).drew.alloc (.cells #[.bool d.ok,.slice o1 d.occ.length m1,.slice o2 d.points.length m2,.slice o3 d.ways.length m3] 42) → w4 = (w3.alloc (.cells #[.func (.func 153) #[] #[.pointer (some ⟨w.heap.size + 1 + 1,0,none⟩)]] 125)).alloc (.cells #[.func (.func 156) #[.agg #[.int .i64 p.sections,.slice a1 p.switches.length c1,.slice a2 p.ways.length c2,.slice a3 p.bars.length c3,.int .i64 p.hold,.bool d.ok,.slice o1 d.occ.length m1,.slice o2 d.points.length m2,.slice o3 d.ways.length m3,.int .i64 (q:Int)]] #[]] 128) →
   Calls Tryz.prog 155 #[.func (.func 152) #[] #[.pointer (some ⟨w3.heap.size,0,none⟩),.pointer (some ⟨w3.heap.size + 1,0,none⟩)]] w4 fun e w'=>∃ v,e = .returned v ∧ Below w.heap.size w w' ∧ ∃ m,w'.ownsRow w.heap.size 3 1 v m (zcg (zbn p d q)):=fun w3 w4 hw3 hw4=>by
  have hz3:w3.heap.size = w.heap.size + 3:=by rw [hw3]; simp
  have TB:=zbs ((w.alloc (.cells #[.int .i64 p.sections,.slice a1 p.switches.length c1,.slice a2 p.ways.length c2,.slice a3 p.bars.length c3,.int .i64 p.hold] 37)).alloc (.cells #[.bool d.ok,.slice o1 d.occ.length m1,.slice o2 d.points.length m2,.slice o3 d.ways.length m3] 42)).drew 42 125 128 #[.bool d.ok,.slice o1 d.occ.length m1,.slice o2 d.points.length m2,.slice o3 d.ways.length m3] #[.func (.func 153) #[] #[.pointer (some ⟨w.heap.size + 1 + 1,0,none⟩)]] #[.func (.func 156) #[.agg #[.int .i64 p.sections,.slice a1 p.switches.length c1,.slice a2 p.ways.length c2,.slice a3 p.bars.length c3,.int .i64 p.hold,.bool d.ok,.slice o1 d.occ.length m1,.slice o2 d.points.length m2,.slice o3 d.ways.length m3,.int .i64 (q:Int)]] #[]];rw [← hw3,← hw4] at TB
  have hz0:((w.alloc (.cells #[.int .i64 p.sections,.slice a1 p.switches.length c1,.slice a2 p.ways.length c2,.slice a3 p.bars.length c3,.int .i64 p.hold] 37)).alloc (.cells #[.bool d.ok,.slice o1 d.occ.length m1,.slice o2 d.points.length m2,.slice o3 d.ways.length m3] 42)).drew.heap.size = w.heap.size + 2:=by simp
  have hz4:w4.heap.size = w.heap.size + 5:=by rw [hw4]; simp; omega
  have Tc:=(T0.call (zaf _)).call TB.below;have hB4:=Tc.below;have k0:=TB.cell (j:=0) (i:=0) rfl rfl;have k1:=TB.cell (j:=0) (i:=1) rfl rfl;have k2:=TB.cell (j:=0) (i:=2) rfl rfl;have k3:=TB.cell (j:=0) (i:=3) rfl rfl;have cV:=TB.cell (j:=1) (i:=0) rfl rfl;have cK:=TB.cell (j:=2) (i:=0) rfl rfl;rw [hz0] at k0 k1 k2 k3 cV cK;have hl:d.ways.length = p.ways.length:=hR.2.2.2.2.1
  have hkeep:∀ x W,x ∈ za6 d.ways d.ways.length → Below w4.heap.size w4 W → Calls Tryz.prog 156 ((#[.agg #[.int .i64 p.sections,.slice a1 p.switches.length c1,.slice a2 p.ways.length c2,.slice a3 p.bars.length c3,.int .i64 p.hold,.bool d.ok,.slice o1 d.occ.length m1,.slice o2 d.points.length m2,.slice o3 d.ways.length m3,.int .i64 (q:Int)]]:Array Value).push (.int .i64 (x:Int))) W fun e W'=>e = .returned (.bool (zir p d q x)) ∧ Below W.heap.size W W':=fun x W hx hW=>by
   have hB:Below w.heap.size w W:=hB4.trans (hW.mono hB4.size);have hlt:=(zeu hx).1;obtain ⟨y,hy⟩:=zac p.ways (zaa rfl) (show x < p.ways.length by omega);obtain ⟨g,hg⟩:=zac d.ways (zaa rfl) hlt;obtain ⟨q1,q2⟩:=zfv hR hy hg;rw [zis hy hg];exact zky _ _ _ _ _ _ _ _ _ p.switches p.ways d.ways x y g q W (KI.out W hB) (KC.out W hB) (KH.out W hB) ⟨_,_,_,rfl⟩ ⟨_,_,_,rfl⟩ ⟨_,_,_,rfl⟩ ⟨_,rfl⟩ ⟨_,rfl⟩ ⟨_,rfl⟩ hy hg HS.out.2.1 HD.out.2.2.1 (HS.out.2.2.1 y (List.mem_of_getElem? hy)) q1 q2 hq HS.out.1
  have hgv:=zc9 153 156 #[.pointer (some ⟨w.heap.size + 1 + 1,0,none⟩)] #[.agg #[.int .i64 p.sections,.slice a1 p.switches.length c1,.slice a2 p.ways.length c2,.slice a3 p.bars.length c3,.int .i64 p.hold,.bool d.ok,.slice o1 d.occ.length m1,.slice o2 d.points.length m2,.slice o3 d.ways.length m3,.int .i64 (q:Int)]] w4.heap.size 0 (w.heap.size + 2 + 1) (w.heap.size + 2 + 2) (za6 d.ways d.ways.length) (zir p d q) w4 (by omega) (by omega) (Nat.le_refl _)
   (enters_of Tryz.func153 (by kernel_rfl) rfl) (enters_of Tryz.func156 (by kernel_rfl) rfl) cV cK
   (zd3 _ _ _ _ d.ways w4.heap.size (w.heap.size + 1 + 1) w4 (by omega) (Nat.le_refl _) k0 k1 k2 k3 ((KH.out w4 hB4).keep (zax _ _) fun b hb=>hb) HD.out.2.2.1) hkeep
  rw [hz3];refine (zdf 152 _ w4.heap.size (3 + 0) ((za6 d.ways d.ways.length).filter (zir p d q)) w4 (enters_of Tryz.func152 (by kernel_rfl) rfl) (Nat.le_refl _) (Nat.le_trans (List.length_filter_le _ _) (Nat.le_trans (List.length_filter_le _ _) (by rw [List.length_range]; exact HD.out.2.2.1))) hgv).mono ?_;rintro e w5 ⟨v,rfl,hb5,hrow⟩;rw [zkf,zkz hR] at hrow;exact ⟨v,rfl,hB4.trans (hb5.mono hB4.size),_,zb5 hrow hB4.size⟩
 have HCOL:=zaa hcol;clear hq2 hcol hs hd hp hc hf hR;have b0:=T0.cell (j:=0) (i:=0) rfl rfl;have b1:=T0.cell (j:=0) (i:=1) rfl rfl;have b2:=T0.cell (j:=0) (i:=2) rfl rfl;have b3:=T0.cell (j:=0) (i:=3) rfl rfl;have b4:=T0.cell (j:=0) (i:=4) rfl rfl;have e0:=T0.cell (j:=1) (i:=0) rfl rfl;have e1:=T0.cell (j:=1) (i:=1) rfl rfl;have e2:=T0.cell (j:=1) (i:=2) rfl rfl;have e3:=T0.cell (j:=1) (i:=3) rfl rfl;rw [Nat.add_zero] at b0 b1 b2 b3 b4;go_enter Tryz.func115,Tryz.ntmps115;go_wp2
 go_region_with (first | (go_at_call 112; refine HQ.out.mono ?_; rintro e w3 ⟨rfl,hw3,T3⟩; have HW3:=zaa hw3; clear hw3; have k0:=T3.cell (j:=0) (i:=0) rfl rfl; have k1:=T3.cell (j:=0) (i:=1) rfl rfl; have k2:=T3.cell (j:=0) (i:=2) rfl rfl; have k3:=T3.cell (j:=0) (i:=3) rfl rfl; have k4:=T3.cell (j:=0) (i:=4) rfl rfl; rw [Nat.add_zero] at k0 k1 k2 k3 k4; have l0:=T3.cell (j:=1) (i:=0) rfl rfl; have l1:=T3.cell (j:=1) (i:=1) rfl rfl; have l2:=T3.cell (j:=1) (i:=2) rfl rfl; have l3:=T3.cell (j:=1) (i:=3) rfl rfl) | (go_at_call 111; refine (zeb _ _ _ _ _).mono ?_; rintro e w4 ⟨rfl,hw4⟩; have HW4:=zaa hw4; clear hw4) | (go_at_call 155; refine (HCOL.out _ _ HW3.out HW4.out).mono ?_; rintro e w5 ⟨v,rfl,hb5,hr5⟩; have HB5:=zaa hb5; have HR5:=zaa hr5; clear hb5 hr5))
 all_goals
  go_wp2;go_ret;exact ⟨v,rfl,HB5.out,HR5.out⟩
end Go.Proofs.YtdhinkgjiapigabGreatDoor

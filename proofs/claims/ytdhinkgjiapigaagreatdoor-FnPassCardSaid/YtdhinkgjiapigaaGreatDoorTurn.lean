import Derived.Test.YtdhinkgjiapigaaGreatDoorBarW
import Derived.Test.YtdhinkgjiapigaaGreatDoorConc
import Derived.Test.YtdhinkgjiapigaaGreatDoorPrI
import Derived.Deep.RegionWith
namespace Go.Proofs.YtdhinkgjiapigaaGreatDoor
open Go.RowKit Go.Deep Go.Shelf
open Classical
set_option maxRecDepth 100000 in
set_option maxHeartbeats 8000000 in
theorem turns_any (p1 p2 p3 f1 f2 f3:Value) (p:PlanD) (d:FrameD) (i:Nat) (x:WayD) (w:World) (hp:PlanAt (In w) w p1 p2 p3 p) (hf:FrameAt (In w) w f1 f2 f3 d) (hd:d.Small 1048576) (hx:p.ways[i]? = some x) (hs:x.Small 30) (hl:∀ y,(y ∈ x.lies ∨ y ∈ x.flanks) → 0 ≤ y.1 ∧ y.1 < d.points.length) (_hw:p.ways.length ≤ 100) :
  Calls Tryz.prog 105 #[.agg #[.int .i64 p.sections,p1,p2,p3,.int .i64 p.hold,.bool d.ok,f1,f2,f3,.int .i64 (i:Int)]] w fun e w'=>∃ v,e = .returned v ∧ Below w.heap.size w w' ∧ ∃ m,w'.ownsRow w.heap.size 58 2 v m (cells2 (turnsD d.points x)):=by
 have KF:=hide fun (W:World) (h:Below w.heap.size w W)=>hf.2.1.keep (Q:=In W) (In.keep h).1 (In.keep h).2
 obtain ⟨a1,c1,rfl⟩:=hp.1.size
 obtain ⟨a3,c3,rfl⟩:=hp.2.2.size
 obtain ⟨o1,m1,rfl⟩:=hf.1.size
 obtain ⟨o2,m2,rfl⟩:=hf.2.1.size
 obtain ⟨o3,m3,rfl⟩:=hf.2.2.size
 obtain ⟨a2,c2,rfl,hcw⟩:=hp.2.1
 have hil:i < p.ways.length:=(List.getElem?_eq_some_iff.1 hx).1
 obtain h0 | ⟨bw,ow,rfl,hbw,hcw⟩:=hcw
 ·omega
 obtain ⟨v0,v1,v2,v3,v4,hxa,g0,g1,g2,g3,g4⟩:=hcw i hil x hx
 obtain ⟨s0,t0,rfl⟩:=hxa.1.size
 obtain ⟨s1,t1,rfl⟩:=hxa.2.1.size
 obtain ⟨s2,t2,rfl⟩:=hxa.2.2.1.size
 obtain ⟨s3,t3,rfl⟩:=hxa.2.2.2.1.size
 obtain ⟨s4,t4,rfl⟩:=hxa.2.2.2.2.size
 have T0:=boxes2 w 107 51 #[.int .i64 p.sections,.slice a1 p.switches.length c1,.slice (some ⟨bw,ow,none⟩) p.ways.length c2,.slice a3 p.bars.length c3,.int .i64 p.hold,.bool d.ok,.slice o1 d.occ.length m1,.slice o2 d.points.length m2,.slice o3 d.ways.length m3,.int .i64 (i:Int)] #[.slice s0 x.sections.length t0,.slice s1 x.lies.length t1,.slice s2 x.flanks.length t2,.slice s3 x.over.length t3,.slice s4 x.near.length t4]
 have hz0:((w.alloc (.cells #[.int .i64 p.sections,.slice a1 p.switches.length c1,.slice (some ⟨bw,ow,none⟩) p.ways.length c2,.slice a3 p.bars.length c3,.int .i64 p.hold,.bool d.ok,.slice o1 d.occ.length m1,.slice o2 d.points.length m2,.slice o3 d.ways.length m3,.int .i64 (i:Int)] 107)).alloc (.cells #[.slice s0 x.sections.length t0,.slice s1 x.lies.length t1,.slice s2 x.flanks.length t2,.slice s3 x.over.length t3,.slice s4 x.near.length t4] 51)).drew.heap.size = w.heap.size + 2:=by simp
 have hvo:Calls Tryz.prog 152 #[.slice (some ⟨w.heap.size + 1 + 1,0,none⟩) 2 2] (((w.alloc (.cells #[.int .i64 p.sections,.slice a1 p.switches.length c1,.slice (some ⟨bw,ow,none⟩) p.ways.length c2,.slice a3 p.bars.length c3,.int .i64 p.hold,.bool d.ok,.slice o1 d.occ.length m1,.slice o2 d.points.length m2,.slice o3 d.ways.length m3,.int .i64 (i:Int)] 107)).alloc (.cells #[.slice s0 x.sections.length t0,.slice s1 x.lies.length t1,.slice s2 x.flanks.length t2,.slice s3 x.over.length t3,.slice s4 x.near.length t4] 51)).drew.alloc (.cells #[.slice s1 x.lies.length t1,.slice s2 x.flanks.length t2] 49)) fun e w3=>∃ bS vS,e = .returned (.func (.func 205) #[] #[.pointer (some ⟨bS,0,none⟩)]) ∧ Boxes w [(107,#[.int .i64 p.sections,.slice a1 p.switches.length c1,.slice (some ⟨bw,ow,none⟩) p.ways.length c2,.slice a3 p.bars.length c3,.int .i64 p.hold,.bool d.ok,.slice o1 d.occ.length m1,.slice o2 d.points.length m2,.slice o3 d.ways.length m3,.int .i64 (i:Int)]),(51,#[.slice s0 x.sections.length t0,.slice s1 x.lies.length t1,.slice s2 x.flanks.length t2,.slice s3 x.over.length t3,.slice s4 x.near.length t4])] w3 ∧ bS < w3.heap.size ∧ w3.cell? ⟨bS,0,none⟩ = some vS ∧ Lies (In w3) w3 vS (x.lies ++ x.flanks):=by
  have TL:=boxes1 ((w.alloc (.cells #[.int .i64 p.sections,.slice a1 p.switches.length c1,.slice (some ⟨bw,ow,none⟩) p.ways.length c2,.slice a3 p.bars.length c3,.int .i64 p.hold,.bool d.ok,.slice o1 d.occ.length m1,.slice o2 d.points.length m2,.slice o3 d.ways.length m3,.int .i64 (i:Int)] 107)).alloc (.cells #[.slice s0 x.sections.length t0,.slice s1 x.lies.length t1,.slice s2 x.flanks.length t2,.slice s3 x.over.length t3,.slice s4 x.near.length t4] 51)).drew 49 #[.slice s1 x.lies.length t1,.slice s2 x.flanks.length t2]
  have TB:=(T0.call (below_drew _)).call TL.below
  have k0:=TL.cell (j:=0) (i:=0) rfl rfl
  have k1:=TL.cell (j:=0) (i:=1) rfl rfl
  rw [Nat.add_zero,hz0] at k0 k1
  refine (valuesOfLie_any (w.heap.size + 1 + 1) 0 2 _ _ x.lies x.flanks _ (by simp) k0 (by simpa using k1) (hxa.2.1.keep (In.keep TB.below).1 (In.keep TB.below).2) (hxa.2.2.1.keep (In.keep TB.below).1 (In.keep TB.below).2) (Nat.le_trans hs.2.1 (by omega)) (Nat.le_trans hs.2.2.1 (by omega))).mono ?_
  rintro e w3 ⟨bS,vS,rfl,hb,hlt,hc,hL⟩
  exact ⟨bS,vS,rfl,TB.call hb,hlt,hc,hL⟩
 have HVO:=hide hvo
 have hcol:∀ w3 w4 bS vS,Boxes w [(107,#[.int .i64 p.sections,.slice a1 p.switches.length c1,.slice (some ⟨bw,ow,none⟩) p.ways.length c2,.slice a3 p.bars.length c3,.int .i64 p.hold,.bool d.ok,.slice o1 d.occ.length m1,.slice o2 d.points.length m2,.slice o3 d.ways.length m3,.int .i64 (i:Int)]),(51,#[.slice s0 x.sections.length t0,.slice s1 x.lies.length t1,.slice s2 x.flanks.length t2,.slice s3 x.over.length t3,.slice s4 x.near.length t4])] w3 → bS < w3.heap.size → w3.cell? ⟨bS,0,none⟩ = some vS → Lies (In w3) w3 vS (x.lies ++ x.flanks) → w4 = (w3.alloc (.cells #[.func (.func 205) #[] #[.pointer (some ⟨bS,0,none⟩)]] 196)).alloc (.cells #[.func (.func 153) #[.agg #[.int .i64 p.sections,.slice a1 p.switches.length c1,.slice (some ⟨bw,ow,none⟩) p.ways.length c2,.slice a3 p.bars.length c3,.int .i64 p.hold,.bool d.ok,.slice o1 d.occ.length m1,.slice o2 d.points.length m2,.slice o3 d.ways.length m3,.int .i64 (i:Int)]] #[]] 147) →
   Calls Tryz.prog 150 #[.func (.func 180) #[] #[.pointer (some ⟨w3.heap.size,0,none⟩),.pointer (some ⟨w3.heap.size + 1,0,none⟩)]] w4 fun e w'=>∃ v,e = .returned v ∧ Below w.heap.size w w' ∧ ∃ m,w'.ownsRow w.heap.size 58 2 v m (cells2 (turnsD d.points x)):=fun w3 w4 bS vS T3 hlt hc hL hw4=>by
  have TC:=boxes2 w3 196 147 #[.func (.func 205) #[] #[.pointer (some ⟨bS,0,none⟩)]] #[.func (.func 153) #[.agg #[.int .i64 p.sections,.slice a1 p.switches.length c1,.slice (some ⟨bw,ow,none⟩) p.ways.length c2,.slice a3 p.bars.length c3,.int .i64 p.hold,.bool d.ok,.slice o1 d.occ.length m1,.slice o2 d.points.length m2,.slice o3 d.ways.length m3,.int .i64 (i:Int)]] #[]]
  rw [← hw4] at TC
  have hz4:w4.heap.size = w3.heap.size + 2:=by rw [hw4]; simp
  have hB4:=(T3.call TC.below).below
  have cV:=TC.cell (j:=0) (i:=0) rfl rfl
  have cK:=TC.cell (j:=1) (i:=0) rfl rfl
  rw [Nat.add_zero] at cV
  have hkeep:∀ y W,y ∈ x.lies ++ x.flanks → Below w4.heap.size w4 W → Calls Tryz.prog 153 ((#[.agg #[.int .i64 p.sections,.slice a1 p.switches.length c1,.slice (some ⟨bw,ow,none⟩) p.ways.length c2,.slice a3 p.bars.length c3,.int .i64 p.hold,.bool d.ok,.slice o1 d.occ.length m1,.slice o2 d.points.length m2,.slice o3 d.ways.length m3,.int .i64 (i:Int)]]:Array Value).push (.agg #[.int .i64 y.1,.int .i64 y.2])) W fun e W'=>e = .returned (.bool (wantAt d.points y.1 != y.2)) ∧ Below W.heap.size W W':=fun y W hy hW=>by
   have hB:Below w.heap.size w W:=hB4.trans (hW.mono hB4.size)
   obtain ⟨h1,h2⟩:=hl y (List.mem_append.1 hy)
   obtain ⟨q,hq⟩:∃ q:Nat,y.1 = q:=⟨y.1.toNat,by omega⟩
   obtain ⟨pt,hpt⟩:=get_some d.points (hide rfl) (show q < d.points.length by omega)
   have hwt:wantAt d.points y.1 = pt.1:=by unfold wantAt; rw [hq,show ((q:Int)).toNat = q by simp,hpt]; rfl
   rw [hwt,hq]
   exact otherwise_any _ _ _ _ _ _ _ _ _ i d.points q y.2 pt W (KF.out W hB) hpt hd.2.1
  have hgv:=thoseLie1_gives 205 153 #[.pointer (some ⟨bS,0,none⟩)] #[.agg #[.int .i64 p.sections,.slice a1 p.switches.length c1,.slice (some ⟨bw,ow,none⟩) p.ways.length c2,.slice a3 p.bars.length c3,.int .i64 p.hold,.bool d.ok,.slice o1 d.occ.length m1,.slice o2 d.points.length m2,.slice o3 d.ways.length m3,.int .i64 (i:Int)]] w4.heap.size 0 w3.heap.size (w3.heap.size + 1) (x.lies ++ x.flanks) (fun y=>wantAt d.points y.1 != y.2) w4 (by omega) (by omega) (Nat.le_refl _)
   (enters_of Tryz.func205 (by kernel_rfl) rfl) (enters_of Tryz.func153 (by kernel_rfl) rfl) cV cK
   (valuesLie1_gives vS (x.lies ++ x.flanks) w4.heap.size bS w4 (by omega) (Nat.le_refl _) ((TC.below.cell (p:=⟨bS,0,none⟩) hlt).trans hc) (hL.keep (fun b hb o=>TC.below.cell (p:=⟨b,o,none⟩) hb) fun b hb=>Nat.lt_of_lt_of_le hb TC.below.size) (by rw [List.length_append]; have:=hs.2.1; have:=hs.2.2.1; omega)) hkeep
  refine (collectLie_any 180 _ w4.heap.size (3 + 0) ((x.lies ++ x.flanks).filter fun y=>wantAt d.points y.1 != y.2) w4 (enters_of Tryz.func180 (by kernel_rfl) rfl) (Nat.le_refl _) (Nat.le_trans (List.length_filter_le _ _) (by rw [List.length_append]; have:=hs.2.1; have:=hs.2.2.1; omega)) hgv).mono ?_
  rintro e w5 ⟨v,rfl,hb5,hrow⟩
  exact ⟨v,rfl,hB4.trans (hb5.mono hB4.size),_,own_low hrow hB4.size⟩
 have HCOL:=hide hcol
 have z0:=(below_new w (.cells #[.int .i64 p.sections,.slice a1 p.switches.length c1,.slice (some ⟨bw,ow,none⟩) p.ways.length c2,.slice a3 p.bars.length c3,.int .i64 p.hold,.bool d.ok,.slice o1 d.occ.length m1,.slice o2 d.points.length m2,.slice o3 d.ways.length m3,.int .i64 (i:Int)] 107)).cell (p:=⟨bw,ow + i * 5,none⟩) hbw |>.trans g0
 have z1:=(below_new w (.cells #[.int .i64 p.sections,.slice a1 p.switches.length c1,.slice (some ⟨bw,ow,none⟩) p.ways.length c2,.slice a3 p.bars.length c3,.int .i64 p.hold,.bool d.ok,.slice o1 d.occ.length m1,.slice o2 d.points.length m2,.slice o3 d.ways.length m3,.int .i64 (i:Int)] 107)).cell (p:=⟨bw,ow + i * 5 + 1,none⟩) hbw |>.trans g1
 have z2:=(below_new w (.cells #[.int .i64 p.sections,.slice a1 p.switches.length c1,.slice (some ⟨bw,ow,none⟩) p.ways.length c2,.slice a3 p.bars.length c3,.int .i64 p.hold,.bool d.ok,.slice o1 d.occ.length m1,.slice o2 d.points.length m2,.slice o3 d.ways.length m3,.int .i64 (i:Int)] 107)).cell (p:=⟨bw,ow + i * 5 + 2,none⟩) hbw |>.trans g2
 have z3:=(below_new w (.cells #[.int .i64 p.sections,.slice a1 p.switches.length c1,.slice (some ⟨bw,ow,none⟩) p.ways.length c2,.slice a3 p.bars.length c3,.int .i64 p.hold,.bool d.ok,.slice o1 d.occ.length m1,.slice o2 d.points.length m2,.slice o3 d.ways.length m3,.int .i64 (i:Int)] 107)).cell (p:=⟨bw,ow + i * 5 + 3,none⟩) hbw |>.trans g3
 have z4:=(below_new w (.cells #[.int .i64 p.sections,.slice a1 p.switches.length c1,.slice (some ⟨bw,ow,none⟩) p.ways.length c2,.slice a3 p.bars.length c3,.int .i64 p.hold,.bool d.ok,.slice o1 d.occ.length m1,.slice o2 d.points.length m2,.slice o3 d.ways.length m3,.int .i64 (i:Int)] 107)).cell (p:=⟨bw,ow + i * 5 + 4,none⟩) hbw |>.trans g4
 have u2:=(boxes1 w 107 #[.int .i64 p.sections,.slice a1 p.switches.length c1,.slice (some ⟨bw,ow,none⟩) p.ways.length c2,.slice a3 p.bars.length c3,.int .i64 p.hold,.bool d.ok,.slice o1 d.occ.length m1,.slice o2 d.points.length m2,.slice o3 d.ways.length m3,.int .i64 (i:Int)]).cell (j:=0) (i:=2) rfl rfl
 have u9:=(boxes1 w 107 #[.int .i64 p.sections,.slice a1 p.switches.length c1,.slice (some ⟨bw,ow,none⟩) p.ways.length c2,.slice a3 p.bars.length c3,.int .i64 p.hold,.bool d.ok,.slice o1 d.occ.length m1,.slice o2 d.points.length m2,.slice o3 d.ways.length m3,.int .i64 (i:Int)]).cell (j:=0) (i:=9) rfl rfl
 rw [Nat.add_zero] at u2 u9
 have b0:=T0.cell (j:=0) (i:=0) rfl rfl
 have b1:=T0.cell (j:=0) (i:=1) rfl rfl
 have b2:=T0.cell (j:=0) (i:=2) rfl rfl
 have b3:=T0.cell (j:=0) (i:=3) rfl rfl
 have b4:=T0.cell (j:=0) (i:=4) rfl rfl
 have b5:=T0.cell (j:=0) (i:=5) rfl rfl
 have b6:=T0.cell (j:=0) (i:=6) rfl rfl
 have b7:=T0.cell (j:=0) (i:=7) rfl rfl
 have b8:=T0.cell (j:=0) (i:=8) rfl rfl
 have b9:=T0.cell (j:=0) (i:=9) rfl rfl
 have e1:=T0.cell (j:=1) (i:=1) rfl rfl
 have e2:=T0.cell (j:=1) (i:=2) rfl rfl
 rw [Nat.add_zero] at b0 b1 b2 b3 b4 b5 b6 b7 b8 b9
 have hil':(i:Int) < (p.ways.length:Int):=by omega
 have TL2:=(T0.call (below_drew _)).call (below_new _ (.cells #[.slice s1 x.lies.length t1,.slice s2 x.flanks.length t2] 49))
 have h0:=TL2.cell (j:=0) (i:=0) rfl rfl
 have h1:=TL2.cell (j:=0) (i:=1) rfl rfl
 have h2:=TL2.cell (j:=0) (i:=2) rfl rfl
 have h3:=TL2.cell (j:=0) (i:=3) rfl rfl
 have h4:=TL2.cell (j:=0) (i:=4) rfl rfl
 have h5:=TL2.cell (j:=0) (i:=5) rfl rfl
 have h6:=TL2.cell (j:=0) (i:=6) rfl rfl
 have h7:=TL2.cell (j:=0) (i:=7) rfl rfl
 have h8:=TL2.cell (j:=0) (i:=8) rfl rfl
 have h9:=TL2.cell (j:=0) (i:=9) rfl rfl
 rw [Nat.add_zero] at h0 h1 h2 h3 h4 h5 h6 h7 h8 h9
 clear hvo hcol g0 g1 g2 g3 g4 hcw hxa hp hf hx hd hs hl hz0 T0 TL2
 go_enter Tryz.func105,Tryz.ntmps105
 go_wp2
 go_region_with (first | (go_at_call 152; refine HVO.out.mono ?_; rintro e w3 ⟨bS,vS,rfl,T3,hlt3,hc3,hL3⟩; have HLT:=hide hlt3; have HC3:=hide hc3; have HL3:=hide hL3; have HT3:=hide T3; clear hlt3 hc3 hL3; have k0:=T3.cell (j:=0) (i:=0) rfl rfl; have k1:=T3.cell (j:=0) (i:=1) rfl rfl; have k2:=T3.cell (j:=0) (i:=2) rfl rfl; have k3:=T3.cell (j:=0) (i:=3) rfl rfl; have k4:=T3.cell (j:=0) (i:=4) rfl rfl; have k5:=T3.cell (j:=0) (i:=5) rfl rfl; have k6:=T3.cell (j:=0) (i:=6) rfl rfl; have k7:=T3.cell (j:=0) (i:=7) rfl rfl; have k8:=T3.cell (j:=0) (i:=8) rfl rfl; have k9:=T3.cell (j:=0) (i:=9) rfl rfl; rw [Nat.add_zero] at k0 k1 k2 k3 k4 k5 k6 k7 k8 k9; clear T3) | (go_at_call 151; refine (thoseLie_any _ _ _ _ _).mono ?_; rintro e w4 ⟨rfl,hw4⟩; have HW4:=hide hw4; clear hw4) | (go_at_call 150; refine (HCOL.out _ _ _ _ HT3.out HLT.out HC3.out HL3.out HW4.out).mono ?_; rintro e w5 ⟨v,rfl,hb5,hr5⟩; have HB5:=hide hb5; have HR5:=hide hr5; clear hb5 hr5))
 all_goals
  go_wp2
  go_ret
  exact ⟨v,rfl,HB5.out,HR5.out⟩
end Go.Proofs.YtdhinkgjiapigaaGreatDoor

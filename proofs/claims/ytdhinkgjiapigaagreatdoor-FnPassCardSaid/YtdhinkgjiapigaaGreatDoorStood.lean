import Derived.Shelf.Lay
import Derived.Shelf.Sort.Plain
import Derived.Ground.Names2Prog
import Derived.Shelf.Slices.In.SortNone
import Derived.Sort.OwnSortedInts
import Derived.Test.YtdhinkgjiapigaaGreatDoorColl
import Derived.Test.YtdhinkgjiapigaaGreatDoorLocksA
import Derived.Test.YtdhinkgjiapigaaGreatDoorPlI
import Derived.Test.YtdhinkgjiapigaaGreatDoorBarW
import Derived.Test.YtdhinkgjiapigaaGreatDoorConc
import Derived.Deep.RegionWith
namespace Go.Proofs
open Go.Shelf
shelf_lay Lays.n189 Nm 189 at Tryz as Tryz.lays189
end Go.Proofs
namespace Go.Proofs.YtdhinkgjiapigaaGreatDoor
open Go.Shelf Go.Sort Go.RowKit
theorem sortInt_any (blk off cap:Nat) (zs:List Int) (w:World) (hH:Holds (Value.int .i64) w blk off zs.toArray) (hblk:blk < w.heap.size) (hsz:zs.length < 4611686018427387904) :
  Calls Tryz.prog 113 #[.slice (some ⟨blk,off,none⟩) zs.length cap] w fun e w'=>
   e = .returned (.tuple #[]) ∧ ∃ n os,w' = grow (putRow (Value.int .i64) (Sort.ahead w n) blk off (zs.mergeSort fun x y=>decide (x ≤ y)).toArray) os:=Any.slices_Sort_int Tryz.lays189 blk off cap zs w hH hblk hsz
theorem sortIntNone_any (p:Option Addr) (cap:Nat) (w:World) :
  Calls Tryz.prog 113 #[.slice p 0 cap] w fun e w'=>e = .returned (.tuple #[]) ∧ w' = w:=Any.slices_Sort_int_none Tryz.lays189 p cap w
set_option maxHeartbeats 1000000 in
theorem sortedInt_any (gf:Nat) (lb:Array Value) (n0 c:Nat) (xs:List Nat) (w:World) (eg:∀ args w,(callFunc gf args).run Tryz.prog w = .ok (.enter gf args) w) (hn0:n0 ≤ w.heap.size) (hN:xs.length ≤ 1048576)
  (hin:Gives Tryz.prog gf lb (fun i:Nat=>#[.int .i64 (i:Int)]) n0 c xs w) :
  Calls Tryz.prog 110 #[.func (.func gf) #[] lb] w fun e w'=>∃ v,e = .returned v ∧ Below w.heap.size w w' ∧ w'.ownsRow w.heap.size 3 1 v xs.length (((xs.map fun i:Nat=>(i:Int)).mergeSort fun x y=>decide (x ≤ y)).map (Value.int .i64)):=by
 have HC:=hide (collectInt_any gf lb n0 c xs w eg hn0 hN hin)
 clear hin
 go_enter Tryz.func110,Tryz.ntmps110
 go_wp2_with fail
 refine HC.out.mono ?_
 rintro e w1 ⟨v,rfl,hb,hrow⟩
 have HB:=hide hb
 have hrow':=hrow
 rw [nats_ints] at hrow'
 have hl:(xs.map fun i:Nat=>(i:Int)).length = xs.length:=List.length_map ..
 rcases hrow'.2 with ⟨hnil,hk0⟩ | ⟨g,cap,cur,hv,hbase,hg,h1,h2,h3,h4⟩
 ·subst hnil
  have HR:=hide hrow
  clear hb hrow hrow' eg
  obtain rfl:xs = []:=List.eq_nil_of_length_eq_zero hk0
  go_wp2_with (go_at_call 113; refine (sortIntNone_any none 0 _).mono ?_; rintro e w' ⟨rfl,rfl⟩)
  go_ret
  exact ⟨_,rfl,HB.out,by simpa [nats] using HR.out⟩
 ·subst hv
  have hH:Holds (Value.int .i64) w1 g 0 (xs.map fun i:Nat=>(i:Int)).toArray:=holds_of_blockI hg (by rw [hl]; simpa [ints] using h4)
  have hgl:g < w1.heap.size:=(Array.getElem?_eq_some_iff.1 hg).1
  have hsort:=sortInt_any g 0 cap (xs.map fun i:Nat=>(i:Int)) w1 hH hgl (by omega)
  rw [hl] at hsort
  have hl2:((xs.map fun i:Nat=>(i:Int)).mergeSort fun x y=>decide (x ≤ y)).length = xs.length:=by rw [List.length_mergeSort,hl]
  have HG:=hide (And.intro hg (And.intro hbase (And.intro h1 (And.intro h2 (And.intro h3 hl2)))))
  have HSO:=hide hsort
  clear hb hrow hrow' eg hH hsort hg h1 h2 h3 h4 hl2 hbase
  go_wp2_with (go_at_call 113; refine HSO.out.mono ?_; rintro e w' ⟨rfl,nn,os,rfl⟩)
  go_ret
  obtain ⟨hg,hbase,h1,h2,h3,hl2⟩:=HG.out
  have hgr:=grownBy_sortedI (w:=w1) (g:=g) (n:=nn) (os:=os) ((xs.map fun i:Nat=>(i:Int)).mergeSort fun x y=>decide (x ≤ y)).toArray
  have hro:=ownsRow_sortedI (n:=nn) (os:=os) (ss:=xs.map fun i:Nat=>(i:Int)) (ts:=(xs.map fun i:Nat=>(i:Int)).mergeSort fun x y=>decide (x ≤ y)) (by rw [hl2,hl]) hbase hg (by rw [hl]; exact h1) h2 h3
  rw [hl] at hro
  exact ⟨_,rfl,HB.out.grown hgr HB.out.size fun r e=>by cases e; exact hbase,hro⟩
end Go.Proofs.YtdhinkgjiapigaaGreatDoor
namespace Go.Proofs.YtdhinkgjiapigaaGreatDoor
open Go.RowKit Go.Deep Go.Shelf
open Classical
set_option maxRecDepth 100000 in
set_option maxHeartbeats 8000000 in
theorem stoodSections_any (p1 p2 p3 f1 f2 f3:Value) (p:PlanD) (d:FrameD) (i:Nat) (x:WayD) (w:World) (hp:PlanAt (In w) w p1 p2 p3 p) (hf:FrameAt (In w) w f1 f2 f3 d) (hd:d.Small 1048576) (hx:p.ways[i]? = some x) (hs:x.Small 30) (hl:∀ s ∈ x.sections ++ x.over,0 ≤ s ∧ s < d.occ.length) (_hw:p.ways.length ≤ 100) :
  Calls Tryz.prog 65 #[.agg #[.int .i64 p.sections,p1,p2,p3,.int .i64 p.hold,.bool d.ok,f1,f2,f3,.int .i64 (i:Int)]] w fun e w'=>∃ a c,e = .returned (.slice a (stoodD d.occ x).length c) ∧ Below w.heap.size w w':=by
 have KF:=hide fun (W:World) (h:Below w.heap.size w W)=>hf.1.keep (Q:=In W) (In.keep h).1 (In.keep h).2
 obtain ⟨a1,c1,rfl⟩:=hp.1.size
 obtain ⟨a3,c3,rfl⟩:=hp.2.2.size
 obtain ⟨o1,m1,rfl⟩:=hf.1.size
 obtain ⟨o2,m2,rfl⟩:=hf.2.1.size
 obtain ⟨o3,m3,rfl⟩:=hf.2.2.size
 obtain ⟨a2,c2,rfl,hcw⟩:=hp.2.1
 have hil:i < p.ways.length:=(List.getElem?_eq_some_iff.1 hx).1
 obtain h0 | ⟨bw,ow,rfl,hbw,hcw⟩:=hcw
 ·omega
 obtain ⟨v0,v1,v2,v3,v4,hxa,g0,g1,g2,g3,g4⟩:=hcw i hil x hx
 obtain ⟨s0,t0,rfl⟩:=hxa.1.size
 obtain ⟨s1,t1,rfl⟩:=hxa.2.1.size
 obtain ⟨s2,t2,rfl⟩:=hxa.2.2.1.size
 obtain ⟨s3,t3,rfl⟩:=hxa.2.2.2.1.size
 obtain ⟨s4,t4,rfl⟩:=hxa.2.2.2.2.size
 have T0:=boxes2 w 107 51 #[.int .i64 p.sections,.slice a1 p.switches.length c1,.slice (some ⟨bw,ow,none⟩) p.ways.length c2,.slice a3 p.bars.length c3,.int .i64 p.hold,.bool d.ok,.slice o1 d.occ.length m1,.slice o2 d.points.length m2,.slice o3 d.ways.length m3,.int .i64 (i:Int)] #[.slice s0 x.sections.length t0,.slice s1 x.lies.length t1,.slice s2 x.flanks.length t2,.slice s3 x.over.length t3,.slice s4 x.near.length t4]
 have hz0:((w.alloc (.cells #[.int .i64 p.sections,.slice a1 p.switches.length c1,.slice (some ⟨bw,ow,none⟩) p.ways.length c2,.slice a3 p.bars.length c3,.int .i64 p.hold,.bool d.ok,.slice o1 d.occ.length m1,.slice o2 d.points.length m2,.slice o3 d.ways.length m3,.int .i64 (i:Int)] 107)).alloc (.cells #[.slice s0 x.sections.length t0,.slice s1 x.lies.length t1,.slice s2 x.flanks.length t2,.slice s3 x.over.length t3,.slice s4 x.near.length t4] 51)).drew.heap.size = w.heap.size + 2:=by simp
 have hvo:Calls Tryz.prog 111 #[.slice (some ⟨w.heap.size + 1 + 1,0,none⟩) 2 2] (((w.alloc (.cells #[.int .i64 p.sections,.slice a1 p.switches.length c1,.slice (some ⟨bw,ow,none⟩) p.ways.length c2,.slice a3 p.bars.length c3,.int .i64 p.hold,.bool d.ok,.slice o1 d.occ.length m1,.slice o2 d.points.length m2,.slice o3 d.ways.length m3,.int .i64 (i:Int)] 107)).alloc (.cells #[.slice s0 x.sections.length t0,.slice s1 x.lies.length t1,.slice s2 x.flanks.length t2,.slice s3 x.over.length t3,.slice s4 x.near.length t4] 51)).drew.alloc (.cells #[.slice s0 x.sections.length t0,.slice s3 x.over.length t3] 23)) fun e w3=>∃ bS vS,e = .returned (.func (.func 185) #[] #[.pointer (some ⟨bS,0,none⟩)]) ∧ Boxes w [(107,#[.int .i64 p.sections,.slice a1 p.switches.length c1,.slice (some ⟨bw,ow,none⟩) p.ways.length c2,.slice a3 p.bars.length c3,.int .i64 p.hold,.bool d.ok,.slice o1 d.occ.length m1,.slice o2 d.points.length m2,.slice o3 d.ways.length m3,.int .i64 (i:Int)]),(51,#[.slice s0 x.sections.length t0,.slice s1 x.lies.length t1,.slice s2 x.flanks.length t2,.slice s3 x.over.length t3,.slice s4 x.near.length t4])] w3 ∧ bS < w3.heap.size ∧ w3.cell? ⟨bS,0,none⟩ = some vS ∧ Ints (In w3) w3 vS (x.sections ++ x.over):=by
  have TL:=boxes1 ((w.alloc (.cells #[.int .i64 p.sections,.slice a1 p.switches.length c1,.slice (some ⟨bw,ow,none⟩) p.ways.length c2,.slice a3 p.bars.length c3,.int .i64 p.hold,.bool d.ok,.slice o1 d.occ.length m1,.slice o2 d.points.length m2,.slice o3 d.ways.length m3,.int .i64 (i:Int)] 107)).alloc (.cells #[.slice s0 x.sections.length t0,.slice s1 x.lies.length t1,.slice s2 x.flanks.length t2,.slice s3 x.over.length t3,.slice s4 x.near.length t4] 51)).drew 23 #[.slice s0 x.sections.length t0,.slice s3 x.over.length t3]
  have TB:=(T0.call (below_drew _)).call TL.below
  have k0:=TL.cell (j:=0) (i:=0) rfl rfl
  have k1:=TL.cell (j:=0) (i:=1) rfl rfl
  rw [Nat.add_zero,hz0] at k0 k1
  refine (valuesOfInt_any (w.heap.size + 1 + 1) 0 2 _ _ x.sections x.over _ (by simp) k0 (by simpa using k1) (hxa.1.keep (In.keep TB.below).1 (In.keep TB.below).2) (hxa.2.2.2.1.keep (In.keep TB.below).1 (In.keep TB.below).2) (Nat.le_trans hs.1 (by omega)) (Nat.le_trans hs.2.2.2.1 (by omega))).mono ?_
  rintro e w3 ⟨bS,vS,rfl,hb,hlt,hc,hL⟩
  exact ⟨bS,vS,rfl,TB.call hb,hlt,hc,hL⟩
 have HVO:=hide hvo
 have hcol:∀ w3 w4 bS vS,Boxes w [(107,#[.int .i64 p.sections,.slice a1 p.switches.length c1,.slice (some ⟨bw,ow,none⟩) p.ways.length c2,.slice a3 p.bars.length c3,.int .i64 p.hold,.bool d.ok,.slice o1 d.occ.length m1,.slice o2 d.points.length m2,.slice o3 d.ways.length m3,.int .i64 (i:Int)]),(51,#[.slice s0 x.sections.length t0,.slice s1 x.lies.length t1,.slice s2 x.flanks.length t2,.slice s3 x.over.length t3,.slice s4 x.near.length t4])] w3 → bS < w3.heap.size → w3.cell? ⟨bS,0,none⟩ = some vS → Ints (In w3) w3 vS (x.sections ++ x.over) → w4 = (w3.alloc (.cells #[.func (.func 185) #[] #[.pointer (some ⟨bS,0,none⟩)]] 96)).alloc (.cells #[.func (.func 112) #[.agg #[.int .i64 p.sections,.slice a1 p.switches.length c1,.slice (some ⟨bw,ow,none⟩) p.ways.length c2,.slice a3 p.bars.length c3,.int .i64 p.hold,.bool d.ok,.slice o1 d.occ.length m1,.slice o2 d.points.length m2,.slice o3 d.ways.length m3,.int .i64 (i:Int)]] #[]] 99) →
   Calls Tryz.prog 110 #[.func (.func 98) #[] #[.pointer (some ⟨w3.heap.size,0,none⟩),.pointer (some ⟨w3.heap.size + 1,0,none⟩)]] w4 fun e w'=>∃ a c,e = .returned (.slice a (stoodD d.occ x).length c) ∧ Below w.heap.size w w':=fun w3 w4 bS vS T3 hlt hc hL hw4=>by
  have TC:=boxes2 w3 96 99 #[.func (.func 185) #[] #[.pointer (some ⟨bS,0,none⟩)]] #[.func (.func 112) #[.agg #[.int .i64 p.sections,.slice a1 p.switches.length c1,.slice (some ⟨bw,ow,none⟩) p.ways.length c2,.slice a3 p.bars.length c3,.int .i64 p.hold,.bool d.ok,.slice o1 d.occ.length m1,.slice o2 d.points.length m2,.slice o3 d.ways.length m3,.int .i64 (i:Int)]] #[]]
  rw [← hw4] at TC
  have hz4:w4.heap.size = w3.heap.size + 2:=by rw [hw4]; simp
  have hB4:=(T3.call TC.below).below
  have cV:=TC.cell (j:=0) (i:=0) rfl rfl
  have cK:=TC.cell (j:=1) (i:=0) rfl rfl
  rw [Nat.add_zero] at cV
  have hn:=allD_ints fun s hs'=>(hl s hs').1
  have hkeep:∀ y W,y ∈ allD x → Below w4.heap.size w4 W → Calls Tryz.prog 112 ((#[.agg #[.int .i64 p.sections,.slice a1 p.switches.length c1,.slice (some ⟨bw,ow,none⟩) p.ways.length c2,.slice a3 p.bars.length c3,.int .i64 p.hold,.bool d.ok,.slice o1 d.occ.length m1,.slice o2 d.points.length m2,.slice o3 d.ways.length m3,.int .i64 (i:Int)]]:Array Value).push (.int .i64 (y:Int))) W fun e W'=>e = .returned (.bool (d.occ.getD y false)) ∧ Below W.heap.size W W':=fun y W hy hW=>by
   have hB:Below w.heap.size w W:=hB4.trans (hW.mono hB4.size)
   have hm:(y:Int) ∈ x.sections ++ x.over:=by rw [← hn]; exact List.mem_map.2 ⟨y,hy,rfl⟩
   obtain ⟨h1,h2⟩:=hl _ hm
   obtain ⟨o,ho⟩:=get_some d.occ (hide rfl) (show y < d.occ.length by omega)
   have hg:d.occ.getD y false = o:=by rw [List.getD_eq_getElem?_getD,ho]; rfl
   rw [hg]
   exact occupied_any _ _ _ _ _ _ _ _ _ i d.occ y o W (KF.out W hB) ho hd.1
  have hgv:=thoseInt1_gives 185 112 #[.pointer (some ⟨bS,0,none⟩)] #[.agg #[.int .i64 p.sections,.slice a1 p.switches.length c1,.slice (some ⟨bw,ow,none⟩) p.ways.length c2,.slice a3 p.bars.length c3,.int .i64 p.hold,.bool d.ok,.slice o1 d.occ.length m1,.slice o2 d.points.length m2,.slice o3 d.ways.length m3,.int .i64 (i:Int)]] w4.heap.size 0 w3.heap.size (w3.heap.size + 1) (allD x) (fun s=>d.occ.getD s false) w4 (by omega) (by omega) (Nat.le_refl _)
   (enters_of Tryz.func185 (by kernel_rfl) rfl) (enters_of Tryz.func112 (by kernel_rfl) rfl) cV cK
   (valuesInt1_gives vS (allD x) w4.heap.size bS w4 (by omega) (Nat.le_refl _) ((TC.below.cell (p:=⟨bS,0,none⟩) hlt).trans hc) (by rw [hn]; exact hL.keep (fun b hb o=>TC.below.cell (p:=⟨b,o,none⟩) hb) fun b hb=>Nat.lt_of_lt_of_le hb TC.below.size) (by rw [allD_length]; have:=hs.1; have:=hs.2.2.2.1; omega)) hkeep
  refine (sortedInt_any 98 _ w4.heap.size (3 + 0) ((allD x).filter fun s=>d.occ.getD s false) w4 (enters_of Tryz.func98 (by kernel_rfl) rfl) (Nat.le_refl _) (Nat.le_trans (List.length_filter_le _ _) (by rw [allD_length]; have:=hs.1; have:=hs.2.2.2.1; omega)) hgv).mono ?_
  rintro e w5 ⟨v,rfl,hb5,hrow⟩
  obtain ⟨a,c,rfl⟩:∃ a c,v = .slice a (stoodD d.occ x).length c:=by
   rcases hrow.2 with ⟨rfl,h0⟩ | ⟨g,cap,cur,rfl,-⟩
   ·exact ⟨none,0,by unfold stoodD; rw [h0]⟩
   ·exact ⟨_,_,rfl⟩
  exact ⟨a,c,rfl,hB4.trans (hb5.mono hB4.size)⟩
 have HCOL:=hide hcol
 have z0:=(below_new w (.cells #[.int .i64 p.sections,.slice a1 p.switches.length c1,.slice (some ⟨bw,ow,none⟩) p.ways.length c2,.slice a3 p.bars.length c3,.int .i64 p.hold,.bool d.ok,.slice o1 d.occ.length m1,.slice o2 d.points.length m2,.slice o3 d.ways.length m3,.int .i64 (i:Int)] 107)).cell (p:=⟨bw,ow + i * 5,none⟩) hbw |>.trans g0
 have z1:=(below_new w (.cells #[.int .i64 p.sections,.slice a1 p.switches.length c1,.slice (some ⟨bw,ow,none⟩) p.ways.length c2,.slice a3 p.bars.length c3,.int .i64 p.hold,.bool d.ok,.slice o1 d.occ.length m1,.slice o2 d.points.length m2,.slice o3 d.ways.length m3,.int .i64 (i:Int)] 107)).cell (p:=⟨bw,ow + i * 5 + 1,none⟩) hbw |>.trans g1
 have z2:=(below_new w (.cells #[.int .i64 p.sections,.slice a1 p.switches.length c1,.slice (some ⟨bw,ow,none⟩) p.ways.length c2,.slice a3 p.bars.length c3,.int .i64 p.hold,.bool d.ok,.slice o1 d.occ.length m1,.slice o2 d.points.length m2,.slice o3 d.ways.length m3,.int .i64 (i:Int)] 107)).cell (p:=⟨bw,ow + i * 5 + 2,none⟩) hbw |>.trans g2
 have z3:=(below_new w (.cells #[.int .i64 p.sections,.slice a1 p.switches.length c1,.slice (some ⟨bw,ow,none⟩) p.ways.length c2,.slice a3 p.bars.length c3,.int .i64 p.hold,.bool d.ok,.slice o1 d.occ.length m1,.slice o2 d.points.length m2,.slice o3 d.ways.length m3,.int .i64 (i:Int)] 107)).cell (p:=⟨bw,ow + i * 5 + 3,none⟩) hbw |>.trans g3
 have z4:=(below_new w (.cells #[.int .i64 p.sections,.slice a1 p.switches.length c1,.slice (some ⟨bw,ow,none⟩) p.ways.length c2,.slice a3 p.bars.length c3,.int .i64 p.hold,.bool d.ok,.slice o1 d.occ.length m1,.slice o2 d.points.length m2,.slice o3 d.ways.length m3,.int .i64 (i:Int)] 107)).cell (p:=⟨bw,ow + i * 5 + 4,none⟩) hbw |>.trans g4
 have u2:=(boxes1 w 107 #[.int .i64 p.sections,.slice a1 p.switches.length c1,.slice (some ⟨bw,ow,none⟩) p.ways.length c2,.slice a3 p.bars.length c3,.int .i64 p.hold,.bool d.ok,.slice o1 d.occ.length m1,.slice o2 d.points.length m2,.slice o3 d.ways.length m3,.int .i64 (i:Int)]).cell (j:=0) (i:=2) rfl rfl
 have u9:=(boxes1 w 107 #[.int .i64 p.sections,.slice a1 p.switches.length c1,.slice (some ⟨bw,ow,none⟩) p.ways.length c2,.slice a3 p.bars.length c3,.int .i64 p.hold,.bool d.ok,.slice o1 d.occ.length m1,.slice o2 d.points.length m2,.slice o3 d.ways.length m3,.int .i64 (i:Int)]).cell (j:=0) (i:=9) rfl rfl
 rw [Nat.add_zero] at u2 u9
 have b0:=T0.cell (j:=0) (i:=0) rfl rfl
 have b1:=T0.cell (j:=0) (i:=1) rfl rfl
 have b2:=T0.cell (j:=0) (i:=2) rfl rfl
 have b3:=T0.cell (j:=0) (i:=3) rfl rfl
 have b4:=T0.cell (j:=0) (i:=4) rfl rfl
 have b5:=T0.cell (j:=0) (i:=5) rfl rfl
 have b6:=T0.cell (j:=0) (i:=6) rfl rfl
 have b7:=T0.cell (j:=0) (i:=7) rfl rfl
 have b8:=T0.cell (j:=0) (i:=8) rfl rfl
 have b9:=T0.cell (j:=0) (i:=9) rfl rfl
 have e0:=T0.cell (j:=1) (i:=0) rfl rfl
 have e3:=T0.cell (j:=1) (i:=3) rfl rfl
 rw [Nat.add_zero] at b0 b1 b2 b3 b4 b5 b6 b7 b8 b9
 have hil':(i:Int) < (p.ways.length:Int):=by omega
 have TL2:=(T0.call (below_drew _)).call (below_new _ (.cells #[.slice s0 x.sections.length t0,.slice s3 x.over.length t3] 23))
 have h0:=TL2.cell (j:=0) (i:=0) rfl rfl
 have h1:=TL2.cell (j:=0) (i:=1) rfl rfl
 have h2:=TL2.cell (j:=0) (i:=2) rfl rfl
 have h3:=TL2.cell (j:=0) (i:=3) rfl rfl
 have h4:=TL2.cell (j:=0) (i:=4) rfl rfl
 have h5:=TL2.cell (j:=0) (i:=5) rfl rfl
 have h6:=TL2.cell (j:=0) (i:=6) rfl rfl
 have h7:=TL2.cell (j:=0) (i:=7) rfl rfl
 have h8:=TL2.cell (j:=0) (i:=8) rfl rfl
 have h9:=TL2.cell (j:=0) (i:=9) rfl rfl
 rw [Nat.add_zero] at h0 h1 h2 h3 h4 h5 h6 h7 h8 h9
 clear hvo hcol g0 g1 g2 g3 g4 hcw hxa hp hf hx hd hs hl hz0 T0 TL2
 go_enter Tryz.func65,Tryz.ntmps65
 go_wp2
 go_region_with (first | (go_at_call 111; refine HVO.out.mono ?_; rintro e w3 ⟨bS,vS,rfl,T3,hlt3,hc3,hL3⟩; have HLT:=hide hlt3; have HC3:=hide hc3; have HL3:=hide hL3; have HT3:=hide T3; clear hlt3 hc3 hL3; have k0:=T3.cell (j:=0) (i:=0) rfl rfl; have k1:=T3.cell (j:=0) (i:=1) rfl rfl; have k2:=T3.cell (j:=0) (i:=2) rfl rfl; have k3:=T3.cell (j:=0) (i:=3) rfl rfl; have k4:=T3.cell (j:=0) (i:=4) rfl rfl; have k5:=T3.cell (j:=0) (i:=5) rfl rfl; have k6:=T3.cell (j:=0) (i:=6) rfl rfl; have k7:=T3.cell (j:=0) (i:=7) rfl rfl; have k8:=T3.cell (j:=0) (i:=8) rfl rfl; have k9:=T3.cell (j:=0) (i:=9) rfl rfl; rw [Nat.add_zero] at k0 k1 k2 k3 k4 k5 k6 k7 k8 k9; clear T3) | (go_at_call 55; refine (thoseInt_any _ _ _ _ _).mono ?_; rintro e w4 ⟨rfl,hw4⟩; have HW4:=hide hw4; clear hw4) | (go_at_call 110; refine (HCOL.out _ _ _ _ HT3.out HLT.out HC3.out HL3.out HW4.out).mono ?_; rintro e w5 ⟨a5,c5,rfl,hb5⟩; have HB5:=hide hb5; clear hb5))
 all_goals
  go_wp2
  go_ret
  exact ⟨a5,c5,rfl,HB5.out⟩
end Go.Proofs.YtdhinkgjiapigaaGreatDoor

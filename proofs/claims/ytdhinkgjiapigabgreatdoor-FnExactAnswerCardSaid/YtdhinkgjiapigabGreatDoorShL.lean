import Derived.Test.YtdhinkgjiapigabGreatDoorShK
import Derived.Test.YtdhinkgjiapigabGreatDoorShT
import Derived.Test.YtdhinkgjiapigabGreatDoorFrIC
namespace Go.Proofs.YtdhinkgjiapigabGreatDoor
open Go.RowKit Go.Deep Go.Shelf
open Classical
theorem state_in {p:PlanD} {d:FrameD} (hR:zas p d) (i:Nat) (h:HeldD) (hh:d.ways[i]? = some h):InR h.state 0 4:=by
 have hi:=(List.getElem?_eq_some_iff.1 hh).1;obtain ⟨x,hx⟩:=zb4 p.ways (show i < p.ways.length by have:=hR.2.2.2.2.1; omega);exact (hR.2.2.2.2.2.2.1 i hi x h hx hh).1.1
set_option maxRecDepth 100000 in
set_option maxHeartbeats 2000000 in
theorem shownI_any (p1 p2 p3 f1 f2 f3:Value) (p:PlanD) (d:FrameD) (w:World) (hp:PlanAt (In w) w p1 p2 p3 p) (hc:WaysC (In w) w p2 p.ways) (hf:FrameAt (In w) w f1 f2 f3 d) (hs:p.Small 1048576) (hd:d.Small 1048576) (hR:zas p d) (hsg:SignsAt w) (hsb : 0 < w.heap.size) :
  Calls Tryz.prog 122 #[.agg #[.int .i64 p.sections,p1,p2,p3,.int .i64 p.hold],.agg #[.bool d.ok,f1,f2,f3]] w fun e w'=>e = .returned (.string (tx (zya p d))) ∧ Below w.heap.size w w':=by
 obtain ⟨a1,c1,rfl⟩:=hp.1.size;obtain ⟨a2,c2,rfl⟩:=hp.2.1.size;obtain ⟨a3,c3,rfl⟩:=hp.2.2.size;obtain ⟨o1,m1,rfl⟩:=hf.1.size;obtain ⟨o2,m2,rfl⟩:=hf.2.1.size;obtain ⟨o3,m3,rfl⟩:=hf.2.2.size;have T0:=zbc w 37 42 #[.int .i64 p.sections,.slice a1 p.switches.length c1,.slice a2 p.ways.length c2,.slice a3 p.bars.length c3,.int .i64 p.hold] #[.bool d.ok,.slice o1 d.occ.length m1,.slice o2 d.points.length m2,.slice o3 d.ways.length m3];have hfr:=Lib.fresh_isBuilder 140 5 ((w.alloc (.cells #[.int .i64 p.sections,.slice a1 p.switches.length c1,.slice a2 p.ways.length c2,.slice a3 p.bars.length c3,.int .i64 p.hold] 37)).alloc (.cells #[.bool d.ok,.slice o1 d.occ.length m1,.slice o2 d.points.length m2,.slice o3 d.ways.length m3] 42));have T2:=T0.call (zab _ (.cells #[.pointer none,.slice none 0 0] 140));obtain ⟨W2,hW2⟩:∃ W,W = ((w.alloc (.cells #[.int .i64 p.sections,.slice a1 p.switches.length c1,.slice a2 p.ways.length c2,.slice a3 p.bars.length c3,.int .i64 p.hold] 37)).alloc (.cells #[.bool d.ok,.slice o1 d.occ.length m1,.slice o2 d.points.length m2,.slice o3 d.ways.length m3] 42)).alloc (.cells #[.pointer none,.slice none 0 0] 140):=⟨_,rfl⟩
 have hz:W2.heap.size = w.heap.size + 3:=by rw [hW2]; simp
 have hs2:((w.alloc (.cells #[.int .i64 p.sections,.slice a1 p.switches.length c1,.slice a2 p.ways.length c2,.slice a3 p.bars.length c3,.int .i64 p.hold] 37)).alloc (.cells #[.bool d.ok,.slice o1 d.occ.length m1,.slice o2 d.points.length m2,.slice o3 d.ways.length m3] 42)).heap.size = w.heap.size + 1 + 1:=by simp
 rw [hs2,← hW2] at hfr;rw [← hW2] at T2;clear T0 hs2;have hb2:=T2.below;have KB:=zaa fun (W:World) (k:Below (w.heap.size + 1 + 1) W2 W)=>hb2.trans (k.mono (show w.heap.size ≤ w.heap.size + 1 + 1 by omega));have KP:=zaa fun (W:World) (k:Below (w.heap.size + 1 + 1) W2 W)=>hp.keep (Q:=fun c=>c < w.heap.size + 1 + 1) (In.keep (KB.out W k)).1 fun c hc=>Nat.lt_of_lt_of_le (show c < w.heap.size from hc) (by omega);have KC:=zaa fun (W:World) (k:Below (w.heap.size + 1 + 1) W2 W)=>hc.keep (Q:=fun c=>c < w.heap.size + 1 + 1) (In.keep (KB.out W k)).1 fun c hc=>Nat.lt_of_lt_of_le (show c < w.heap.size from hc) (by omega);have KF:=zaa fun (W:World) (k:Below (w.heap.size + 1 + 1) W2 W)=>hf.keep (Q:=fun c=>c < w.heap.size + 1 + 1) (In.keep (KB.out W k)).1 fun c hc=>Nat.lt_of_lt_of_le (show c < w.heap.size from hc) (by omega);have KS:=zaa fun (W:World) (k:Below (w.heap.size + 1 + 1) W2 W)=>hsg.below (KB.out W k) hsb
 have hsb2 : 0 < w.heap.size + 1 + 1:=by omega
 have hno:d.occ.length ≤ 100:=by have h1:=hR.2.2.1; have h2:p.sections ≤ 60:=hR.1.parts.1.1.2; omega
 have hnq:d.points.length ≤ 100:=by rw [hR.2.2.2.1]; have:=hR.1.parts.1.2.1; omega
 have hnw:d.ways.length ≤ 100:=by rw [hR.2.2.2.2.1]; have:=hR.1.parts.1.2.2.1; omega
 have HP1:=zaa (zys (w.heap.size + 1 + 1) (w.heap.size + 1 + 1) [] _ _ _ _ _ _ p d W2 hfr (Nat.zero_le _) (by omega) (KP.out W2 (Below.refl _ _)) (KC.out W2 (Below.refl _ _)) (KF.out W2 (Below.refl _ _)) hs hd hR (KS.out W2 (Below.refl _ _)) hsb2);have HR:=zaa hR;have HS:=zaa hs;have HD:=zaa hd;clear hp hc hf hs hd hR hsg hfr hb2;go_enter Tryz.func122,Tryz.ntmps122
 go_upto_region 3 with fail
 rw [← hW2];clear hW2;have b0:=T2.cell (j:=0) (i:=0) rfl rfl;have b1:=T2.cell (j:=0) (i:=1) rfl rfl;have b2:=T2.cell (j:=0) (i:=2) rfl rfl;have b3:=T2.cell (j:=0) (i:=3) rfl rfl;have b4:=T2.cell (j:=0) (i:=4) rfl rfl;have q0:=T2.cell (j:=1) (i:=0) rfl rfl;have q1:=T2.cell (j:=1) (i:=1) rfl rfl;have q2:=T2.cell (j:=1) (i:=2) rfl rfl;have q3:=T2.cell (j:=1) (i:=3) rfl rfl;rw [Nat.add_zero] at b0 b1 b2 b3 b4;clear T2
 go_wp2_with fail
 refine HP1.out.mono ?_;rintro e w3 ⟨rfl,g1,g2,g3⟩;rw [List.nil_append] at g1;have HP2:=zaa (zx6 (w.heap.size + 1 + 1) (w.heap.size + 1 + 1) _ 12 32 w3 g1 (by rw [zx0]; omega) (by have:=g3.size; omega) rfl (KS.out w3 g2));have HB3:=zaa g2;have HZ3:=zaa g3.size;clear g1 g2 g3 HP1
 go_wp2_with fail
 refine HP2.out.mono ?_;rintro e w4 ⟨rfl,g1,g2,g3⟩;have hb4:=HB3.out.trans g2
 have hz4:w.heap.size + 3 ≤ w4.heap.size:=by have:=g3.size; have:=HZ3.out; omega
 have HP3:=zaa (zy8 (w.heap.size + 1 + 1) (w.heap.size + 1 + 1) _ _ _ _ _ _ _ p d w4 g1 (by rw [List.length_append,zx0]; show _ + 1 ≤ _; omega) (by omega) (KP.out w4 hb4) (KC.out w4 hb4) (KF.out w4 hb4) HS.out HD.out HR.out (KS.out w4 hb4) hsb2);have y0:=(hb4.cell (p:=⟨w.heap.size,0,none⟩) (by show w.heap.size < _; omega)).trans b0;have y1:=(hb4.cell (p:=⟨w.heap.size,1,none⟩) (by show w.heap.size < _; omega)).trans b1;have y2:=(hb4.cell (p:=⟨w.heap.size,2,none⟩) (by show w.heap.size < _; omega)).trans b2;have y3:=(hb4.cell (p:=⟨w.heap.size,3,none⟩) (by show w.heap.size < _; omega)).trans b3;have y4:=(hb4.cell (p:=⟨w.heap.size,4,none⟩) (by show w.heap.size < _; omega)).trans b4;have x0:=(hb4.cell (p:=⟨w.heap.size + 1,0,none⟩) (by show w.heap.size + 1 < _; omega)).trans q0;have x1:=(hb4.cell (p:=⟨w.heap.size + 1,1,none⟩) (by show w.heap.size + 1 < _; omega)).trans q1;have x2:=(hb4.cell (p:=⟨w.heap.size + 1,2,none⟩) (by show w.heap.size + 1 < _; omega)).trans q2;have x3:=(hb4.cell (p:=⟨w.heap.size + 1,3,none⟩) (by show w.heap.size + 1 < _; omega)).trans q3;have HB4:=zaa hb4;clear g1 g2 g3 HP2 HB3 HZ3 hb4 b0 b1 b2 b3 b4
 go_wp2_with fail
 refine HP3.out.mono ?_;rintro e w5 ⟨rfl,g1,g2,g3⟩;clear y0 y1 y2 y3 y4 x0 x1 x2 x3;have hb5:=HB4.out.trans g2
 have hz5:w.heap.size + 3 ≤ w5.heap.size:=by have:=g3.size; omega
 have hlp:=zyh p d d.points.length;have HP4:=zaa (zx6 (w.heap.size + 1 + 1) (w.heap.size + 1 + 1) _ 12 32 w5 g1 (by rw [List.length_append,List.length_append,zx0]; show _ + 1 + _ ≤ _; omega) (by omega) rfl (KS.out w5 hb5));have HB5:=zaa hb5;clear g1 g2 g3 HP3 HB4 hb5
 go_wp2_with fail
 refine HP4.out.mono ?_;rintro e w6 ⟨rfl,g1,g2,g3⟩;have hb6:=HB5.out.trans g2
 have hz6:w.heap.size + 3 ≤ w6.heap.size:=by have:=g3.size; omega
 have HP5:=zaa (zzv (w.heap.size + 1 + 1) (w.heap.size + 1 + 1) _ _ _ _ d w6 g1 (by rw [List.length_append,List.length_append,List.length_append,zx0]; show _ + 1 + _ + 1 ≤ _; omega) (by omega) (KF.out w6 hb6) (state_in HR.out) hnw (KS.out w6 hb6) hsb2);have x0:=(hb6.cell (p:=⟨w.heap.size + 1,0,none⟩) (by show w.heap.size + 1 < _; omega)).trans q0;have x1:=(hb6.cell (p:=⟨w.heap.size + 1,1,none⟩) (by show w.heap.size + 1 < _; omega)).trans q1;have x2:=(hb6.cell (p:=⟨w.heap.size + 1,2,none⟩) (by show w.heap.size + 1 < _; omega)).trans q2;have x3:=(hb6.cell (p:=⟨w.heap.size + 1,3,none⟩) (by show w.heap.size + 1 < _; omega)).trans q3;have HB6:=zaa hb6;clear g1 g2 g3 HP4 HB5 hb6 q0 q1 q2 q3
 go_wp2_with fail
 refine HP5.out.mono ?_;rintro e w7 ⟨rfl,g1,g2,g3⟩;clear x0 x1 x2 x3;obtain ⟨t,ht⟩:∃ t,t = zya p d:=⟨_,rfl⟩;change BuT _ _ (zya p d) w7 at g1;rw [← ht] at g1
 have hne:t ≠ []:=by
  rw [ht];intro e;have:=congrArg List.length e;unfold zya at this;rw [List.length_append,List.length_append] at this;change _ + 1 + _ = 0 at this;omega
 have HP6:=zaa (zyp (w.heap.size + 1 + 1) (w.heap.size + 1 + 1) _ w7 g1 hne);have HTX:=zaa ht;clear ht hne;have HB7:=zaa (HB6.out.trans g2);clear g1 g2 g3 HP5 HB6
 go_wp2_with fail
 refine HP6.out.mono ?_;rintro e w8 ⟨rfl,g1⟩;have FIN:=zaa (KB.out w8 (HB7.out.trans g1));clear g1 HP6 HB7;go_wp2;go_ret;exact ⟨zyk HTX.out,FIN.out⟩
end Go.Proofs.YtdhinkgjiapigabGreatDoor

import Derived.Test.YtdhinkgjiapigabGreatDoorAnT
import Derived.Test.YtdhinkgjiapigabGreatDoorRunS
import Derived.Test.YtdhinkgjiapigabGreatDoorRunSx
import Derived.Test.YtdhinkgjiapigabGreatDoorToA
import Derived.Test.YtdhinkgjiapigabGreatDoorToAx
import Derived.Deep.RegionWith
import Derived.Deep.DeepCutAuto
namespace Go.Proofs.YtdhinkgjiapigabGreatDoor
open Go.RowKit Go.Deep
open Classical
set_option maxRecDepth 100000 in
set_option maxHeartbeats 40000000 in
theorem lawA_any (v1 v2 v3 ve:Value) (p:PlanD) (es:List (Int × Int × Int)) (w:World) (hp:PlanAt (In w) w v1 v2 v3 p) (hev:Evs (In w) w ve es) (hs:p.Small 9223372036854775807) (hes:es.length ≤ 9223372036854775807) (hg:w.cell? ⟨1,0,none⟩ = some zrv) (hsg:SignsAt w) (hsb : 0 < w.heap.size) :
  Calls Tryz.prog 12 #[.agg #[.int .i64 p.sections,v1,v2,v3,.int .i64 p.hold],ve] w fun e w'=>e = .returned (.bool true) ∧ Below w.heap.size w w':=by
 have T0:=zaw w 26 #[.int .i64 p.sections,v1,v2,v3,.int .i64 p.hold];have KP:=zaa fun (W:World) (h:Below w.heap.size w W)=>hp.keep (Q:=In W) (In.keep h).1 (In.keep h).2;have KE:=zaa fun (W:World) (h:Below w.heap.size w W)=>hev.keep (Q:=In W) (In.keep h).1 (In.keep h).2;have HG:=zaa hg;obtain ⟨ae,ce,rfl,-⟩:=id hev;clear hp hev hg;go_enter Tryz.func12,Tryz.ntmps12
 go_wp2_with fail
 refine (szPlan_any p.sections p.hold v1 v2 v3 p 1048576 _ (KP.out _ T0.below) hs (by omega) (by omega)).mono ?_;rintro e w1 ⟨r,rfl,hb,hr | ⟨pr,pr2,sm⟩⟩
 ·subst hr;have T1:=T0.call hb;go_wp2;go_ret;exact ⟨rfl,T1.below⟩
 have SM:=zaa sm;have T1:=T0.call hb;clear sm hs T0 hb
 go_wp2_with fail
 refine (szEventS_any ae es.length ce r _ hes pr (by omega)).mono ?_;rintro e w1' ⟨r2,rfl,rfl,hr | ⟨pr3,-,sm⟩⟩
 ·subst hr;go_wp2;go_ret;exact ⟨rfl,T1.below⟩
 have SE:=zaa sm
 have R1:Rows [(w.heap.size,26,#[.int .i64 p.sections,v1,v2,v3,.int .i64 p.hold])] w1':=fun r hr=>by
  obtain rfl:=List.mem_singleton.1 hr;exact T1.row 0 _ _ rfl
 have hz1:w.heap.size < w1'.heap.size:=T1.lt (j:=0) rfl;have HB1:=zaa T1.below;clear sm hes T1;obtain ⟨b0,b1,b2,b3,b4⟩:=R1.cells5 (j:=0) rfl
 go_wp2_with fail
 refine (zy3 p.sections p.hold v1 v2 v3 p _ (KP.out _ HB1.out) SM.out).mono ?_;clear b0 b1 b2 b3 b4;rintro e w2 ⟨u1,u2,u3,rfl,hb2,hu⟩;have HB2:=zaa (HB1.out.trans (hb2.mono HB1.out.size));have R2:=R1.call hb2;have HU:=zaa (hu.keep (zax _ _) (Q:=In w2) fun b hb=>hb.2.1);have hz2:=hb2.size;clear hu hb2 R1 HB1
 go_wp2_with fail
 refine (toEventS_any _ es _ (KE.out _ HB2.out) SE.out).mono ?_;rintro e w3 ⟨v4,rfl,hb3,he3⟩;have HB3:=zaa (HB2.out.trans (hb3.mono HB2.out.size));have R3:=R2.call hb3;have HU3:=zaa (HU.out.keep (In.keep hb3).1 (In.keep hb3).2);have HE3:=zaa (he3.keep (zax _ _) (Q:=In w3) fun b hb=>hb.2.1);have hz3:=hb3.size;clear he3 hb3 R2 HB2 HU
 go_wp2_with fail
 refine (specAnswer_any _ _ _ _ p es _ HU3.out HE3.out SM.out SE.out).mono ?_;rintro e wZ ⟨rfl,hbZ⟩;have HBZ:=zaa (HB3.out.trans (hbZ.mono HB3.out.size));have RZ:=R3.call hbZ;have hzZ:=hbZ.size;clear hbZ R3 HB3 HU3 HE3;obtain ⟨b0,b1,b2,b3,b4⟩:=RZ.cells5 (j:=0) rfl
 go_wp2_with fail
 refine (zyv p.sections p.hold v1 v2 v3 p _ (KP.out _ HBZ.out) SM.out).mono ?_;clear b0 b1 b2 b3 b4;rintro e w6 ⟨x1,x2,x3,rfl,hb6,hx,hxc⟩;have HXF:=zaa hx;have HXC:=zaa (hxc.keep (zax _ _) (Q:=In w6) fun b hb=>hb.2.1);have HX6:=zaa (hx.keep (zax _ _) (Q:=In w6) fun b hb=>hb.2.1);obtain ⟨⟨y1,z1,rfl,-⟩,⟨y2,z2,rfl,-⟩,⟨y3,z3,rfl,-⟩⟩:=id hx;have hbn6:=zab w6 (.cells #[.int .i64 p.sections,.slice y1 p.switches.length z1,.slice y2 p.ways.length z2,.slice y3 p.bars.length z3,.int .i64 p.hold] 37);have hrn6:=zak w6 37 #[.int .i64 p.sections,.slice y1 p.switches.length z1,.slice y2 p.ways.length z2,.slice y3 p.bars.length z3,.int .i64 p.hold];have hz6:=hb6.size;have hb7:=hb6.trans (hbn6.mono hb6.size);have R7a:=(RZ.call hb6).call hbn6;have R7:Rows [(w.heap.size,26,#[.int .i64 p.sections,v1,v2,v3,.int .i64 p.hold]),(w6.heap.size,37,#[.int .i64 p.sections,.slice y1 p.switches.length z1,.slice y2 p.ways.length z2,.slice y3 p.bars.length z3,.int .i64 p.hold])] (w6.alloc (.cells #[.int .i64 p.sections,.slice y1 p.switches.length z1,.slice y2 p.ways.length z2,.slice y3 p.bars.length z3,.int .i64 p.hold] 37)):=R7a.snoc hrn6;have HB7:=zaa (HBZ.out.trans (hb7.mono HBZ.out.size));have HBZ7:=zaa hb7;have HBN6:=zaa hbn6
 have hzW7:(w6.alloc (.cells #[.int .i64 p.sections,.slice y1 p.switches.length z1,.slice y2 p.ways.length z2,.slice y3 p.bars.length z3,.int .i64 p.hold] 37)).heap.size = w6.heap.size + 1:=by simp
 clear hx hxc RZ R7a hb6 hbn6 hb7 hrn6 HBZ
 go_wp2_with fail
 refine (toEventS_any _ es _ (KE.out _ HB7.out) SE.out).mono ?_;obtain ⟨W7,hW7⟩:∃ W,W = (w6.alloc (.cells #[.int .i64 p.sections,.slice y1 p.switches.length z1,.slice y2 p.ways.length z2,.slice y3 p.bars.length z3,.int .i64 p.hold] 37)):=⟨_,rfl⟩;rw [← hW7] at R7 HB7 HBZ7 HBN6 hzW7 ⊢;clear hW7;rintro e w8 ⟨ve8,rfl,hb8,he8⟩;have HEF:=zaa he8;have HE8:=zaa (he8.keep (zax _ _) (Q:=In w8) fun b hb=>hb.2.1);have R8:=R7.call hb8;have HB8:=zaa (HB7.out.trans (hb8.mono HB7.out.size));have HBZ8:=zaa (HBZ7.out.trans (hb8.mono HBZ7.out.size));have HB68:=zaa (HBN6.out.trans (hb8.mono HBN6.out.size));have hz8:=hb8.size;obtain ⟨a8,c8,rfl,-⟩:=id he8;have HI:=zaa (implAnswer_any _ _ _ _ p es w8 (HX6.out.keep (In.keep HB68.out).1 (In.keep HB68.out).2) (HXC.out.keep (In.keep HB68.out).1 (In.keep HB68.out).2) HE8.out SM.out SE.out (ck HG.out HB8.out) (hsg.below HB8.out hsb) (Nat.lt_of_lt_of_le hsb HB8.out.size));clear he8 hb8 R7 HB7 HBZ7 HBN6;obtain ⟨m0,m1,m2,m3,m4⟩:=R8.cells5 (j:=1) rfl
 go_wp2_with fail
 refine HI.out.mono ?_;clear m0 m1 m2 m3 m4 HI;rintro e w9 ⟨rfl,hbI⟩;have R9:=R8.call hbI;have HB9:=zaa (HB8.out.trans (hbI.mono HB8.out.size));have h69:=HB68.out.trans (hbI.mono HB68.out.size);have HB89:=zaa hbI;have hz9:=hbI.size;clear hbI R8 HB8 HBZ8 HB68;have HR9:=zaa (R9.call (zaf _));have H69:=zaa (h69.trans ((zaf w9).mono h69.size))
 have hq:Calls Tryz.prog 16 #[.agg #[.int .i64 p.sections,v1,v2,v3,.int .i64 p.hold]] w9.drew fun e w'=>∃ u1 u2 u3,e = .returned (.agg #[.int .i64 p.sections,u1,u2,u3,.int .i64 p.hold]) ∧ Below w9.drew.heap.size w9.drew w' ∧ PlanAt (In w') w' u1 u2 u3 p ∧ (w'.cell? ⟨w6.heap.size,0,none⟩ = some (.int .i64 p.sections) ∧ w'.cell? ⟨w6.heap.size,1,none⟩ = some (.slice y1 p.switches.length z1) ∧ w'.cell? ⟨w6.heap.size,2,none⟩ = some (.slice y2 p.ways.length z2) ∧ w'.cell? ⟨w6.heap.size,3,none⟩ = some (.slice y3 p.bars.length z3) ∧ w'.cell? ⟨w6.heap.size,4,none⟩ = some (.int .i64 p.hold)):=by
  have hB:=HB9.out.trans ((zaf w9).mono HB9.out.size);refine (zy3 p.sections p.hold v1 v2 v3 p _ (KP.out _ hB) SM.out).mono ?_;rintro e w' ⟨u1,u2,u3,rfl,hb,hu⟩;exact ⟨u1,u2,u3,rfl,hb,hu.keep (zax _ _) fun b hb=>hb.2.1,(HR9.out.call hb).cells5 (j:=1) rfl⟩
 have HQ:=zaa hq
 have hq2:∀ W u1 u2 u3,Below w9.drew.heap.size w9.drew W → PlanAt (In W) W u1 u2 u3 p → Calls Tryz.prog 19 #[.agg #[.int .i64 p.sections,.slice y1 p.switches.length z1,.slice y2 p.ways.length z2,.slice y3 p.bars.length z3,.int .i64 p.hold],.agg #[.int .i64 p.sections,u1,u2,u3,.int .i64 p.hold]] W fun e w'=>e = .returned (.bool true) ∧ Below w9.drew.heap.size w9.drew w':=fun W u1 u2 u3 hbw hpw=>by
  have hIW:Below w6.heap.size w6 W:=H69.out.trans (hbw.mono H69.out.size);refine (zz8 p.sections p.hold _ _ _ u1 u2 u3 p W (HX6.out.keep (In.keep hIW).1 (In.keep hIW).2) hpw SM.out).mono ?_;rintro e w' ⟨rfl,hb⟩;exact ⟨rfl,hbw.trans (hb.mono hbw.size)⟩
 have HQ2:=zaa hq2;clear hq hq2 h69;obtain ⟨b0,b1,b2,b3,b4⟩:=R9.cells5 (j:=0) rfl;obtain ⟨m0,m1,m2,m3,m4⟩:=R9.cells5 (j:=1) rfl;go_wp2
 go_cut [39] (fun v wk=>v = .bool false ∧ Below w9.heap.size w9 wk)
 case first=>
  go_region_with (first | (go_at_call 16; refine HQ.out.mono ?_; rintro e wa ⟨u1,u2,u3,rfl,hb9,hp9,k0,k1,k2,k3,k4⟩; have HP9:=zaa hp9; have HBa:=zaa hb9; clear hp9 hb9) | (go_at_call 19; refine (HQ2.out _ _ _ _ HBa.out HP9.out).mono ?_; rintro e wb ⟨rfl,hba⟩; have HBA:=zaa hba; clear hba))
  all_goals
   go_wp2_with fail
   go_meet;exact ⟨rfl,(zaf w9).trans (HBA.out.mono (zaf w9).size)⟩
 case rest=>
  obtain ⟨rfl,hbk⟩:=hcut;rename World=>wk;have HBk:=zaa (HB9.out.trans (hbk.mono HB9.out.size));have h8k:=HB89.out.trans (hbk.mono HB89.out.size);have H8k:=zaa h8k;clear b0 b1 b2 b3 b4 m0 m1 m2 m3 m4 HQ HQ2 HR9 hbk h8k R9 HB9 H69
  go_wp2_with fail
  refine (toEventS_any _ es _ (KE.out _ HBk.out) SE.out).mono ?_;rintro e wl ⟨vl,rfl,hbl,hel⟩;have h8l:Below w8.heap.size w8 wl:=H8k.out.trans (hbl.mono H8k.out.size);have HEQ:=zaa (eqEventS_any _ _ es wl (HE8.out.keep (In.keep h8l).1 (In.keep h8l).2) (hel.keep (zax _ _) (Q:=In wl) fun b hb=>hb.2.1) SE.out);have HBl:=zaa (HBk.out.trans (hbl.mono HBk.out.size));clear hel h8l hbl HBk
  go_wp2_with fail
  refine HEQ.out.mono ?_;rintro e wB ⟨rfl,hbB⟩;have HBB:=zaa (HBl.out.trans (hbB.mono HBl.out.size));go_wp2;go_ret;exact ⟨rfl,HBB.out⟩
end Go.Proofs.YtdhinkgjiapigabGreatDoor

import Derived.Test.YtdhinkgjiapigabGreatDoorRunS
import Derived.Test.YtdhinkgjiapigabGreatDoorRunH
import Derived.Test.YtdhinkgjiapigabGreatDoorEqG
import Derived.Deep.RegionWith
import Derived.Deep.DeepCutAuto
namespace Go.Proofs.YtdhinkgjiapigabGreatDoor
open Go.RowKit Go.Deep
open Classical
theorem runs_all {p:PlanD} (hp:Right p) (es:List (Int × Int × Int)) (k:Nat) (hk:k ≤ es.length):∀ x ∈ runsD p (beginD p) (es.take k),FrameR p x.2:=by
 induction k with
 | zero=>intro x hx; cases hx
 | succ k ih=>
  obtain ⟨e,he⟩:=get_some es (hide rfl) (show k < es.length by omega)
  rw [runs_take p (beginD p) he]
  intro x hx
  rcases List.mem_append.1 hx with z | z
  ·exact ih (by omega) x z
  ·obtain rfl:=List.mem_singleton.1 z
   exact step_frame (runs_frame hp es k (by omega)) e
theorem run_all {p:PlanD} {es:List (Int × Int × Int)}:(∀ x ∈ runOf p es,FrameR p x.2) ∧ (runOf p es).length ≤ 1000:=by
 unfold runOf
 split
 ·rename_i h
  have h1:=runs_all h.1 es es.length (Nat.le_refl _)
  have h2:=runs_length p (beginD p) es es.length (Nat.le_refl _)
  rw [List.take_length] at h1 h2
  exact ⟨h1,by rw [h2]; exact h.2⟩
 ·exact ⟨(fun x hx=>by cases hx),Nat.zero_le _⟩
theorem frame_cnt {p:PlanD} {d:FrameD} (hR:FrameR p d):cntF d ≤ 1048576:=by
 have hfit:=fits_of hR.1 hR.2.2.1 hR.2.2.2.1 hR.2.2.2.2.1 hR.2.2.2.2.2.2.1
 obtain ⟨⟨h1,h2,h3,-⟩,-⟩:=hR.1.parts
 have a:=hR.2.2.1
 have b:=hR.2.2.2.1
 have c:=hR.2.2.2.2.1
 have hbe:∀ x ∈ d.ways,x.been.length ≤ 30:=fun h hm=>by
  obtain ⟨i,hi⟩:=List.getElem?_of_mem hm
  obtain ⟨x,hx⟩:=get_some p.ways (hide rfl) (show i < p.ways.length by have:=(List.getElem?_eq_some_iff.1 hi).1; omega)
  have h9:=hfit.2.2.2.2 i x h hx hi
  have h7:=h9.1
  have h8:=h9.2.2.1.1
  omega
 have hc:=cntH_le hbe d.ways.length
 rw [List.take_of_length_le (Nat.le_refl _)] at hc
 have:=h1.2
 unfold cntF
 omega
set_option maxRecDepth 100000 in
set_option maxHeartbeats 40000000 in
theorem lawR_any (v1 v2 v3 ve:Value) (p:PlanD) (es:List (Int × Int × Int)) (w:World) (hp:PlanAt (In w) w v1 v2 v3 p) (hev:Evs (In w) w ve es) (hs:p.Small 9223372036854775807) (hes:es.length ≤ 9223372036854775807) (hg:w.cell? ⟨1,0,none⟩ = some errT) :
  Calls Tryz.prog 5 #[.agg #[.int .i64 p.sections,v1,v2,v3,.int .i64 p.hold],ve] w fun e w'=>e = .returned (.bool true) ∧ Below w.heap.size w w':=by
 have T0:=boxes1 w 26 #[.int .i64 p.sections,v1,v2,v3,.int .i64 p.hold]
 have KP:=hide fun (W:World) (h:Below w.heap.size w W)=>hp.keep (Q:=In W) (In.keep h).1 (In.keep h).2
 have KE:=hide fun (W:World) (h:Below w.heap.size w W)=>hev.keep (Q:=In W) (In.keep h).1 (In.keep h).2
 have HG:=hide hg
 obtain ⟨ae,ce,rfl,-⟩:=id hev
 clear hp hev hg
 go_enter Tryz.func5,Tryz.ntmps5
 go_wp2_with fail
 refine (szPlan_any p.sections p.hold v1 v2 v3 p 1048576 _ (KP.out _ T0.below) hs (by omega) (by omega)).mono ?_
 rintro e w1 ⟨r,rfl,hb,hr | ⟨pr,pr2,sm⟩⟩
 ·subst hr
  have T1:=T0.call hb
  go_wp2
  go_ret
  exact ⟨rfl,T1.below⟩
 have SM:=hide sm
 have T1:=T0.call hb
 clear sm hs T0 hb
 go_wp2_with fail
 refine (szEventS_any ae es.length ce r _ hes pr (by omega)).mono ?_
 rintro e w1' ⟨r2,rfl,rfl,hr | ⟨pr3,-,sm⟩⟩
 ·subst hr
  go_wp2
  go_ret
  exact ⟨rfl,T1.below⟩
 have SE:=hide sm
 obtain ⟨L,hL⟩:∃ L,L = runOf p es:=⟨_,rfl⟩
 have hLa:∀ x ∈ L,FrameR p x.2:=by rw [hL]; exact run_all.1
 have hLn:L.length ≤ 1000:=by rw [hL]; exact run_all.2
 have HSD:=hide fun x (hx:x ∈ L)=>frame_smalls (hLa x hx)
 have HCD:=hide fun x (hx:x ∈ L)=>frame_cnt (hLa x hx)
 have HLL:=hide hL
 have hLn':L.length ≤ 1048576:=by omega
 have R1:Rows [(w.heap.size,26,#[.int .i64 p.sections,v1,v2,v3,.int .i64 p.hold])] w1':=fun r hr=>by
  obtain rfl:=List.mem_singleton.1 hr
  exact T1.row 0 _ _ rfl
 have hz1:w.heap.size < w1'.heap.size:=T1.lt (j:=0) rfl
 have HB1:=hide T1.below
 clear sm hes hLa hL T1
 obtain ⟨b0,b1,b2,b3,b4⟩:=R1.cells5 (j:=0) rfl
 go_wp2_with fail
 refine (toPlan_any p.sections p.hold v1 v2 v3 p _ (KP.out _ HB1.out) SM.out).mono ?_
 clear b0 b1 b2 b3 b4
 rintro e w2 ⟨u1,u2,u3,rfl,hb2,hu⟩
 have HB2:=hide (HB1.out.trans (hb2.mono HB1.out.size))
 have R2:=R1.call hb2
 have HU:=hide (hu.keep (same_refl _ _) (Q:=In w2) fun b hb=>hb.2.1)
 have hz2:=hb2.size
 clear hu hb2 R1 HB1
 go_wp2_with fail
 refine (toEventS_any _ es _ (KE.out _ HB2.out) SE.out).mono ?_
 rintro e w3 ⟨v4,rfl,hb3,he3⟩
 have HB3:=hide (HB2.out.trans (hb3.mono HB2.out.size))
 have R3:=R2.call hb3
 have HU3:=hide (HU.out.keep (In.keep hb3).1 (In.keep hb3).2)
 have HE3:=hide (he3.keep (same_refl _ _) (Q:=In w3) fun b hb=>hb.2.1)
 have hz3:=hb3.size
 clear he3 hb3 R2 HB2 HU
 go_wp2_with fail
 refine (specRun_any _ _ _ _ p es _ HU3.out HE3.out SM.out SE.out).mono ?_
 rintro e wZ ⟨vs,rfl,hbZ,hds⟩
 rw [← HLL.out] at hds
 have HBZ:=hide (HB3.out.trans (hbZ.mono HB3.out.size))
 have RZ:=R3.call hbZ
 have HFS:=hide (hds.read.keep (same_refl _ _) (Q:=In wZ) fun b hb=>hb.2)
 have hzZ:=hbZ.size
 obtain ⟨az,cz,rfl,-⟩:=id hds.read
 clear hds hbZ R3 HB3 HU3 HE3
 obtain ⟨b0,b1,b2,b3,b4⟩:=RZ.cells5 (j:=0) rfl
 go_wp2_with fail
 refine (toPlanC_any p.sections p.hold v1 v2 v3 p _ (KP.out _ HBZ.out) SM.out).mono ?_
 clear b0 b1 b2 b3 b4
 rintro e w6 ⟨x1,x2,x3,rfl,hb6,hx,hxc⟩
 have HXF:=hide hx
 have HXC:=hide (hxc.keep (same_refl _ _) (Q:=In w6) fun b hb=>hb.2.1)
 have HX6:=hide (hx.keep (same_refl _ _) (Q:=In w6) fun b hb=>hb.2.1)
 obtain ⟨⟨y1,z1,rfl,-⟩,⟨y2,z2,rfl,-⟩,⟨y3,z3,rfl,-⟩⟩:=id hx
 have hbn6:=below_new w6 (.cells #[.int .i64 p.sections,.slice y1 p.switches.length z1,.slice y2 p.ways.length z2,.slice y3 p.bars.length z3,.int .i64 p.hold] 37)
 have hrn6:=rowIs_new w6 37 #[.int .i64 p.sections,.slice y1 p.switches.length z1,.slice y2 p.ways.length z2,.slice y3 p.bars.length z3,.int .i64 p.hold]
 have hz6:=hb6.size
 have hb7:=hb6.trans (hbn6.mono hb6.size)
 have R7a:=(RZ.call hb6).call hbn6
 have R7:Rows [(w.heap.size,26,#[.int .i64 p.sections,v1,v2,v3,.int .i64 p.hold]),(w6.heap.size,37,#[.int .i64 p.sections,.slice y1 p.switches.length z1,.slice y2 p.ways.length z2,.slice y3 p.bars.length z3,.int .i64 p.hold])] (w6.alloc (.cells #[.int .i64 p.sections,.slice y1 p.switches.length z1,.slice y2 p.ways.length z2,.slice y3 p.bars.length z3,.int .i64 p.hold] 37)):=R7a.snoc hrn6
 have HB7:=hide (HBZ.out.trans (hb7.mono HBZ.out.size))
 have HBZ7:=hide hb7
 have HBN6:=hide hbn6
 have hzW7:(w6.alloc (.cells #[.int .i64 p.sections,.slice y1 p.switches.length z1,.slice y2 p.ways.length z2,.slice y3 p.bars.length z3,.int .i64 p.hold] 37)).heap.size = w6.heap.size + 1:=by simp
 clear hx hxc RZ R7a hb6 hbn6 hb7 hrn6 HBZ
 go_wp2_with fail
 refine (toEventS_any _ es _ (KE.out _ HB7.out) SE.out).mono ?_
 obtain ⟨W7,hW7⟩:∃ W,W = (w6.alloc (.cells #[.int .i64 p.sections,.slice y1 p.switches.length z1,.slice y2 p.ways.length z2,.slice y3 p.bars.length z3,.int .i64 p.hold] 37)):=⟨_,rfl⟩
 rw [← hW7] at R7 HB7 HBZ7 HBN6 hzW7 ⊢
 clear hW7
 rintro e w8 ⟨ve8,rfl,hb8,he8⟩
 have HEF:=hide he8
 have HE8:=hide (he8.keep (same_refl _ _) (Q:=In w8) fun b hb=>hb.2.1)
 have R8:=R7.call hb8
 have HB8:=hide (HB7.out.trans (hb8.mono HB7.out.size))
 have HBZ8:=hide (HBZ7.out.trans (hb8.mono HBZ7.out.size))
 have HB68:=hide (HBN6.out.trans (hb8.mono HBN6.out.size))
 have hz8:=hb8.size
 obtain ⟨a8,c8,rfl,-⟩:=id he8
 have HI:=hide (implRun_any _ _ _ _ p es w8 (HX6.out.keep (In.keep HB68.out).1 (In.keep HB68.out).2) (HXC.out.keep (In.keep HB68.out).1 (In.keep HB68.out).2) HE8.out SM.out SE.out (ck HG.out HB8.out))
 clear he8 hb8 R7 HB7 HBZ7 HBN6
 obtain ⟨m0,m1,m2,m3,m4⟩:=R8.cells5 (j:=1) rfl
 go_wp2_with fail
 refine HI.out.mono ?_
 clear m0 m1 m2 m3 m4 HI
 rintro e wI ⟨vg,rfl,hbI,hdg⟩
 rw [← HLL.out] at hdg
 obtain ⟨lo,hdo⟩:=hdg.owned
 have HDG:=hide hdo
 obtain ⟨⟨ag,cg,rfl,-⟩,-⟩:=id hdo
 have RI:=R8.call hbI
 have HBI:=hide (HB8.out.trans (hbI.mono HB8.out.size))
 have HBZI:=hide (HBZ8.out.trans (hbI.mono HBZ8.out.size))
 have HB6I:=hide (HB68.out.trans (hbI.mono HB68.out.size))
 have HB8I:=hide hbI
 have HFSI:=hide (HFS.out.keep (Q:=In wZ) (In.keep HBZI.out).1 fun _ z=>z)
 have hzI:=hbI.size
 clear hdg hdo hbI R8 HB8 HBZ8 HB68 HFS
 go_wp2_with fail
 refine (eqDoneS_any _ _ L wI HDG.out.read (HFSI.out.keep (same_refl _ _) (Q:=In wI) fun b hb=>Nat.lt_of_lt_of_le hb HBZI.out.size) hLn' HSD.out).mono ?_
 rintro e w9 ⟨rfl,hb9⟩
 have R9:=RI.call hb9
 have hz9:=hb9.size
 have HB9:=hide (HBI.out.trans (hb9.mono HBI.out.size))
 have HI9:=hide hb9
 have HR9:=hide (R9.call (below_drew _))
 have h69:=HB6I.out.trans (hb9.mono HB6I.out.size)
 have H69:=hide (h69.trans ((below_drew w9).mono h69.size))
 have hq:Calls Tryz.prog 16 #[.agg #[.int .i64 p.sections,v1,v2,v3,.int .i64 p.hold]] w9.drew fun e w'=>∃ u1 u2 u3,e = .returned (.agg #[.int .i64 p.sections,u1,u2,u3,.int .i64 p.hold]) ∧ Below w9.drew.heap.size w9.drew w' ∧ PlanAt (In w') w' u1 u2 u3 p ∧ (w'.cell? ⟨w6.heap.size,0,none⟩ = some (.int .i64 p.sections) ∧ w'.cell? ⟨w6.heap.size,1,none⟩ = some (.slice y1 p.switches.length z1) ∧ w'.cell? ⟨w6.heap.size,2,none⟩ = some (.slice y2 p.ways.length z2) ∧ w'.cell? ⟨w6.heap.size,3,none⟩ = some (.slice y3 p.bars.length z3) ∧ w'.cell? ⟨w6.heap.size,4,none⟩ = some (.int .i64 p.hold)):=by
  have hB:=HB9.out.trans ((below_drew w9).mono HB9.out.size)
  refine (toPlan_any p.sections p.hold v1 v2 v3 p _ (KP.out _ hB) SM.out).mono ?_
  rintro e w' ⟨u1,u2,u3,rfl,hb,hu⟩
  exact ⟨u1,u2,u3,rfl,hb,hu.keep (same_refl _ _) fun b hb=>hb.2.1,(HR9.out.call hb).cells5 (j:=1) rfl⟩
 have HQ:=hide hq
 have hq2:∀ W u1 u2 u3,Below w9.drew.heap.size w9.drew W → PlanAt (In W) W u1 u2 u3 p → Calls Tryz.prog 19 #[.agg #[.int .i64 p.sections,.slice y1 p.switches.length z1,.slice y2 p.ways.length z2,.slice y3 p.bars.length z3,.int .i64 p.hold],.agg #[.int .i64 p.sections,u1,u2,u3,.int .i64 p.hold]] W fun e w'=>e = .returned (.bool true) ∧ Below w9.drew.heap.size w9.drew w':=fun W u1 u2 u3 hbw hpw=>by
  have hIW:Below w6.heap.size w6 W:=H69.out.trans (hbw.mono H69.out.size)
  refine (eqPlan_any p.sections p.hold _ _ _ u1 u2 u3 p W (HX6.out.keep (In.keep hIW).1 (In.keep hIW).2) hpw SM.out).mono ?_
  rintro e w' ⟨rfl,hb⟩
  exact ⟨rfl,hbw.trans (hb.mono hbw.size)⟩
 have HQ2:=hide hq2
 clear hq hq2 hb9 RI h69
 obtain ⟨b0,b1,b2,b3,b4⟩:=R9.cells5 (j:=0) rfl
 obtain ⟨m0,m1,m2,m3,m4⟩:=R9.cells5 (j:=1) rfl
 go_wp2
 go_cut [44] (fun v wk=>v = .bool false ∧ Below w9.heap.size w9 wk)
 case first=>
  go_region_with (first | (go_at_call 16; refine HQ.out.mono ?_; rintro e wa ⟨u1,u2,u3,rfl,hb9,hp9,k0,k1,k2,k3,k4⟩; have HP9:=hide hp9; have HBa:=hide hb9; clear hp9 hb9) | (go_at_call 19; refine (HQ2.out _ _ _ _ HBa.out HP9.out).mono ?_; rintro e wb ⟨rfl,hba⟩; have HBA:=hide hba; clear hba))
  all_goals
   go_wp2_with fail
   go_meet
   exact ⟨rfl,(below_drew w9).trans (HBA.out.mono (below_drew w9).size)⟩
 case rest=>
  obtain ⟨rfl,hbk⟩:=hcut
  rename World=>wk
  have RK:=R9.call hbk
  have HBk:=hide (HB9.out.trans (hbk.mono HB9.out.size))
  have HIk:=hide (HI9.out.trans (hbk.mono HI9.out.size))
  have hzk:=hbk.size
  clear b0 b1 b2 b3 b4 m0 m1 m2 m3 m4 HQ HQ2 HR9 hbk R9 HB9 HI9 H69
  go_wp2_with fail
  refine (toEventS_any _ es _ (KE.out _ HBk.out) SE.out).mono ?_
  rintro e wl ⟨vl,rfl,hbl,hel⟩
  have h8l:Below w8.heap.size w8 wl:=(HB8I.out.trans (HIk.out.mono HB8I.out.size)).trans (hbl.mono (Nat.le_trans HB8I.out.size HIk.out.size))
  have HEQ:=hide (eqEventS_any _ _ es wl (HE8.out.keep (In.keep h8l).1 (In.keep h8l).2) (hel.keep (same_refl _ _) (Q:=In wl) fun b hb=>hb.2.1) SE.out)
  have HBl:=hide (HBk.out.trans (hbl.mono HBk.out.size))
  have RL:=RK.call hbl
  have HIl:=hide (HIk.out.trans (hbl.mono HIk.out.size))
  clear hel h8l hbl RK HBk HIk
  go_wp2_with fail
  refine HEQ.out.mono ?_
  rintro e wB ⟨rfl,hbB⟩
  have RB:=RL.call hbB
  have HBB:=hide (HBl.out.trans (hbB.mono HBl.out.size))
  have hIB:Below wI.heap.size wI wB:=HIl.out.trans (hbB.mono HIl.out.size)
  have hzB:=hIB.size
  clear HEQ hbB RL HBl HIl
  have h6B:Below w6.heap.size w6 wB:=HB6I.out.trans (hIB.mono HB6I.out.size)
  have h8B:Below w8.heap.size w8 wB:=HB8I.out.trans (hIB.mono HB8I.out.size)
  have hXB:PlanAt (Fresh wZ w6) wB (.slice y1 p.switches.length z1) (.slice y2 p.ways.length z2) (.slice y3 p.bars.length z3) p:=HXF.out.keep (fun b hb o=>h6B.cell (p:=⟨b,o,none⟩) hb.2.1) fun _ h=>h
  have hMay:May (Fresh wZ w6) wB:=⟨fun b hb o=>(h6B.frozen (p:=⟨b,o,none⟩) hb.2.1).trans (hb.2.2 o),fun b hb=>Nat.lt_of_lt_of_le hb.2.1 h6B.size⟩
  have HMP:=hide (markPlanB_any (Fresh wZ w6) (.int .i64 p.sections) (.int .i64 p.hold) _ _ _ p wB hXB SM.out hMay)
  have hEB:Evs (Fresh W7 w8) wB (.slice a8 es.length c8) es:=HEF.out.keep (fun b hb o=>h8B.cell (p:=⟨b,o,none⟩) hb.2.1) fun _ h=>h
  have hMayB:May (Fresh W7 w8) wB:=⟨fun b hb o=>(h8B.frozen (p:=⟨b,o,none⟩) hb.2.1).trans (hb.2.2 o),fun b hb=>Nat.lt_of_lt_of_le hb.2.1 h8B.size⟩
  have HEB:=hide (And.intro hEB hMayB)
  have HIB:=hide hIB
  clear hXB hMay hEB hMayB h6B h8B hIB
  obtain ⟨m0,m1,m2,m3,m4⟩:=RB.cells5 (j:=1) rfl
  go_wp2_with fail
  refine HMP.out.mono ?_
  clear m0 m1 m2 m3 m4 HMP
  rintro e wC ⟨rk,rfl,hrk0,hrk1,MC⟩
  have hzC:=MC.but.size
  have RC:Rows [(w.heap.size,26,#[.int .i64 p.sections,v1,v2,v3,.int .i64 p.hold]),(w6.heap.size,37,#[.int .i64 p.sections,.slice y1 p.switches.length z1,.slice y2 p.ways.length z2,.slice y3 p.bars.length z3,.int .i64 p.hold])] wC:=RB.but MC.but fun r hr hf=>by
   obtain ⟨h1,h2⟩:=(show wZ.heap.size ≤ r.1 ∧ r.1 < w6.heap.size from ⟨hf.1,hf.2.1⟩)
   simp only [List.mem_cons,List.not_mem_nil,or_false] at hr
   rcases hr with rfl | rfl <;> (simp only at h1 h2; omega)
  have hEC:Evs (Fresh W7 w8) wC (.slice a8 es.length c8) es:=HEB.out.1.keep (MC.but.same fun b hb=>⟨HEB.out.2.there b hb,fun hc=>by have:=hb.1; have:=hc.2.1; omega⟩) fun _ h=>h
  have HME:=hide (markEventS_any _ _ es.length rk wC hEC.shape (HEB.out.2.marked MC) SE.out hrk0 (by omega))
  have HMC:=hide MC
  clear hEC HEB RB MC
  go_wp2_with fail
  refine HME.out.mono ?_
  clear HME
  rintro e wD ⟨rfl,MD⟩
  have hzD:=MD.but.size
  have RD:Rows [(w.heap.size,26,#[.int .i64 p.sections,v1,v2,v3,.int .i64 p.hold]),(w6.heap.size,37,#[.int .i64 p.sections,.slice y1 p.switches.length z1,.slice y2 p.ways.length z2,.slice y3 p.bars.length z3,.int .i64 p.hold])] wD:=RC.but MD.but fun r hr hf=>by
   obtain ⟨h1,h2⟩:=(show W7.heap.size ≤ r.1 ∧ r.1 < w8.heap.size from ⟨hf.1,hf.2.1⟩)
   simp only [List.mem_cons,List.not_mem_nil,or_false] at hr
   rcases hr with rfl | rfl <;> (simp only at h1 h2; omega)
  have hFSD:DonesA (In wZ) wD (.slice az L.length cz) L:=HFSI.out.keep (((same_below HIB.out fun b (hb:b < wZ.heap.size)=>by omega).trans (HMC.out.but.same (P:=In wZ) fun b (hb:b < wZ.heap.size)=>⟨by omega,fun hc=>by have:=hc.1; omega⟩)).trans (MD.but.same (P:=In wZ) fun b (hb:b < wZ.heap.size)=>⟨by omega,fun hc=>by have:=hc.1; omega⟩)) fun _ z=>z
  have hDGD:DonesO w8.heap.size wD (.slice ag L.length cg) L lo:=((HDG.out.but (K:=fun _=>True) (But.of_calls HIB.out) fun _ _=>trivial).but HMC.out.but fun c hc hd=>by have:=hd.2.1; omega).but MD.but fun c hc hd=>by have:=hd.2.1; omega
  have hBBD:Below w.heap.size w wD:=(HBB.out.trans (HMC.out.but.below HBB.out.size fun c hc hd=>by have:=hd.1; omega)).trans (MD.but.below (Nat.le_trans HBB.out.size hzC) fun c hc hd=>by have:=hd.1; omega)
  have HQD:=hide (eqDoneS_any _ _ L wD hDGD.read (hFSD.keep (same_refl _ _) (Q:=In wD) fun b (hb:b < wZ.heap.size)=>show b < wD.heap.size by omega) hLn' HSD.out)
  have HFSD:=hide hFSD
  have HDGD:=hide hDGD
  have HBD:=hide hBBD
  have t0:decide (rk + 3 * (es.length:Int) < 0) = false:=by simp; omega
  clear hFSD hDGD hBBD MD HMC HIB RC HBB HDG HFSI
  go_wp2_with fail
  refine HQD.out.mono ?_
  clear HQD
  rintro e wE ⟨rfl,hbE⟩
  have RE:=RD.call hbE
  have hzE:=hbE.size
  have HBE:=hide (HBD.out.trans (hbE.mono HBD.out.size))
  have HFSE:=hide (HFSD.out.keep (Q:=In wZ) (same_below hbE fun b (hb:b < wZ.heap.size)=>by omega) fun _ z=>z)
  have HMK:=hide (markDoneS_any w8.heap.size _ L lo 1 wE (HDGD.out.but (K:=fun _=>True) (But.of_calls hbE) fun _ _=>trivial) hLn' HSD.out HCD.out (by omega) (by omega))
  have hpb:=posL_bound (k:=1) HCD.out L.length
  clear hbE RD HDGD HFSD HBD t0
  obtain ⟨pe,hpe⟩:∃ q,q = posL 1 L L.length:=⟨_,rfl⟩
  rw [← hpe] at HMK hpb
  have HPE:=hide hpe
  clear hpe
  go_wp2_with fail
  refine HMK.out.mono ?_
  clear HMK
  rintro e wF ⟨rfl,hdF,hBF⟩
  have hzF:=hBF.size
  have RF:Rows [(w.heap.size,26,#[.int .i64 p.sections,v1,v2,v3,.int .i64 p.hold]),(w6.heap.size,37,#[.int .i64 p.sections,.slice y1 p.switches.length z1,.slice y2 p.ways.length z2,.slice y3 p.bars.length z3,.int .i64 p.hold])] wF:=RE.but hBF fun r hr=>by
   simp only [List.mem_cons,List.not_mem_nil,or_false] at hr
   rcases hr with rfl | rfl <;> (simp only; omega)
  have HBF:=hide (HBE.out.trans (hBF.below HBE.out.size fun c hc=>by omega))
  have HFSF:=hide (HFSE.out.keep (Q:=In wZ) (hBF.same (P:=In wZ) fun b (hb:b < wZ.heap.size)=>⟨by omega,by omega⟩) fun _ z=>z)
  have HDF:=hide hdF
  have HHF:=hide (heldDoneS_any _ L 1 wF hdF hLn' HSD.out HCD.out (by omega) (by omega))
  rw [← HPE.out] at HHF
  have t1:decide (pe < 0) = false:=by simp; omega
  clear hdF hBF RE HBE HFSE
  go_wp2_with fail
  refine HHF.out.mono ?_
  clear HHF
  rintro e wG ⟨rfl,rfl⟩
  obtain ⟨b0,b1,b2,b3,b4⟩:=RF.cells5 (j:=0) rfl
  go_wp2_with fail
  refine (toPlanC_any p.sections p.hold v1 v2 v3 p _ (KP.out _ HBF.out) SM.out).mono ?_
  clear b0 b1 b2 b3 b4
  rintro e wH ⟨i1,i2,i3,rfl,hbH,hiu,hic⟩
  have HIU:=hide (hiu.keep (same_refl _ _) (Q:=In wH) fun b hb=>hb.2.1)
  have HIC:=hide (hic.keep (same_refl _ _) (Q:=In wH) fun b hb=>hb.2.1)
  have HBH:=hide (HBF.out.trans (hbH.mono HBF.out.size))
  have HFH:=hide hbH
  clear hiu hic hbH
  go_wp2_with fail
  refine (toEventS_any _ es _ (KE.out _ HBH.out) SE.out).mono ?_
  rintro e wJ ⟨vj,rfl,hbJ,hej⟩
  have HBJ:=hide (HBH.out.trans (hbJ.mono HBH.out.size))
  have HFJ:=hide (HFH.out.trans (hbJ.mono HFH.out.size))
  have HI2:=hide (implRun_any _ _ _ _ p es wJ (HIU.out.keep (In.keep hbJ).1 (In.keep hbJ).2) (HIC.out.keep (In.keep hbJ).1 (In.keep hbJ).2) (hej.keep (same_refl _ _) (Q:=In wJ) fun b hb=>hb.2.1) SM.out SE.out (ck HG.out HBJ.out))
  clear hej hbJ HIU HIC HBH HFH
  go_wp2_with fail
  refine HI2.out.mono ?_
  clear HI2
  rintro e wM ⟨vm,rfl,hbM,hdm⟩
  rw [← HLL.out] at hdm
  have HBM:=hide (HBJ.out.trans (hbM.mono HBJ.out.size))
  have HFM:=hide (HFJ.out.trans (hbM.mono HFJ.out.size))
  have hzM:=HFM.out.size
  have HQM:=hide (eqDoneS_any _ _ L wM (hdm.read.keep (same_refl _ _) (Q:=In wM) fun b hb=>hb.2) (HFSF.out.keep (Q:=In wM) (same_below HFM.out fun b (hb:b < wZ.heap.size)=>by omega) fun b (hb:b < wZ.heap.size)=>show b < wM.heap.size by omega) hLn' HSD.out)
  obtain ⟨am,cm,rfl,-⟩:=id hdm.read
  clear hdm hbM HBJ HFJ HFSF
  go_wp2_with fail
  refine HQM.out.mono ?_
  clear HQM
  rintro e wN ⟨rfl,hbN⟩
  have hFN:=HFM.out.trans (hbN.mono HFM.out.size)
  have HHN:=hide (heldDoneS_any _ L 1 wN (HDF.out.keep (In.keep hFN).1 (In.keep hFN).2) hLn' HSD.out HCD.out (by omega) (by omega))
  rw [← HPE.out] at HHN
  have HBN:=hide (HBM.out.trans (hbN.mono HBM.out.size))
  clear hbN hFN HFM HBM HDF
  go_wp2_with fail
  refine HHN.out.mono ?_
  clear HHN
  rintro e wO ⟨rfl,rfl⟩
  go_wp2
  go_ret
  exact ⟨rfl,HBN.out⟩
end Go.Proofs.YtdhinkgjiapigabGreatDoor

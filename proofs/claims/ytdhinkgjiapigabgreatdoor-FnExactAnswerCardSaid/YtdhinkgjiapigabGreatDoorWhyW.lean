import Derived.Test.YtdhinkgjiapigabGreatDoorConc
import Derived.Test.YtdhinkgjiapigabGreatDoorBarW
import Derived.Test.YtdhinkgjiapigabGreatDoorTurn
import Derived.Test.YtdhinkgjiapigabGreatDoorStood
import Derived.Test.YtdhinkgjiapigabGreatDoorLockd
import Derived.Test.YtdhinkgjiapigabGreatDoorWhyS
import Derived.Test.YtdhinkgjiapigabGreatDoorFrIC
namespace Go.Proofs.YtdhinkgjiapigabGreatDoor
open Go.RowKit Go.Deep Go.Shelf
open Classical
theorem zfj {a b:Int} (h:a = b):Ending.returned (.int .i64 a) = .returned (.int .i64 b):=by rw [h]
set_option maxRecDepth 100000 in
set_option maxHeartbeats 8000000 in
theorem zpe (a1 a2 a3 o1 o2 o3:Option Addr) (c1 c2 c3 m1 m2 m3:Nat) (p:PlanD) (d:FrameD) (i:Nat) (ih:Bool) (nb ns:Nat) (ts:List (Int × Int)) (lk sk:Int × Int → Bool) (w:World) (_hts:ts.length ≤ 1048576)
  (hih:∀ W,Below w.heap.size w W → Calls Tryz.prog 139 #[.agg #[.bool d.ok,.slice o1 d.occ.length m1,.slice o2 d.points.length m2,.slice o3 d.ways.length m3],.int .i64 (i:Int)] W fun e w'=>e = .returned (.bool ih) ∧ Below W.heap.size W w')
  (htu:∀ W,Below w.heap.size w W → Calls Tryz.prog 157 #[.agg #[.int .i64 p.sections,.slice a1 p.switches.length c1,.slice a2 p.ways.length c2,.slice a3 p.bars.length c3,.int .i64 p.hold,.bool d.ok,.slice o1 d.occ.length m1,.slice o2 d.points.length m2,.slice o3 d.ways.length m3,.int .i64 (i:Int)]] W fun e w'=>∃ v,e = .returned v ∧ Below W.heap.size W w' ∧ Lies (In w') w' v ts)
  (hba:∀ W,Below w.heap.size w W → Calls Tryz.prog 118 #[.agg #[.int .i64 p.sections,.slice a1 p.switches.length c1,.slice a2 p.ways.length c2,.slice a3 p.bars.length c3,.int .i64 p.hold,.bool d.ok,.slice o1 d.occ.length m1,.slice o2 d.points.length m2,.slice o3 d.ways.length m3,.int .i64 (i:Int)]] W fun e w'=>∃ a c,e = .returned (.slice a nb c) ∧ Below W.heap.size W w')
  (hst:∀ W,Below w.heap.size w W → Calls Tryz.prog 119 #[.agg #[.int .i64 p.sections,.slice a1 p.switches.length c1,.slice a2 p.ways.length c2,.slice a3 p.bars.length c3,.int .i64 p.hold,.bool d.ok,.slice o1 d.occ.length m1,.slice o2 d.points.length m2,.slice o3 d.ways.length m3,.int .i64 (i:Int)]] W fun e w'=>∃ a c,e = .returned (.slice a ns c) ∧ Below W.heap.size W w')
  (hlk:∀ W v,Below w.heap.size w W → Lies (In W) W v ts → Calls Tryz.prog 158 #[v,.func (.func 159) #[.agg #[.int .i64 p.sections,.slice a1 p.switches.length c1,.slice a2 p.ways.length c2,.slice a3 p.bars.length c3,.int .i64 p.hold,.bool d.ok,.slice o1 d.occ.length m1,.slice o2 d.points.length m2,.slice o3 d.ways.length m3,.int .i64 (i:Int)]] #[]] W fun e w'=>e = .returned (.bool (ts.any lk)) ∧ Below W.heap.size W w')
  (hsk:∀ W v,Below w.heap.size w W → Lies (In W) W v ts → Calls Tryz.prog 158 #[v,.func (.func 160) #[.agg #[.int .i64 p.sections,.slice a1 p.switches.length c1,.slice a2 p.ways.length c2,.slice a3 p.bars.length c3,.int .i64 p.hold,.bool d.ok,.slice o1 d.occ.length m1,.slice o2 d.points.length m2,.slice o3 d.ways.length m3,.int .i64 (i:Int)]] #[]] W fun e w'=>e = .returned (.bool (ts.any sk)) ∧ Below W.heap.size W w') :
  Calls Tryz.prog 116 #[.agg #[.int .i64 p.sections,.slice a1 p.switches.length c1,.slice a2 p.ways.length c2,.slice a3 p.bars.length c3,.int .i64 p.hold],.agg #[.bool d.ok,.slice o1 d.occ.length m1,.slice o2 d.points.length m2,.slice o3 d.ways.length m3],.int .i64 (i:Int)] w fun e w'=>e = .returned (.int .i64 (zph ih nb ns (ts.any lk) (ts.any sk))) ∧ Below w.heap.size w w':=by
 have T0:=zbc w 37 42 #[.int .i64 p.sections,.slice a1 p.switches.length c1,.slice a2 p.ways.length c2,.slice a3 p.bars.length c3,.int .i64 p.hold] #[.bool d.ok,.slice o1 d.occ.length m1,.slice o2 d.points.length m2,.slice o3 d.ways.length m3];have b0:=T0.cell (j:=0) (i:=0) rfl rfl;have b1:=T0.cell (j:=0) (i:=1) rfl rfl;have b2:=T0.cell (j:=0) (i:=2) rfl rfl;have b3:=T0.cell (j:=0) (i:=3) rfl rfl;have b4:=T0.cell (j:=0) (i:=4) rfl rfl;have e0:=T0.cell (j:=1) (i:=0) rfl rfl;have e1:=T0.cell (j:=1) (i:=1) rfl rfl;have e2:=T0.cell (j:=1) (i:=2) rfl rfl;have e3:=T0.cell (j:=1) (i:=3) rfl rfl;rw [Nat.add_zero] at b0 b1 b2 b3 b4;have T1:=zbs w 37 42 134 #[.int .i64 p.sections,.slice a1 p.switches.length c1,.slice a2 p.ways.length c2,.slice a3 p.bars.length c3,.int .i64 p.hold] #[.bool d.ok,.slice o1 d.occ.length m1,.slice o2 d.points.length m2,.slice o3 d.ways.length m3] #[.int .i64 p.sections,.slice a1 p.switches.length c1,.slice a2 p.ways.length c2,.slice a3 p.bars.length c3,.int .i64 p.hold,.bool d.ok,.slice o1 d.occ.length m1,.slice o2 d.points.length m2,.slice o3 d.ways.length m3,.int .i64 (i:Int)];have HT1:=zaa T1;have HIH:=zaa hih;have HTU:=zaa (htu _ T1.below);have HBA:=zaa hba;have HST:=zaa hst;have HLK:=zaa hlk;have HSK:=zaa hsk;clear hih htu hba hst hlk hsk T0 T1;go_enter Tryz.func116,Tryz.ntmps116
 go_wp2_with fail
 refine HTU.out.mono ?_;rintro e w2 ⟨v,rfl,hb,hv⟩;obtain ⟨av,cv,rfl⟩:=hv.size;have HV:=zaa hv;have HT2:=zaa (HT1.out.call hb);clear b0 b1 b2 b3 b4 e0 e1 e2 e3 hb hv HTU;have e0:=HT2.out.cell (j:=1) (i:=0) rfl rfl; have e1:=HT2.out.cell (j:=1) (i:=1) rfl rfl; have e2:=HT2.out.cell (j:=1) (i:=2) rfl rfl; have e3:=HT2.out.cell (j:=1) (i:=3) rfl rfl
 go_wp2_with fail
 refine (HIH.out _ HT2.out.below).mono ?_;clear e0 e1 e2 e3;rintro e w3 ⟨rfl,hb⟩;have HT3:=zaa (HT2.out.call hb);have HV3:=zaa (HV.out.keep (Q:=In w3) (In.keep hb).1 (In.keep hb).2);clear hb HT2 HV
 cases ih
 case true=>
  go_wp2;go_ret;exact ⟨rfl,HT3.out.below⟩
 have a0:=HT3.out.cell (j:=2) (i:=0) rfl rfl; have a1:=HT3.out.cell (j:=2) (i:=1) rfl rfl; have a2:=HT3.out.cell (j:=2) (i:=2) rfl rfl; have a3:=HT3.out.cell (j:=2) (i:=3) rfl rfl; have a4:=HT3.out.cell (j:=2) (i:=4) rfl rfl; have a5:=HT3.out.cell (j:=2) (i:=5) rfl rfl; have a6:=HT3.out.cell (j:=2) (i:=6) rfl rfl; have a7:=HT3.out.cell (j:=2) (i:=7) rfl rfl; have a8:=HT3.out.cell (j:=2) (i:=8) rfl rfl; have a9:=HT3.out.cell (j:=2) (i:=9) rfl rfl
 go_wp2_with fail
 refine (HBA.out _ HT3.out.below).mono ?_;clear a0 a1 a2 a3 a4 a5 a6 a7 a8 a9;rintro e w4 ⟨ab,cb,rfl,hb⟩;have HT4:=zaa (HT3.out.call hb);have HV4:=zaa (HV3.out.keep (Q:=In w4) (In.keep hb).1 (In.keep hb).2);clear hb HT3 HV3;by_cases hnb:0 < nb
 ·have hnb':(0:Int) < (nb:Int):=by omega
  go_wp2;go_ret;exact ⟨zfj (a:=3) (by unfold zph; rw [if_neg (by simp),if_pos hnb]),HT4.out.below⟩
 obtain rfl:nb = 0:=by omega
 clear hnb;have a0:=HT4.out.cell (j:=2) (i:=0) rfl rfl; have a1:=HT4.out.cell (j:=2) (i:=1) rfl rfl; have a2:=HT4.out.cell (j:=2) (i:=2) rfl rfl; have a3:=HT4.out.cell (j:=2) (i:=3) rfl rfl; have a4:=HT4.out.cell (j:=2) (i:=4) rfl rfl; have a5:=HT4.out.cell (j:=2) (i:=5) rfl rfl; have a6:=HT4.out.cell (j:=2) (i:=6) rfl rfl; have a7:=HT4.out.cell (j:=2) (i:=7) rfl rfl; have a8:=HT4.out.cell (j:=2) (i:=8) rfl rfl; have a9:=HT4.out.cell (j:=2) (i:=9) rfl rfl
 go_wp2_with fail
 refine (HST.out _ HT4.out.below).mono ?_;clear a0 a1 a2 a3 a4 a5 a6 a7 a8 a9;rintro e w5 ⟨aS,cS,rfl,hb⟩;have HT5:=zaa (HT4.out.call hb);have HV5:=zaa (HV4.out.keep (Q:=In w5) (In.keep hb).1 (In.keep hb).2);clear hb HT4 HV4;by_cases hns:0 < ns
 ·have hns':(0:Int) < (ns:Int):=by omega
  go_wp2;go_ret;exact ⟨zfj (a:=4) (by unfold zph; rw [if_neg (by simp),if_neg (by simp),if_pos hns]),HT5.out.below⟩
 obtain rfl:ns = 0:=by omega
 clear hns;have a0:=HT5.out.cell (j:=2) (i:=0) rfl rfl; have a1:=HT5.out.cell (j:=2) (i:=1) rfl rfl; have a2:=HT5.out.cell (j:=2) (i:=2) rfl rfl; have a3:=HT5.out.cell (j:=2) (i:=3) rfl rfl; have a4:=HT5.out.cell (j:=2) (i:=4) rfl rfl; have a5:=HT5.out.cell (j:=2) (i:=5) rfl rfl; have a6:=HT5.out.cell (j:=2) (i:=6) rfl rfl; have a7:=HT5.out.cell (j:=2) (i:=7) rfl rfl; have a8:=HT5.out.cell (j:=2) (i:=8) rfl rfl; have a9:=HT5.out.cell (j:=2) (i:=9) rfl rfl
 go_wp2_with fail
 refine (HLK.out _ _ HT5.out.below HV5.out).mono ?_;clear a0 a1 a2 a3 a4 a5 a6 a7 a8 a9;rintro e w6 ⟨rfl,hb⟩;have HT6:=zaa (HT5.out.call hb);have HV6:=zaa (HV5.out.keep (Q:=In w6) (In.keep hb).1 (In.keep hb).2);clear hb HT5 HV5;generalize hL:ts.any lk = L
 cases L
 case true=>
  go_wp2;go_ret;exact ⟨zfj (a:=5) (by rw [hL]; rfl),HT6.out.below⟩
 have a0:=HT6.out.cell (j:=2) (i:=0) rfl rfl; have a1:=HT6.out.cell (j:=2) (i:=1) rfl rfl; have a2:=HT6.out.cell (j:=2) (i:=2) rfl rfl; have a3:=HT6.out.cell (j:=2) (i:=3) rfl rfl; have a4:=HT6.out.cell (j:=2) (i:=4) rfl rfl; have a5:=HT6.out.cell (j:=2) (i:=5) rfl rfl; have a6:=HT6.out.cell (j:=2) (i:=6) rfl rfl; have a7:=HT6.out.cell (j:=2) (i:=7) rfl rfl; have a8:=HT6.out.cell (j:=2) (i:=8) rfl rfl; have a9:=HT6.out.cell (j:=2) (i:=9) rfl rfl
 go_wp2_with fail
 refine (HSK.out _ _ HT6.out.below HV6.out).mono ?_;clear a0 a1 a2 a3 a4 a5 a6 a7 a8 a9;rintro e w7 ⟨rfl,hb⟩;have HT7:=zaa (HT6.out.call hb);clear hb HT6 HV6;generalize hK:ts.any sk = K
 cases K
 case true=>
  go_wp2;go_ret;exact ⟨zfj (a:=6) (by rw [hL,hK]; rfl),HT7.out.below⟩
 go_wp2;go_ret;exact ⟨zfj (a:=0) (by rw [hL,hK]; rfl),HT7.out.below⟩
end Go.Proofs.YtdhinkgjiapigabGreatDoor
namespace Go.Proofs.YtdhinkgjiapigabGreatDoor
open Go.RowKit Go.Deep Go.Shelf
open Classical
theorem zjm (p:PlanD) (d:FrameD) (q:Int):(zbn p d q).length ≤ p.ways.length:=by
 unfold zbn;rw [List.length_map];exact Nat.le_trans (List.length_filter_le _ _) (by rw [List.length_range]; exact Nat.le_refl _)
theorem zlk (l:List Nat):(zl6 l).length = l.length:=by unfold zl6; rw [List.length_map]
theorem znq (p1 p2 p3 f1 f2 f3:Value) (p:PlanD) (d:FrameD) (i:Nat) (x:WayD) (h:HeldD) (w:World) (hp:PlanAt (In w) w p1 p2 p3 p) (hc:WaysC (In w) w p2 p.ways) (hf:FrameAt (In w) w f1 f2 f3 d) (hs:p.Small 1048576) (hd:d.Small 1048576) (hR:zas p d) (hx:p.ways[i]? = some x) (hh:d.ways[i]? = some h) :
  Calls Tryz.prog 116 #[.agg #[.int .i64 p.sections,p1,p2,p3,.int .i64 p.hold],.agg #[.bool d.ok,f1,f2,f3],.int .i64 (i:Int)] w fun e w'=>e = .returned (.int .i64 (zit p d i x h)) ∧ Below w.heap.size w w':=by
 have KP:=fun (W:World) (h:Below w.heap.size w W)=>hp.keep (Q:=In W) (In.keep h).1 (In.keep h).2;have KC:=fun (W:World) (h:Below w.heap.size w W)=>hc.keep (Q:=In W) (In.keep h).1 (In.keep h).2;have KF:=fun (W:World) (h:Below w.heap.size w W)=>hf.keep (Q:=In W) (In.keep h).1 (In.keep h).2;obtain ⟨a1,c1,rfl⟩:=hp.1.size;obtain ⟨a2,c2,rfl⟩:=hp.2.1.size;obtain ⟨a3,c3,rfl⟩:=hp.2.2.size;obtain ⟨o1,m1,rfl⟩:=hf.1.size;obtain ⟨o2,m2,rfl⟩:=hf.2.1.size;obtain ⟨o3,m3,rfl⟩:=hf.2.2.size;have hi:i < p.ways.length:=(List.getElem?_eq_some_iff.1 hx).1;have hw:=hR.1.way hx;have hw100:=hR.1.parts.1.2.2.1;have hsw:=hR.1.parts.2.1;have hps:d.points.length = p.switches.length:=hR.2.2.2.1;have hso:(d.occ.length:Int) = p.sections:=hR.2.2.1
 have hlist:∀ l,ListOk p.sections l → ∀ s ∈ l,0 ≤ s ∧ s < d.occ.length:=fun l hl s hs=>by
  obtain ⟨j,hj⟩:=List.getElem?_of_mem hs;have:=(hl.1 j (List.getElem?_eq_some_iff.1 hj).1 s hj).1;exact ⟨this.1,by have:=this.2; omega⟩
 have hlies:∀ l,LiesOk p.switches.length l → ∀ y ∈ l,0 ≤ y.1 ∧ y.1 < p.switches.length:=fun l hl y hy=>by
  obtain ⟨j,hj⟩:=List.getElem?_of_mem hy;have:=(hl.1 j (List.getElem?_eq_some_iff.1 hj).1 y hj).1.1;exact ⟨this.1,by have:=this.2; omega⟩
 have hsm:x.Small 30:=⟨hw.2.1.2,hw.2.2.2.2.1.2,hw.2.2.2.2.2.1.2,hw.2.2.1.2,hw.2.2.2.1.2⟩
 have hly:∀ y,(y ∈ x.lies ∨ y ∈ x.flanks) → 0 ≤ y.1 ∧ y.1 < p.switches.length:=fun y hy=>by
  rcases hy with hy | hy
  ·exact hlies _ hw.2.2.2.2.1 y hy
  ·exact hlies _ hw.2.2.2.2.2.1 y hy
 have htm:∀ y ∈ zdb d.points x,0 ≤ y.1 ∧ y.1 < p.switches.length:=fun y hy=>hly y (List.mem_append.1 (List.mem_filter.1 hy).1);have htl:(zdb d.points x).length ≤ 1048576:=Nat.le_trans (List.length_filter_le _ _) (by rw [List.length_append]; have:=hsm.2.1; have:=hsm.2.2.1; omega)
 refine zpe a1 a2 a3 o1 o2 o3 c1 c2 c3 m1 m2 m3 p d i (h.state != 0) (zcc p d i).length (zgc d.occ x).length (zdb d.points x) (zew p d i) (zgd p d) w htl
  (fun W hW=>zia _ _ _ _ d.ways i h W (KF W hW).2.2 hh hd.2.2.1) ?_ ?_ ?_ ?_ ?_
 ·intro W hW;refine (zpa _ _ _ _ _ _ p d i x W (KP W hW) (KF W hW) hd hx hsm (fun y hy=>by rw [hps]; exact hly y hy) hw100).mono ?_;rintro e w' ⟨v,rfl,hb,m,hr⟩;exact ⟨v,rfl,hb,(zhd hr).keep (zax _ _) fun b hb=>hb.2⟩
 ·intro W hW;refine (zgy _ _ _ _ _ _ p d i W (KP W hW) (KF W hW) hs hd hR hi).mono ?_;rintro e w' ⟨v,rfl,hb,m,hr⟩
  have hm:m = (zcc p d i).length:=by have:=hr.1; rw [zlk] at this; omega
  subst hm;rcases hr.2 with ⟨rfl,h0⟩ | ⟨g,cap,cur,rfl,-⟩
  ·exact ⟨none,0,by rw [h0],hb⟩
  ·exact ⟨_,_,rfl,hb⟩
 ·intro W hW
  exact zf0 _ _ _ _ _ _ p d i x W (KP W hW) (KF W hW) hd hx hsm (fun s hs=>by
   rcases List.mem_append.1 hs with hs | hs
   ·exact hlist _ hw.2.1 s hs
   ·exact hlist _ hw.2.2.1 s hs) hw100
 ·intro W v hW hv;refine zcj 159 _ v (zdb d.points x) (zew p d i) W hv htl (enters_of Tryz.func159 (by kernel_rfl) rfl) fun y W' hy hb=>?_;have hB:=hW.trans (hb.mono hW.size);obtain ⟨h1,h2⟩:=htm y hy;obtain ⟨q,hq⟩:∃ q:Nat,y.1 = q:=⟨y.1.toNat,by omega⟩;unfold zew;rw [hq];exact zm7 _ _ _ _ _ _ p d i q y.2 W' (KP W' hB) (KC W' hB) (KF W' hB) hs hd hR (by omega) (Nat.le_trans (zjm _ _ _) hs.2.1)
 ·intro W v hW hv;refine zcj 160 _ v (zdb d.points x) (zgd p d) W hv htl (enters_of Tryz.func160 (by kernel_rfl) rfl) fun y W' hy hb=>?_;have hB:=hW.trans (hb.mono hW.size);obtain ⟨h1,h2⟩:=htm y hy;obtain ⟨q,hq⟩:∃ q:Nat,y.1 = q:=⟨y.1.toNat,by omega⟩;obtain ⟨s,hss⟩:=zac p.switches (zaa rfl) (show q < p.switches.length by omega);have hsr:InR s 0 (p.sections - 1):=Classical.byContradiction fun e=>hsw q ⟨s,hss,e⟩;obtain ⟨t,ht⟩:∃ t:Nat,s = t:=⟨s.toNat,by have:=hsr.1; omega⟩;obtain ⟨o,ho⟩:=zac d.occ (zaa rfl) (show t < d.occ.length by have:=hsr.2; omega)
  have hst:zgd p d y = o:=by
   unfold zgd;rw [hq,show ((q:Int)).toNat = q by simp,List.getD_eq_getElem?_getD,List.getD_eq_getElem?_getD,hss,ht];show (d.occ[((t:Int)).toNat]?).getD false = o;rw [show ((t:Int)).toNat = t by simp,ho]; rfl
  rw [hst,hq];exact zo3 _ _ _ _ _ _ _ _ _ i p.switches d.occ q t y.2 o W' (KP W' hB).1 (KF W' hB).1 (by rw [hss,ht]) ho hs.1 hd.1 ⟨_,rfl⟩ ⟨_,rfl⟩ ⟨_,rfl⟩ ⟨_,_,_,rfl⟩ ⟨_,_,_,rfl⟩ ⟨_,_,_,rfl⟩ ⟨_,_,_,rfl⟩
end Go.Proofs.YtdhinkgjiapigabGreatDoor
namespace Go.Proofs.YtdhinkgjiapigabGreatDoor
open Go.RowKit Go.Deep
open Classical
end Go.Proofs.YtdhinkgjiapigabGreatDoor

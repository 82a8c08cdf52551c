import Derived.Test.YtdhinkgjiapigabGreatDoorDoI4
import Derived.Test.YtdhinkgjiapigabGreatDoorPlI
import Derived.Test.YtdhinkgjiapigabGreatDoorWhyS
import Derived.Deep.RegionHeld3
import Derived.Test.YtdhinkgjiapigabGreatDoorFrIC
import Derived.Test.YtdhinkgjiapigabGreatDoorDoI6
import Derived.Test.YtdhinkgjiapigabGreatDoorDoI9
import Derived.Test.YtdhinkgjiapigabGreatDoorDoS3
import Derived.Test.YtdhinkgjiapigabGreatDoorDoK1
namespace Go.Proofs.YtdhinkgjiapigabGreatDoor
open Go.RowKit Go.Deep
open Classical
set_option maxRecDepth 100000 in
set_option maxHeartbeats 4000000 in
theorem zpy (P:Nat → Prop) (p1 p2 p3 v1 v2 v3:Value) (p:PlanD) (d:FrameD) (k:Nat) (lie:Int) (bo bp bw:Nat) (bb:Nat → Nat) (w:World) (hp:PlanAt (In w) w p1 p2 p3 p) (hc:WaysC (In w) w p2 p.ways) (hf:OFrame P w v1 v2 v3 d bo bp bw bb) (hs:p.Small 1048576) (hd:d.Small 1048576) (hR:zas p d) (hk:k < p.switches.length) :
  Calls Tryz.prog 192 #[.agg #[.int .i64 p.sections,p1,p2,p3,.int .i64 p.hold],.agg #[.bool d.ok,v1,v2,v3],.agg #[.int .i64 6,.int .i64 (k:Int),.int .i64 lie]] w fun e w'=>EvR P w v1 v2 v3 bo bp bw (evD p d 6 (k:Int) lie) e w':=by
 have T0:=zbs w 37 42 52 #[.int .i64 p.sections,p1,p2,p3,.int .i64 p.hold] #[.bool d.ok,v1,v2,v3] #[.int .i64 6,.int .i64 (k:Int),.int .i64 lie];have hfr:=(hf.bound (Q:=In w) fun _ _ h=>h).read;have KP:=zaa fun (W:World) (h:Below w.heap.size w W)=>hp.keep (Q:=In W) (In.keep h).1 (In.keep h).2;have KC:=zaa fun (W:World) (h:Below w.heap.size w W)=>hc.keep (Q:=In W) (In.keep h).1 (In.keep h).2;have KF:=zaa fun (W:World) (h:Below w.heap.size w W)=>hfr.keep (Q:=In W) (In.keep h).1 (In.keep h).2;have KO:=zaa fun (W:World) (h:Below w.heap.size w W)=>hf.but (K:=fun _=>True) (Q:=P) (But.of_calls h) (fun _ _=>trivial) fun _ z=>z;obtain ⟨a1,c1,rfl⟩:=hp.1.size;obtain ⟨a2,c2,rfl⟩:=hp.2.1.size;obtain ⟨a3,c3,rfl⟩:=hp.2.2.size;obtain ⟨o1,m1,rfl⟩:=hfr.1.size;obtain ⟨o2,m2,rfl⟩:=hfr.2.1.size;obtain ⟨o3,m3,rfl⟩:=hfr.2.2.size;have HS:=zaa hs;have HD:=zaa hd;have HFR:=zaa hR;have HLP:=zaa hR.2.2.2.1;have hsl:p.switches.length ≤ 1048576:=hs.1;have hol:d.occ.length ≤ 1048576:=hd.1;have hpl:d.points.length ≤ 1048576:=hd.2.1
 have hev:evD p d 6 (k:Int) lie = zen p d k lie:=by simp [evD]
 have HEVD:=zaa hev;clear hs hd hp hf hfr hc hR hev;go_enter Tryz.func192,Tryz.ntmps192;have b0:=T0.cell (j:=0) (i:=0) rfl rfl;have b1:=T0.cell (j:=0) (i:=1) rfl rfl;have b2:=T0.cell (j:=0) (i:=2) rfl rfl;have b3:=T0.cell (j:=0) (i:=3) rfl rfl;have b4:=T0.cell (j:=0) (i:=4) rfl rfl;have e0:=T0.cell (j:=1) (i:=0) rfl rfl;have e1:=T0.cell (j:=1) (i:=1) rfl rfl;have e2:=T0.cell (j:=1) (i:=2) rfl rfl;have e3:=T0.cell (j:=1) (i:=3) rfl rfl;have y0:=T0.cell (j:=2) (i:=0) rfl rfl;have y1:=T0.cell (j:=2) (i:=1) rfl rfl;have y2:=T0.cell (j:=2) (i:=2) rfl rfl;rw [Nat.add_zero] at b0 b1 b2 b3 b4
 go_wp2_with fail
 refine (zfi _ _ _ _ _ _ p d k _ (KP.out _ T0.below) (KC.out _ T0.below) (KF.out _ T0.below) HS.out HD.out HFR.out hk).mono ?_;clear b0 b1 b2 b3 b4 e0 e1 e2 e3 y0 y1 y2;rintro e wV ⟨vp,rfl,hbV,mp,hop⟩
 have hmp:mp = (zbn p d (k:Int)).length:=by have:=hop.1; rw [zbt] at this; omega
 obtain ⟨apq,cpq,rfl⟩:=zag hop;have T1:=T0.call hbV;have HMP:=zaa hmp;clear hop hmp hbV T0;by_cases hm:0 < mp
 case pos=>
  have hm':(0:Int) < (mp:Int):=by omega
  have HE:=zaa (show evD p d 6 (k:Int) lie = (2,d) by rw [HEVD.out]; unfold zen; rw [if_pos (by rw [← HMP.out]; exact hm)]);clear hm;go_wp2;go_ret;exact EvR.of HE.out (KO.out _ T1.below) (But.of_calls T1.below)
 obtain rfl:mp = 0:=by omega
 obtain ⟨sq,hsq⟩:=zac p.switches (zaa rfl) hk;have hsr:InR sq 0 (p.sections - 1):=Classical.byContradiction fun e=>HFR.out.1.parts.2.1 k ⟨sq,hsq,e⟩;obtain ⟨sn,rfl⟩:∃ t:Nat,sq = t:=⟨sq.toNat,by have:=hsr.1; omega⟩
 have hsn:sn < d.occ.length:=by have:=hsr.2; have:=HFR.out.2.2.1; omega
 obtain ⟨o,ho⟩:=zac d.occ (zaa rfl) hsn
 have hgo:za1 d.occ (p.switches.getD k 0) = o:=by
  rw [List.getD_eq_getElem?_getD,hsq];unfold za1;show (match d.occ[((sn:Int)).toNat]? with | some b=>b | none=>false) = o;rw [show ((sn:Int)).toNat = sn by simp,ho]
 have HMV:=zaa (show zen p d k lie = if o = true then (3,d) else (0,{ d with points:=zdg d.points k fun pt=>(lie,pt.2) }) by unfold zen; rw [if_neg (by rw [← HMP.out]; omega),hgo]);obtain ⟨bs,os,cs,e5,-,gs⟩:=zje (KP.out _ T1.below).1 hsq;obtain ⟨bq,oo,cq,e4,-,go⟩:=zdz (KF.out _ T1.below).1 ho
 cases e4
 cases e5
 have x1:=T1.cell (j:=0) (i:=1) rfl rfl;have z1:=T1.cell (j:=1) (i:=1) rfl rfl;have y1:wV.cell? ⟨w.heap.size + 1 + 1,1,none⟩ = some (.int .i64 (k:Int)):=T1.cell (j:=2) (i:=1) rfl rfl;rw [Nat.add_zero] at x1
 have hks:(k:Int) < (p.switches.length:Int):=by omega
 have hk0:(0:Int) ≤ (k:Int):=Int.natCast_nonneg _
 have hso:(sn:Int) < (d.occ.length:Int):=by omega
 have hs00:(0:Int) ≤ (sn:Int):=Int.natCast_nonneg _;have T2:=T1.call (zaf _);clear hsr ho hsq hgo hm
 go_wp2_with fail
 go_region_held3 (fun w'=>w'.cell? ⟨w.heap.size + 1,1,none⟩ = some (.slice (some ⟨bq,oo,none⟩) d.occ.length m1) ∧ w'.cell? ⟨w.heap.size,1,none⟩ = some (.slice (some ⟨bs,os,none⟩) p.switches.length c1) ∧ w'.cell? ⟨w.heap.size + 1 + 1,1,none⟩ = some (.int .i64 (k:Int)) ∧ w'.cell? ⟨bs,os + k,none⟩ = some (.int .i64 (sn:Int)) ∧ w'.cell? ⟨bq,oo + sn,none⟩ = some (.bool o)) (go_keep) (fail)
 obtain ⟨W6,hW6⟩:∃ W,W = wV.drew:=⟨_,rfl⟩;rw [← hW6] at T2 ⊢;clear hW6 x1 y1 z1 gs go T1
 cases o
 case true=>
  have HE:=zaa (show evD p d 6 (k:Int) lie = (3,d) by rw [HEVD.out,HMV.out]; rfl);go_wp2;go_ret;exact EvR.of HE.out (KO.out _ T2.below) (But.of_calls T2.below)
 obtain ⟨pt,hpt⟩:=zac d.points (zaa HLP.out) hk;have hfw:=KO.out _ T2.below;obtain ⟨cq2,e1,g0,g1,z0,z1⟩:=hfw.points.cells hpt
 cases e1
 have hput:zdg d.points k (fun pt=>(lie,pt.2)) = d.points.set k (if 0 = 0 then (lie,pt.2) else (pt.1,lie)):=by rw [zc7 _ hpt]; rfl
 obtain ⟨hfx,hbx⟩:=hfw.put hpt 0 (by omega) lie;rw [← hput] at hfx;simp only [Nat.add_zero] at hfx hbx;have HX:=zaa hfx;have HB:=zaa ((But.of_calls (K:=fun c=>¬ P c) T2.below).trans hbx);have HE:=zaa (show evD p d 6 (k:Int) lie = (0,{ d with points:=zdg d.points k fun pt=>(lie,pt.2) }) by rw [HEVD.out,HMV.out]; rfl);have y1:W6.cell? ⟨w.heap.size + 1 + 1,1,none⟩ = some (.int .i64 (k:Int)):=T2.cell (j:=2) (i:=1) rfl rfl;have y2:W6.cell? ⟨w.heap.size + 1 + 1,2,none⟩ = some (.int .i64 lie):=T2.cell (j:=2) (i:=2) rfl rfl;have e2:=T2.cell (j:=1) (i:=2) rfl rfl
 have hkd:(k:Int) < (d.points.length:Int):=by have:=HLP.out; omega
 clear hfx hbx hpt hput hfw T2;go_wp2;go_ret;exact EvR.of HE.out HX.out HB.out
end Go.Proofs.YtdhinkgjiapigabGreatDoor
namespace Go.Proofs.YtdhinkgjiapigabGreatDoor
open Go.RowKit Go.Deep
open Classical
theorem Tryz.hap1 (w:World):(Instr.index 222 (.agg #[.nilFunc,.func (.func 187) #[] #[],.func (.func 188) #[] #[],.func (.func 189) #[] #[],.func (.func 190) #[] #[],.func (.func 191) #[] #[],.func (.func 192) #[] #[],.func (.func 193) #[] #[]]) (.int .i64 1)).run Tryz.prog w = .ok (.func (.func 187) #[] #[]) w:=by kernel_rfl
theorem Tryz.hap2 (w:World):(Instr.index 222 (.agg #[.nilFunc,.func (.func 187) #[] #[],.func (.func 188) #[] #[],.func (.func 189) #[] #[],.func (.func 190) #[] #[],.func (.func 191) #[] #[],.func (.func 192) #[] #[],.func (.func 193) #[] #[]]) (.int .i64 2)).run Tryz.prog w = .ok (.func (.func 188) #[] #[]) w:=by kernel_rfl
theorem Tryz.hap3 (w:World):(Instr.index 222 (.agg #[.nilFunc,.func (.func 187) #[] #[],.func (.func 188) #[] #[],.func (.func 189) #[] #[],.func (.func 190) #[] #[],.func (.func 191) #[] #[],.func (.func 192) #[] #[],.func (.func 193) #[] #[]]) (.int .i64 3)).run Tryz.prog w = .ok (.func (.func 189) #[] #[]) w:=by kernel_rfl
theorem Tryz.hap4 (w:World):(Instr.index 222 (.agg #[.nilFunc,.func (.func 187) #[] #[],.func (.func 188) #[] #[],.func (.func 189) #[] #[],.func (.func 190) #[] #[],.func (.func 191) #[] #[],.func (.func 192) #[] #[],.func (.func 193) #[] #[]]) (.int .i64 4)).run Tryz.prog w = .ok (.func (.func 190) #[] #[]) w:=by kernel_rfl
theorem Tryz.hap5 (w:World):(Instr.index 222 (.agg #[.nilFunc,.func (.func 187) #[] #[],.func (.func 188) #[] #[],.func (.func 189) #[] #[],.func (.func 190) #[] #[],.func (.func 191) #[] #[],.func (.func 192) #[] #[],.func (.func 193) #[] #[]]) (.int .i64 5)).run Tryz.prog w = .ok (.func (.func 191) #[] #[]) w:=by kernel_rfl
theorem Tryz.hap6 (w:World):(Instr.index 222 (.agg #[.nilFunc,.func (.func 187) #[] #[],.func (.func 188) #[] #[],.func (.func 189) #[] #[],.func (.func 190) #[] #[],.func (.func 191) #[] #[],.func (.func 192) #[] #[],.func (.func 193) #[] #[]]) (.int .i64 6)).run Tryz.prog w = .ok (.func (.func 192) #[] #[]) w:=by kernel_rfl
theorem Tryz.hap7 (w:World):(Instr.index 222 (.agg #[.nilFunc,.func (.func 187) #[] #[],.func (.func 188) #[] #[],.func (.func 189) #[] #[],.func (.func 190) #[] #[],.func (.func 191) #[] #[],.func (.func 192) #[] #[],.func (.func 193) #[] #[]]) (.int .i64 7)).run Tryz.prog w = .ok (.func (.func 193) #[] #[]) w:=by kernel_rfl
def zjv (op:Int):FuncId:=
 if op = 1 then 187 else if op = 2 then 188 else if op = 3 then 189 else if op = 4 then 190 else if op = 5 then 191 else if op = 6 then 192 else 193
set_option maxRecDepth 100000 in
set_option maxHeartbeats 2000000 in
theorem zja (op:Int) (h1:1 ≤ op) (h7:op ≤ 7) (w:World):Calls Tryz.prog 146 #[.int .i64 op] w fun e w'=>e = .returned (.func (.func (zjv op)) #[] #[]) ∧ Below w.heap.size w w':=by
 have hb:=Below.refl w.heap.size w
 obtain rfl | rfl | rfl | rfl | rfl | rfl | rfl:op = 1 ∨ op = 2 ∨ op = 3 ∨ op = 4 ∨ op = 5 ∨ op = 6 ∨ op = 7:=by omega
 ·have hi:=Tryz.hap1;clear h1 h7;go_enter Tryz.func146,Tryz.ntmps146;go_wp2;go_ret;exact ⟨rfl,hb⟩
 ·have hi:=Tryz.hap2;clear h1 h7;go_enter Tryz.func146,Tryz.ntmps146;go_wp2;go_ret;exact ⟨rfl,hb⟩
 ·have hi:=Tryz.hap3;clear h1 h7;go_enter Tryz.func146,Tryz.ntmps146;go_wp2;go_ret;exact ⟨rfl,hb⟩
 ·have hi:=Tryz.hap4;clear h1 h7;go_enter Tryz.func146,Tryz.ntmps146;go_wp2;go_ret;exact ⟨rfl,hb⟩
 ·have hi:=Tryz.hap5;clear h1 h7;go_enter Tryz.func146,Tryz.ntmps146;go_wp2;go_ret;exact ⟨rfl,hb⟩
 ·have hi:=Tryz.hap6;clear h1 h7;go_enter Tryz.func146,Tryz.ntmps146;go_wp2;go_ret;exact ⟨rfl,hb⟩
 ·have hi:=Tryz.hap7;clear h1 h7;go_enter Tryz.func146,Tryz.ntmps146;go_wp2;go_ret;exact ⟨rfl,hb⟩
end Go.Proofs.YtdhinkgjiapigabGreatDoor
namespace Go.Proofs.YtdhinkgjiapigabGreatDoor
open Classical
theorem zhk {n:Nat} {s:StD} (h:zcw n s):zp3 (zao n s) = some s:=by
 cases s using StD.by with
 | idle=>rfl
 | set b=>rfl
 | clear=>rfl
 | taking t=>rfl
 | used g l b=>
  show some (StD.used g (pad (l.take n)) b) = some (.used g l b);rw [← h.2.2.2]
theorem zck {p:PlanD} {d:FrameD} (hR:zas p d) {i:Nat} {x:WayD} {h:HeldD} (hx:p.ways[i]? = some x) (hh:d.ways[i]? = some h):∃ s,zp3 h = some s ∧ zr1 p.hold x.sections.length s ∧ zcw x.sections.length s ∧ zao x.sections.length s = h:=by
 have hfit:=zd0 hR.1 hR.2.2.1 hR.2.2.2.1 hR.2.2.2.2.1 hR.2.2.2.2.2.2.1;exact zof (hfit.2.2.2.2 i x h hx hh).2.2.1.1 (hR.2.2.2.2.2.2.1 i (List.getElem?_eq_some_iff.1 hh).1 x h hx hh).1
theorem zmf {p:PlanD} {d:FrameD} (hR:zas p d):Stand p.ways d:=fun _ _ _ hx hh=>by
 obtain ⟨s,h1,-,h3,h4⟩:=zck hR hx hh
 exact ⟨s,h1,h3,h4⟩
theorem Stand.ways {ways:List WayD} {d e:FrameD} (h:Stand ways d) (he:e.ways = d.ways):Stand ways e:=fun i x g hx hg=>h i x g hx (he ▸ hg)
theorem Stand.put {ways:List WayD} {d e:FrameD} (h:Stand ways d) {k:Nat} {x:WayD} (hx:ways[k]? = some x) {s:StD} (hs:zcw x.sections.length s) (he:e.ways = d.ways.set k (zao x.sections.length s)):Stand ways e:=fun i z g hz hg=>by
 rw [he] at hg
 rcases zjp hg with ⟨rfl,rfl⟩ | ⟨-,hg⟩
 ·rw [hx] at hz
  cases hz
  exact ⟨s,zhk hs,hs,rfl⟩
 ·exact h i z g hz hg
theorem zfn {p:PlanD} {d:FrameD} {i:Nat} {x:WayD} {h:HeldD} (e:zit p d i x h = 0):h.state = 0:=by
 unfold zit zph at e;by_cases z:h.state = 0
 ·exact z
 ·rw [if_pos (by simp [z])] at e
  cases e
theorem zil {n:Nat} {s:StD} {h:HeldD} (hs:zao n s = h) (h0:h.state = 0):h = zao n .idle:=by
 subst hs
 cases s using StD.by with
 | idle=>rfl
 | set b=>cases h0
 | clear=>cases h0
 | taking t=>cases h0
 | used g l b=>cases h0
theorem zo6 {n:Nat} {s:StD} {h:HeldD} {hold:Int} (hs:zao n s = h) (ho:zr1 hold n s) (hn:h.been.length = n):∃ s',zcw n s → zcw n s' ∧ zao n s' = za7 h:=by
 subst hs
 cases s using StD.by with
 | taking t=>
  refine ⟨zhm t,fun _=>⟨?_,?_⟩⟩
  ·unfold zhm; split <;> trivial
  ·have h1:1 ≤ t:=ho.1;unfold za7 zhm;rw [if_pos (show (zao n (.taking t)).state = 3 from rfl)];by_cases e:t ≤ 1
   ·rw [if_pos e,if_pos (show (zao n (.taking t)).timer - 1 = 0 by show t - 1 = 0; omega),hn]; rfl
   ·rw [if_neg e,if_neg (show ¬ (zao n (.taking t)).timer - 1 = 0 by show ¬ t - 1 = 0; omega)]; rfl
 | idle=>exact ⟨.idle,fun z=>⟨z,by unfold za7; rw [if_neg (show ¬ (zao n (.idle)).state = 3 from (by decide:¬ (0:Int) = 3))]⟩⟩
 | set b=>exact ⟨.set b,fun z=>⟨z,by unfold za7; rw [if_neg (show ¬ (zao n (.set b)).state = 3 from (by decide:¬ (1:Int) = 3))]⟩⟩
 | clear=>exact ⟨.clear,fun z=>⟨z,by unfold za7; rw [if_neg (show ¬ (zao n (.clear)).state = 3 from (by decide:¬ (2:Int) = 3))]⟩⟩
 | used g l b=>exact ⟨.used g l b,fun z=>⟨z,by unfold za7; rw [if_neg (show ¬ (zao n (.used g l b)).state = 3 from (by decide:¬ (4:Int) = 3))]⟩⟩
theorem zp4 {p:PlanD} {d:FrameD} (hR:zas p d) (op of lie:Int):Stand p.ways (evD p d op of lie).2:=by
 have h:=zmf hR;have hfit:=zd0 hR.1 hR.2.2.1 hR.2.2.2.1 hR.2.2.2.2.1 hR.2.2.2.2.2.2.1;unfold evD;split
 ·split
  ·rename_i x g hx hg
   obtain ⟨s,-,-,h3,h4⟩:=zck hR hx hg;unfold zlx;split
   ·rename_i e
    refine h.put hx (s:=.set false) trivial ?_;rw [zil h4 (zfn e)];rfl
   ·exact h
  ·exact h
 split
 ·split
  ·rename_i x g hx hg
   obtain ⟨s,-,-,h3,h4⟩:=zck hR hx hg;have hb:=(hfit.2.2.2.2 _ x g hx hg).1;unfold zc0;split
   ·rename_i e
    unfold zb3;split
    ·rename_i e2
     refine h.put hx (s:=.taking p.hold) trivial ?_
     have e3:g.shown = true:=by
      rw [Bool.and_eq_true] at e2;exact e2.1
     subst h4
     cases s using StD.by with
     | idle=>rcases e with e | e <;> cases e
     | set b=>
      have:b = true:=e3;subst this;rfl
     | clear=>rfl
     | taking t=>rcases e with e | e <;> cases e
     | used g l b=>rcases e with e | e <;> cases e
    ·refine h.put hx (s:=.idle) trivial ?_;rw [hb];rfl
   ·exact h
  ·exact h
 split
 ·exact h.ways rfl
 split
 ·exact h.ways rfl
 split
 ·exact h.ways rfl
 split
 ·unfold zen;split
  ·exact h
  split
  ·exact h
  ·exact h.ways rfl
 ·intro i x g hx hg;change (d.ways.map za7)[i]? = some g at hg;rw [List.getElem?_map] at hg;obtain ⟨g0,hg0,rfl⟩:=Option.map_eq_some_iff.1 hg;obtain ⟨s,-,h2,h3,h4⟩:=zck hR hx hg0;obtain ⟨s',hs'⟩:=zo6 h4 h2 (hfit.2.2.2.2 i x g0 hx hg0).1;exact ⟨s',by rw [← (hs' h3).2]; exact zhk (hs' h3).1,(hs' h3).1,(hs' h3).2⟩
end Go.Proofs.YtdhinkgjiapigabGreatDoor
namespace Go.Proofs.YtdhinkgjiapigabGreatDoor
open Classical
theorem zlb {p:PlanD} {d:FrameD} (hR:zas p d) (i:Nat) (h:HeldD) (hh:d.ways[i]? = some h) (h3:h.state = 3):1 ≤ h.timer ∧ h.timer ≤ 1048576:=by
 obtain ⟨x,hx⟩:=zac p.ways (zaa rfl) (show i < p.ways.length by have:=(List.getElem?_eq_some_iff.1 hh).1; have:=hR.2.2.2.2.1; omega);have hk:=(hR.2.2.2.2.2.2.1 i (List.getElem?_eq_some_iff.1 hh).1 x h hx hh).1;have ht:=(hk.2.2.2.2.2.1 h3).2;have hp:=hR.1.parts.1.2.2.2;exact ⟨ht.1,by have:=ht.2; have:=hp.2; omega⟩
theorem zmw {p:PlanD} {d:FrameD} (hR:zas p d) {i:Nat} {x:WayD} {h:HeldD} (hx:p.ways[i]? = some x) (hh:d.ways[i]? = some h) (h0:h.state = 0):h = zao x.sections.length .idle:=by
 obtain ⟨s,-,-,-,h4⟩:=zck hR hx hh;exact zil h4 h0
theorem zh7 {p:PlanD} {d:FrameD} (hR:zas p d):∀ x ∈ d.ways,0 < x.been.length:=fun h hm=>by
 obtain ⟨i,hi⟩:=List.getElem?_of_mem hm
 obtain ⟨x,hx⟩:=zac p.ways (zaa rfl) (show i < p.ways.length by have:=(List.getElem?_eq_some_iff.1 hi).1; have:=hR.2.2.2.2.1; omega)
 have hfit:=(zd0 hR.1 hR.2.2.1 hR.2.2.2.1 hR.2.2.2.2.1 hR.2.2.2.2.2.2.1).2.2.2.2 i x h hx hi
 have:=hfit.1
 have:=hfit.2.1
 omega
end Go.Proofs.YtdhinkgjiapigabGreatDoor
namespace Go.Proofs.YtdhinkgjiapigabGreatDoor
open Go.RowKit Go.Deep
open Classical
theorem zoa (P Q:Nat → Prop) (p1 p2 p3 v1 v2 v3:Value) (p:PlanD) (d:FrameD) (op of lie:Int) (bo bp bw:Nat) (bb:Nat → Nat) (w:World)
  (hpl:PlanAt (In w) w p1 p2 p3 p) (hwc:WaysC (In w) w p2 p.ways) (hp:Ways Q w p2 p.ways) (hQ:∀ c,Q c → c < w.heap.size ∧ ¬ P c) (hf:OFrame P w v1 v2 v3 d bo bp bw bb) (hs:p.Small 1048576) (hd:d.Small 1048576) (hR:zas p d) (hE:za5 p.sections p.switches.length p.ways.length op of lie) (hPl:∀ c,P c → c < w.heap.size) :
  Calls Tryz.prog (zjv op) #[.agg #[.int .i64 p.sections,p1,p2,p3,.int .i64 p.hold],.agg #[.bool d.ok,v1,v2,v3],.agg #[.int .i64 op,.int .i64 of,.int .i64 lie]] w fun e w'=>EvR P w v1 v2 v3 bo bp bw (evD p d op of lie) e w':=by
 have hfit:=zd0 hR.1 hR.2.2.1 hR.2.2.2.1 hR.2.2.2.2.1 hR.2.2.2.2.2.2.1;rcases hE with ⟨h12,hof,rfl⟩ | ⟨h34,hof,rfl⟩ | ⟨rfl,hof,hlie⟩ | ⟨rfl,hof,hlie⟩ | ⟨rfl,rfl,rfl⟩
 ·obtain ⟨k,rfl⟩:∃ k:Nat,of = k:=⟨of.toNat,by have:=hof.1; omega⟩
  have hk:k < p.ways.length:=by have:=hof.2; omega
  obtain ⟨x,hx⟩:=zac p.ways (zaa rfl) hk;obtain ⟨h,hh⟩:=zac d.ways (zaa hR.2.2.2.2.1) hk;obtain ⟨f1,f2,f3,f4,f5,f6,f7⟩:=hfit.2.2.2.2 k x h hx hh;rcases h12 with rfl | rfl
  ·rw [show zjv 1 = 187 by simp [zjv]];exact zqt P Q p1 p2 p3 v1 v2 v3 p d k x h bo bp bw bb w hpl hwc hp hQ hf hx hh (zmw hR hx hh) f3 f2 f6 hs hd hR hPl
  ·rw [show zjv 2 = 188 by simp [zjv]];obtain ⟨s,s1,-,s3,s4⟩:=zck hR hx hh;exact zks P Q _ _ p1 p2 p3 v1 v2 v3 p d k x h s bo bp bw bb w hp hQ hf hx hh s1 s4 f1 f3 f2 (fun s hs=>by rw [hR.2.2.1]; exact (hR.1.way hx).2.2.2.1.mem hs) hs.2.1 hd.2.2.1 hd.1
 ·obtain ⟨k,rfl⟩:∃ k:Nat,of = k:=⟨of.toNat,by have:=hof.1; omega⟩
  have hk:k < d.occ.length:=by have:=hof.2; have:=hR.2.2.1; omega
  rcases h34 with rfl | rfl
  ·rw [show zjv 3 = 189 by simp [zjv]];exact zms P _ p1 p2 p3 _ _ v1 v2 v3 p d k bo bp bw bb w hf hk hd.1
  ·rw [show zjv 4 = 190 by simp [zjv]];exact zon P _ p1 p2 p3 _ _ v1 v2 v3 p d k bo bp bw bb w hf hk hd.1
 ·obtain ⟨k,rfl⟩:∃ k:Nat,of = k:=⟨of.toNat,by have:=hof.1; omega⟩
  have hk:k < d.points.length:=by have:=hof.2; have:=hR.2.2.2.1; omega
  rw [show zjv 5 = 191 by simp [zjv]];exact zom P _ p1 p2 p3 _ _ v1 v2 v3 p d k lie bo bp bw bb w hf hk hd.2.1
 ·obtain ⟨k,rfl⟩:∃ k:Nat,of = k:=⟨of.toNat,by have:=hof.1; omega⟩
  have hk:k < p.switches.length:=by have:=hof.2; omega
  rw [show zjv 6 = 192 by simp [zjv]];exact zpy P p1 p2 p3 v1 v2 v3 p d k lie bo bp bw bb w hpl hwc hf hs hd hR hk
 ·rw [show zjv 7 = 193 by simp [zjv]];exact zp7 P Q _ _ _ p1 p2 p3 v1 v2 v3 p d bo bp bw bb w hp hQ hf hfit (zmf hR) hPl (zlb hR)
theorem zrg (p:PlanD) (d:FrameD) (op of lie:Int):(evD p d op of lie).2.ok = d.ok:=by
 unfold evD;split
 ·split
  ·unfold zlx; split <;> rfl
  ·rfl
 split
 ·split
  ·unfold zc0; split <;> rfl
  ·rfl
 split
 ·rfl
 split
 ·rfl
 split
 ·rfl
 split
 ·unfold zen; split
  ·rfl
  split <;> rfl
 ·rfl
end Go.Proofs.YtdhinkgjiapigabGreatDoor
namespace Go.Proofs.YtdhinkgjiapigabGreatDoor
open Go.RowKit Go.Deep
open Classical
theorem zob (op:Int) (h1:1 ≤ op) (h7:op ≤ 7) (args:Array Value) (w:World):(callFunc (zjv op) args).run Tryz.prog w = .ok (.enter (zjv op) args) w:=by
 obtain rfl | rfl | rfl | rfl | rfl | rfl | rfl:op = 1 ∨ op = 2 ∨ op = 3 ∨ op = 4 ∨ op = 5 ∨ op = 6 ∨ op = 7:=by omega
 ·kernel_rfl
 ·kernel_rfl
 ·kernel_rfl
 ·kernel_rfl
 ·kernel_rfl
 ·kernel_rfl
 ·kernel_rfl
set_option maxRecDepth 100000 in
set_option maxHeartbeats 8000000 in
theorem zmn (p1 p2 p3 f1 f2 f3:Value) (p:PlanD) (d:FrameD) (op of lie:Int) (w:World) (hp:PlanAt (In w) w p1 p2 p3 p) (hwc:WaysC (In w) w p2 p.ways) (hf:FrameAt (In w) w f1 f2 f3 d) (hs:p.Small 1048576) (hd:d.Small 1048576) (hR:zas p d) (hE:za5 p.sections p.switches.length p.ways.length op of lie) :
  Calls Tryz.prog 92 #[.agg #[.int .i64 p.sections,p1,p2,p3,.int .i64 p.hold],.agg #[.bool d.ok,f1,f2,f3],.agg #[.int .i64 op,.int .i64 of,.int .i64 lie]] w fun e w'=>∃ u1 u2 u3,e = .returned (.agg #[.int .i64 (doD p d op of lie).1,.bool (doD p d op of lie).2.ok,u1,u2,u3]) ∧ Below w.heap.size w w' ∧ ∃ bo bp bw bb,OFrame (New w w') w' u1 u2 u3 (doD p d op of lie).2 bo bp bw bb:=by
 have KP:=zaa fun (W:World) (h:Below w.heap.size w W)=>hp.keep (Q:=In W) (In.keep h).1 (In.keep h).2;have KQ:=zaa fun (W:World) (h:Below w.heap.size w W)=>hp.2.1.keep (Q:=In w) (In.keep h).1 fun _ z=>z;have KC:=zaa fun (W:World) (h:Below w.heap.size w W)=>hwc.keep (Q:=In W) (In.keep h).1 (In.keep h).2;have KF:=zaa fun (W:World) (h:Below w.heap.size w W)=>hf.keep (Q:=In W) (In.keep h).1 (In.keep h).2;obtain ⟨a1,c1,rfl⟩:=hp.1.size;obtain ⟨a2,c2,rfl⟩:=hp.2.1.size;obtain ⟨a3,c3,rfl⟩:=hp.2.2.size;obtain ⟨o1,m1,rfl⟩:=hf.1.size;obtain ⟨o2,m2,rfl⟩:=hf.2.1.size;obtain ⟨o3,m3,rfl⟩:=hf.2.2.size;have T0:=zn1 w 37 42 52 50 #[.int .i64 p.sections,.slice a1 p.switches.length c1,.slice a2 p.ways.length c2,.slice a3 p.bars.length c3,.int .i64 p.hold] #[.bool d.ok,.slice o1 d.occ.length m1,.slice o2 d.points.length m2,.slice o3 d.ways.length m3] #[.int .i64 op,.int .i64 of,.int .i64 lie] #[.int .i64 0,.bool false,.slice none 0 0,.slice none 0 0,.slice none 0 0]
 have hop:1 ≤ op ∧ op ≤ 7:=by
  rcases hE with ⟨h,-⟩ | ⟨h,-⟩ | ⟨h,-⟩ | ⟨h,-⟩ | ⟨h,-⟩ <;> omega
 have HS:=zaa hs;have HD:=zaa hd;have HR:=zaa hR;have HE:=zaa hE
 have ho:0 < d.occ.length:=by have:=hR.2.2.1; have:=hR.1.parts.1.1.1; omega
 have hB:=ze6 _ _ _ d _ (KF.out _ T0.below) hd ho (zh7 hR);have HB:=zaa hB;clear hp hwc hf hs hd hR hE hB;go_enter Tryz.func92,Tryz.ntmps92
 go_wp2_with fail
 refine HB.out.mono ?_;rintro e w1 ⟨u1,u2,u3,bo,bp,bw,bb,rfl,hb1,hF⟩;clear HB;have T1:=T0.call hb1
 have hz0:((((w.alloc (.cells #[.int .i64 p.sections,.slice a1 p.switches.length c1,.slice a2 p.ways.length c2,.slice a3 p.bars.length c3,.int .i64 p.hold] 37)).alloc (.cells #[.bool d.ok,.slice o1 d.occ.length m1,.slice o2 d.points.length m2,.slice o3 d.ways.length m3] 42)).alloc (.cells #[.int .i64 op,.int .i64 of,.int .i64 lie] 52)).alloc (.cells #[.int .i64 0,.bool false,.slice none 0 0,.slice none 0 0,.slice none 0 0] 50)).heap.size = w.heap.size + 4:=by simp
 have HF:Hid (OFrame (fun c=>w.heap.size + 4 ≤ c ∧ c < w1.heap.size) w1 u1 u2 u3 d bo bp bw bb):=hF.bound fun c hc hl=>⟨by have:=hc.1; omega,hl⟩;obtain ⟨g1,N1,q1,rfl,-⟩:=id hF.occ;obtain ⟨a4,q2,rfl,-⟩:=id hF.points;obtain ⟨a5,q3,rfl,-⟩:=id hF.ways
 have hsz1:w.heap.size + 4 ≤ w1.heap.size:=by have:=hb1.size; omega
 clear hb1 hF T0 hz0;have TN:=zaw w1 42 #[.bool d.ok,.slice (some ⟨bo,0,none⟩) d.occ.length q1,.slice a4 d.points.length q2,.slice a5 d.ways.length q3];have hbN:=zab w1 (.cells #[.bool d.ok,.slice (some ⟨bo,0,none⟩) d.occ.length q1,.slice a4 d.points.length q2,.slice a5 d.ways.length q3] 42);have T2:=T1.call hbN
 go_upto_region 2 with fail
 obtain ⟨W2,hW2⟩:∃ W2,W2 = w1.alloc (.cells #[.bool d.ok,.slice (some ⟨bo,0,none⟩) d.occ.length q1,.slice a4 d.points.length q2,.slice a5 d.ways.length q3] 42):=⟨_,rfl⟩
 have hz2:W2.heap.size = w1.heap.size + 1:=by rw [hW2]; simp
 rw [← hW2] at TN hbN T2 ⊢;obtain ⟨bn,hbn⟩:∃ bn,bn = w1.heap.size:=⟨_,rfl⟩;clear hW2
 have HF2:Hid (OFrame (fun c=>w.heap.size + 4 ≤ c ∧ c < bn) W2 (.slice (some ⟨bo,0,none⟩) d.occ.length q1) (.slice a4 d.points.length q2) (.slice a5 d.ways.length q3) d bo bp bw bb):=by
  show OFrame _ _ _ _ _ _ _ _ _ _;rw [hbn];exact HF.out.but (K:=fun _=>True) (But.of_calls hbN) (fun _ _=>trivial) fun _ z=>z
 have hks:∀ W,But (fun c=>¬ (w.heap.size + 4 ≤ c ∧ c < bn)) W2 W → W.cell? ⟨w.heap.size,0,none⟩ = some (.int .i64 p.sections) ∧ W.cell? ⟨w.heap.size,1,none⟩ = some (.slice a1 p.switches.length c1) ∧ W.cell? ⟨w.heap.size,2,none⟩ = some (.slice a2 p.ways.length c2) ∧ W.cell? ⟨w.heap.size,3,none⟩ = some (.slice a3 p.bars.length c3) ∧ W.cell? ⟨w.heap.size,4,none⟩ = some (.int .i64 p.hold) ∧ W.cell? ⟨w.heap.size + 2,0,none⟩ = some (.int .i64 op) ∧ W.cell? ⟨w.heap.size + 2,1,none⟩ = some (.int .i64 of) ∧ W.cell? ⟨w.heap.size + 2,2,none⟩ = some (.int .i64 lie) ∧ W.cell? ⟨bn,0,none⟩ = some (.bool d.ok) ∧ W.cell? ⟨bn,1,none⟩ = some (.slice (some ⟨bo,0,none⟩) d.occ.length q1) ∧ W.cell? ⟨bn,2,none⟩ = some (.slice a4 d.points.length q2) ∧ W.cell? ⟨bn,3,none⟩ = some (.slice a5 d.ways.length q3):=fun W hW=>by
  have e0:w.heap.size + 0 = w.heap.size:=rfl;have x0:∀ (i:Nat) v,W2.cell? ⟨w.heap.size + 0,i,none⟩ = some v → W.cell? ⟨w.heap.size,i,none⟩ = some v:=fun i v hv=>hW.cell hv (by omega);have x2:∀ (i:Nat) v,W2.cell? ⟨w.heap.size + 2,i,none⟩ = some v → W.cell? ⟨w.heap.size + 2,i,none⟩ = some v:=fun i v hv=>hW.cell hv (by omega)
  have xn:∀ (i:Nat) v,W2.cell? ⟨w1.heap.size + 0,i,none⟩ = some v → W.cell? ⟨bn,i,none⟩ = some v:=fun i v hv=>by rw [hbn]; exact hW.cell hv (by omega)
  exact ⟨x0 _ _ (T2.cell (j:=0) (i:=0) rfl rfl),x0 _ _ (T2.cell (j:=0) (i:=1) rfl rfl),x0 _ _ (T2.cell (j:=0) (i:=2) rfl rfl),x0 _ _ (T2.cell (j:=0) (i:=3) rfl rfl),x0 _ _ (T2.cell (j:=0) (i:=4) rfl rfl),x2 _ _ (T2.cell (j:=2) (i:=0) rfl rfl),x2 _ _ (T2.cell (j:=2) (i:=1) rfl rfl),x2 _ _ (T2.cell (j:=2) (i:=2) rfl rfl),xn _ _ (TN.cell (j:=0) (i:=0) rfl rfl),xn _ _ (TN.cell (j:=0) (i:=1) rfl rfl),xn _ _ (TN.cell (j:=0) (i:=2) rfl rfl),xn _ _ (TN.cell (j:=0) (i:=3) rfl rfl)⟩
 have KS:=zaa hks;have HRES:Hid (∃ g,W2.rowIs (w.heap.size + 3) 50 5 g):=⟨_,T2.row 3 _ _ rfl⟩;have HW2:=zaa T2.below
 have hbnl:w.heap.size + 4 ≤ bn ∧ bn < W2.heap.size:=by omega
 rw [← hbn] at ⊢;clear hks TN hbN T2 T1 HF hbn hz2 hsz1;refine zct (S:=fun W=>W.cell? ⟨w.heap.size,0,none⟩ = some (.int .i64 p.sections) ∧ W.cell? ⟨w.heap.size,1,none⟩ = some (.slice a1 p.switches.length c1) ∧ W.cell? ⟨w.heap.size,2,none⟩ = some (.slice a2 p.ways.length c2) ∧ W.cell? ⟨w.heap.size,3,none⟩ = some (.slice a3 p.bars.length c3) ∧ W.cell? ⟨w.heap.size,4,none⟩ = some (.int .i64 p.hold) ∧ W.cell? ⟨w.heap.size + 2,0,none⟩ = some (.int .i64 op) ∧ W.cell? ⟨w.heap.size + 2,1,none⟩ = some (.int .i64 of) ∧ W.cell? ⟨w.heap.size + 2,2,none⟩ = some (.int .i64 lie) ∧ W.cell? ⟨bn,0,none⟩ = some (.bool d.ok) ∧ W.cell? ⟨bn,1,none⟩ = some (.slice (some ⟨bo,0,none⟩) d.occ.length q1) ∧ W.cell? ⟨bn,2,none⟩ = some (.slice a4 d.points.length q2) ∧ W.cell? ⟨bn,3,none⟩ = some (.slice a5 d.ways.length q3)) 7 (by kernel_rfl) (KS.out _ (But.of_calls (zaf _))) (fun hS=>?_);obtain ⟨wA,hwA⟩:∃ wA,wA = W2.drew:=⟨_,rfl⟩
 have hDA:Below W2.heap.size W2 wA:=by rw [hwA]; exact zaf _
 rw [← hwA] at hS ⊢;clear hwA;refine tkL (v:=?v0) At.z (by kernel_rfl) (fun _ _ _ h=>h) rfl ?h0 hS ?_
 case h0=>intro _ s;(try dsimp only at s);go_simp;try with_reducible rfl
 try simp only [Act.put,sA,sB,sC]
 refine tkL (v:=?v1) At.z.s (by kernel_rfl) (fun _ _ _ h=>h) rfl ?h1 hS ?_
 case h1=>intro _ s;(try dsimp only at s);go_simp;try with_reducible rfl
 try simp only [Act.put,sA,sB,sC]
 refine tkL (v:=?v3) At.z.s.s.s (by kernel_rfl) (fun _ _ _ h=>h) rfl ?h3 hS ?_
 case h3=>intro _ s;(try dsimp only at s);go_simp;try with_reducible rfl
 try simp only [Act.put,sA,sB,sC]
 refine tkL (v:=?v4) At.z.s.s.s.s (by kernel_rfl) (fun _ _ _ h=>h) rfl ?h4 hS ?_
 case h4=>intro _ s;(try dsimp only at s);go_simp;try with_reducible rfl
 try simp only [Act.put,sA,sB,sC]
 refine tkL (v:=?v5) At.z.s.s.s.s.s (by kernel_rfl) (fun _ _ _ h=>h) rfl ?h5 hS ?_
 case h5=>intro _ s;(try dsimp only at s);go_simp;try with_reducible rfl
 try simp only [Act.put,sA,sB,sC]
 refine zbk (i:=2) At.z.s.s (by kernel_rfl) (fun K hK=>?_);go_simp;refine (zja op hop.1 hop.2 _).mono ?_;rintro e wB ⟨rfl,hbB⟩;have hDB:=hDA.trans (hbB.mono hDA.size);have hSB:=KS.out _ (But.of_calls hDB);refine hK.out _ _ hSB ?_;clear hK K hS hbB hDA;clear wA
 try simp only [Act.put,sA,sB,sC]
 refine zbk (i:=6) At.z.s.s.s.s.s.s (by kernel_rfl) (fun K hK=>?_);have hent:=zob op hop.1 hop.2;go_simp;clear hent;have hbw:Below w.heap.size w wB:=HW2.out.trans (hDB.mono HW2.out.size);have hszB:=hDB.size;have hcall:=zoa (fun c=>w.heap.size + 4 ≤ c ∧ c < bn) (In w) _ _ _ _ _ _ p d op of lie bo bp bw bb wB (KP.out _ hbw) (KC.out _ hbw) (KQ.out _ hbw) (fun c hc=>⟨by have:c < w.heap.size:=hc; omega,fun z=>by have:c < w.heap.size:=hc; omega⟩) (HF2.out.but (K:=fun _=>True) (But.of_calls hDB) (fun _ _=>trivial) fun _ z=>z) HS.out HD.out HR.out HE.out (fun c hc=>by omega);refine hcall.mono ?_;rintro e wC ⟨rfl,bbC,hFC,hbC⟩;clear hcall;have hDC:=(But.of_calls (K:=fun c=>¬ (w.heap.size + 4 ≤ c ∧ c < bn)) hDB).trans hbC;have hSC:=KS.out _ hDC;refine hK.out _ _ hSC ?_;clear hK K hSB
 try simp only [Act.put,sA,sB,sC]
 refine zf1 (m:=7) At.z.s.s.s.s.s.s.s (by kernel_rfl) (by kernel_rfl) (fun K hK=>?_);go_simp;refine hK.out _ _ ?_;clear hK K;obtain ⟨b0,b1,b2,b3,b4,b5,b6,b7,b8,b9,b10,b11⟩:=hSC;have HFC:=zaa hFC;have hbwC:Below w.heap.size w wC:=HW2.out.trans (hDC.below HW2.out.size fun c hc=>by omega);have HDC:=zaa hDC;have HBWC:=zaa hbwC;have hszC:=hDC.size;obtain ⟨D,hDD⟩:∃ D,D = (evD p d op of lie).2:=⟨_,rfl⟩;obtain ⟨cd,hcd⟩:∃ cd,cd = (evD p d op of lie).1:=⟨_,rfl⟩
 have HFIT:Hid (Fits p.ways D):=by
  show Fits p.ways D;rw [hDD];exact zlz (zd0 HR.out.1 HR.out.2.2.1 HR.out.2.2.2.1 HR.out.2.2.2.2.1 HR.out.2.2.2.2.2.2.1) op of lie
 have HSTD:Hid (Stand p.ways D):=by
  show Stand p.ways D;rw [hDD];exact zp4 HR.out op of lie
 have HDO:Hid (doD p d op of lie = (cd,zbu p.ways D)):=by
  show doD p d op of lie = (cd,zbu p.ways D);rw [hDD,hcd];rfl
 have HOK:Hid (D.ok = d.ok):=by
  show D.ok = d.ok;rw [hDD];exact zrg p d op of lie
 rw [← hDD] at HFC;rw [← hcd];clear hFC hbC hDC hbwC hDB hbw hcd hDD
 go_wp2_with fail
 refine (zni (fun c=>(w.heap.size + 4 ≤ c ∧ c < bn) ∨ New wB wC c) (In w) _ _ _ _ _ _ _ _ _ D p.ways bo bp bw bbC wC (KQ.out _ HBWC.out) (fun c hc=>⟨by have:c < w.heap.size:=hc; omega,fun z=>by have h1:c < w.heap.size:=hc; exact z.elim (fun z=>by omega) fun z=>by have:=z.1; omega⟩) HFC.out HFIT.out HSTD.out (fun c hc=>hc.elim (fun z=>by omega) fun z=>z.2)).mono ?_;rintro e wD ⟨rfl,bbD,hFD,hbD⟩;have x:∀ (b i:Nat) v,wC.cell? ⟨b,i,none⟩ = some v → ¬ ((w.heap.size + 4 ≤ b ∧ b < bn) ∨ New wB wC b) → wD.cell? ⟨b,i,none⟩ = some v:=fun b i v hv hk=>hbD.cell hv hk
 have hnn:¬ ((w.heap.size + 4 ≤ bn ∧ bn < bn) ∨ New wB wC bn):=fun z=>by
  rcases z with z | z
  ·omega
  ·have:=z.1; omega
 have d8:=x _ _ _ b8 hnn;have d9:=x _ _ _ b9 hnn;have d10:=x _ _ _ b10 hnn;have d11:=x _ _ _ b11 hnn;obtain ⟨gR,hR2⟩:=HRES.out;have hRC:=HDC.out.row hR2 (by omega)
 have hRD:=hbD.row hRC (fun z=>by
  rcases z with z | z
  ·omega
  ·have:=z.1; omega)
 have r0:=hRD.cell (i:=0) (by omega);have r1:=hRD.cell (i:=1) (by omega);have r2:=hRD.cell (i:=2) (by omega);have r3:=hRD.cell (i:=3) (by omega);have r4:=hRD.cell (i:=4) (by omega);have k0:=hRD.frozen 0;have k1:=hRD.frozen 1;have k2:=hRD.frozen 2;have k3:=hRD.frozen 3;have k4:=hRD.frozen 4
 have hbwD:Below w.heap.size w wD:=HBWC.out.trans (hbD.below HBWC.out.size fun c hc z=>by
  rcases z with z | z
  ·omega
  ·have:=z.1; omega)
 have hFE:OFrame (fun c=>w.heap.size + 4 ≤ c) wD (.slice (some ⟨bo,0,none⟩) d.occ.length q1) (.slice a4 d.points.length q2) (.slice a5 d.ways.length q3) (zbu p.ways D) bo bp bw bbD:=hFD.bound fun c hc _=>by
  rcases hc with (z | z) | z
  ·omega
  ·have:=z.1; omega
  ·have:=z.1; omega
 have HFE:=zaa hFE;have HBWD:=zaa hbwD;clear hFD hbD x hnn hR2 hRC hRD hFE hbwD b0 b1 b2 b3 b4 b5 b6 b7 b8 b9 b10 b11;go_wp2;refine bodyPost_ret (v:=.agg #[.int .i64 cd,.bool d.ok,.slice (some ⟨bo,0,none⟩) d.occ.length q1,.slice a4 d.points.length q2,.slice a5 d.ways.length q3]) (by simp [results,Tryz.results92,go_sem,r0,r1,r2,r3,r4]) rfl ?_;rw [HDO.out];refine ⟨_,_,_,by rw [← HOK.out]; rfl,?_,bo,bp,bw,bbD,?_⟩
 ·have q:w.heap.size ≤ w.heap.size + 3:=by omega
  exact ((((HBWD.out.setCell (p:=⟨w.heap.size + 3,0,none⟩) q _).setCell (p:=⟨w.heap.size + 3,1,none⟩) q _).setCell (p:=⟨w.heap.size + 3,2,none⟩) q _).setCell (p:=⟨w.heap.size + 3,3,none⟩) q _).setCell (p:=⟨w.heap.size + 3,4,none⟩) q _
 ·have hk:∀ o:Nat,¬ ((fun c=>c ≠ w.heap.size + 3) (⟨w.heap.size + 3,o,none⟩:Addr).block):=fun o z=>z rfl;exact (HFE.out.but (Q:=fun c=>w.heap.size + 4 ≤ c) ((((((But.refl (fun c=>c ≠ w.heap.size + 3) wD).setCell (hk 0) _).setCell (hk 1) _).setCell (hk 2) _).setCell (hk 3) _).setCell (hk 4) _) (fun c hc=>by omega) fun _ z=>z).bound fun c hc hl=>⟨by omega,hl⟩
end Go.Proofs.YtdhinkgjiapigabGreatDoor

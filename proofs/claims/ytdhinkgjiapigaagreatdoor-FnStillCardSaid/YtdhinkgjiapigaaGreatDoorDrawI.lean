import Derived.Test.YtdhinkgjiapigaaGreatDoorDrawE
import Derived.Deep.DeepCutAuto
import Derived.Test.YtdhinkgjiapigaaGreatDoorSpec7
namespace Go.Proofs.YtdhinkgjiapigaaGreatDoor
open Go.RowKit Go.Deep
open Classical
def EvS (op of lie:Int):Prop:=InR op 0 9 ∧ InR of (-1) 100 ∧ InR lie (-1) 9
set_option maxRecDepth 100000 in
set_option maxHeartbeats 8000000 in
theorem zmu (cb K:Nat) (ns hd:Int) (a1 a2 a3:Option Addr) (n1 n2 n3 c1 c2 c3:Nat) (w:World) (hc:Cur w cb K) (hK:K ≤ 1000000) :
  Calls Tryz.prog 80 #[.pointer (some ⟨cb,0,none⟩),.agg #[.int .i64 ns,.slice a1 n1 c1,.slice a2 n2 c2,.slice a3 n3 c3,.int .i64 hd]] w fun e w'=>∃ op of lie:Int,e = .returned (.agg #[.int .i64 op,.int .i64 of,.int .i64 lie]) ∧ EvS op of lie ∧ Cur w' cb (K + 8) ∧ But (fun c=>c ≠ cb) w w':=by
 have hcb:=hc.lt;have T0:=zbc w 27 55 #[.int .i64 ns,.slice a1 n1 c1,.slice a2 n2 c2,.slice a3 n3 c3,.int .i64 hd] #[.int .i64 0,.int .i64 0,.int .i64 0];have hc0:=hc.but (Q:=fun _=>True) (But.of_calls T0.below) fun _ _=>trivial;have hr0:=T0.row 1 _ _ rfl;have hB0:But (fun c=>c ≠ cb) w _:=But.of_calls T0.below;clear T0 hc;go_enter Tryz.func80,Tryz.ntmps80
 go_wp2_with fail
 refine (zap cb K 9 _ hc0 (by omega) (by omega)).mono ?_;rintro e w1 ⟨x,rfl,hx,hc1,hB1⟩
 have hx':x < 9:=by omega
 have hr1:=hB1.row hr0 (by omega);have hBw1:=hB0.trans hB1;have HR1:=zaa hr1;have HB1:=zaa hBw1;clear hx hr0 hB0 hc0 hB1 hr1 hBw1
 go_wp2_with fail
 refine (zap cb (K + 2) 8 _ hc1 (by omega) (by omega)).mono ?_;rintro e w2 ⟨y,rfl,hy,hc2,hB2⟩
 have hy':y < 8:=by omega
 have HR2:=zaa (hB2.row HR1.out (by omega));have HB2:=zaa (HB1.out.trans hB2);clear hy hc1 HR1 HB1 hB2
 go_wp2_with fail
 refine (zap cb (K + 4) 4 _ hc2 (by omega) (by omega)).mono ?_;rintro e w3 ⟨z,rfl,hz,hc3,hB3⟩
 have hz':z < 4:=by omega
 have hr3:=hB3.row HR2.out (by omega);have hbw3:=HB2.out.trans hB3;have hbn:=zab w3 (.cells #[.int .i64 (x:Int),.int .i64 ((y:Int) - 1),.int .i64 ((z:Int) - 1)] 55);have hrn:(w3.alloc (.cells #[.int .i64 (x:Int),.int .i64 ((y:Int) - 1),.int .i64 ((z:Int) - 1)] 55)).rowIs w3.heap.size 55 3 (fun i=>(#[.int .i64 (x:Int),.int .i64 ((y:Int) - 1),.int .i64 ((z:Int) - 1)]:Array Value)[i]!):=zak w3 55 #[.int .i64 (x:Int),.int .i64 ((y:Int) - 1),.int .i64 ((z:Int) - 1)];have hc3':=hc3.but (Q:=fun _=>True) (But.of_calls hbn) fun _ _=>trivial;have HC3:=zaa hc3';have HR3:=zaa (zah hr3 hbn);have HB3:=zaa (hbw3.call hbn);have HRN:=zaa hrn;have hlt3:=hr3.lt;have hwe:w.heap.size + 1 < w3.heap.size:=hr3.lt;clear hz hc2 HR2 HB2 hB3 hr3 hbw3 hbn hrn hc3 hc3'
 go_wp2_with fail
 refine (zap cb (K + 6) 2 _ HC3.out (by omega) (by omega)).mono ?_;rintro e w4 ⟨q,rfl,hq,hc4,hB4⟩;obtain ⟨eb,heb⟩:∃ b,b = w3.heap.size:=⟨_,rfl⟩;rw [← heb] at HRN hwe ⊢;have hrn:=hB4.row HRN.out (by omega);have hrr:=hB4.row HR3.out (by omega);have HB4:=zaa (HB3.out.trans hB4);clear hB4 HRN HR3 HB3 HC3 heb hlt3;have q0:w4.cell? ⟨eb,0,none⟩ = some (.int .i64 (x:Int)):=hrn.cell (i:=0) (by omega);have q1:w4.cell? ⟨eb,1,none⟩ = some (.int .i64 ((y:Int) - 1)):=hrn.cell (i:=1) (by omega);have q2:w4.cell? ⟨eb,2,none⟩ = some (.int .i64 ((z:Int) - 1)):=hrn.cell (i:=2) (by omega);have z2:=hrn.frozen 2;have r0:=hrr.cell (i:=0) (by show 0 < 3; omega);have r1:=hrr.cell (i:=1) (by show 1 < 3; omega);have r2:=hrr.cell (i:=2) (by show 2 < 3; omega);have k0:=hrr.frozen 0;have k1:=hrr.frozen 1;have k2:=hrr.frozen 2
 have hfin:∀ (W:World) (op of lie:Int),But (fun c=>c ≠ eb) w4 W → EvS op of lie → ∃ o f l,Ending.returned (.agg #[.int .i64 op,.int .i64 of,.int .i64 lie]) = .returned (.agg #[.int .i64 o,.int .i64 f,.int .i64 l]) ∧ EvS o f l ∧ Cur (((W.setCell ⟨w.heap.size + 1,0,none⟩ (.int .i64 op)).setCell ⟨w.heap.size + 1,1,none⟩ (.int .i64 of)).setCell ⟨w.heap.size + 1,2,none⟩ (.int .i64 lie)) cb (K + 8) ∧ But (fun c=>c ≠ cb) w (((W.setCell ⟨w.heap.size + 1,0,none⟩ (.int .i64 op)).setCell ⟨w.heap.size + 1,1,none⟩ (.int .i64 of)).setCell ⟨w.heap.size + 1,2,none⟩ (.int .i64 lie)):=fun W op of lie hW hev=>by
  have hk:∀ o:Nat,¬ ((fun c=>c ≠ w.heap.size + 1) (⟨w.heap.size + 1,o,none⟩:Addr).block):=fun o z=>z rfl;have hB:=(((But.refl (fun c=>c ≠ w.heap.size + 1) W).setCell (hk 0) (.int .i64 op)).setCell (hk 1) (.int .i64 of)).setCell (hk 2) (.int .i64 lie);have hBW:But (fun c=>c < w.heap.size) w4 (((W.setCell ⟨w.heap.size + 1,0,none⟩ (.int .i64 op)).setCell ⟨w.heap.size + 1,1,none⟩ (.int .i64 of)).setCell ⟨w.heap.size + 1,2,none⟩ (.int .i64 lie)):=(hW.mono fun c _ hc=>by omega).trans (hB.mono fun c _ hc=>by omega);exact ⟨_,_,_,rfl,hev,hc4.but hBW fun c hc=>by omega,HB4.out.low (hBW.below HB4.out.size fun c hc=>hc)⟩
 have HFIN:=zaa hfin;clear hfin hrn hrr hc4;by_cases hq0:q = 0
 ·subst hq0;go_wp2;refine bodyPost_ret (v:=.agg #[.int .i64 (x:Int),.int .i64 ((y:Int) - 1),.int .i64 0]) (by simp [results,Tryz.results80,go_sem,r0,r1,r2]) rfl ?_;exact HFIN.out _ _ _ _ ((But.refl _ _).setCell (fun z=>z rfl) _) ⟨⟨by omega,by omega⟩,⟨by omega,by omega⟩,⟨by omega,by omega⟩⟩
 ·have hq0b:((q:Int) == 0) = false:=by simp; omega
  go_wp2;refine bodyPost_ret (v:=.agg #[.int .i64 (x:Int),.int .i64 ((y:Int) - 1),.int .i64 ((z:Int) - 1)]) (by simp [results,Tryz.results80,go_sem,r0,r1,r2]) rfl ?_;exact HFIN.out _ _ _ _ (But.refl _ _) ⟨⟨by omega,by omega⟩,⟨by omega,by omega⟩,⟨by omega,by omega⟩⟩
end Go.Proofs.YtdhinkgjiapigaaGreatDoor
namespace Go.Proofs.YtdhinkgjiapigaaGreatDoor
open Go.RowKit Go.Deep
open Classical
set_option maxRecDepth 100000 in
set_option maxHeartbeats 16000000 in
theorem zb6 (cb:Nat) (p1 p2 p3 f1 f2 f3:Value) (p:PlanD) (d:FrameD) (w:World) (hp:PlanAt (In w) w p1 p2 p3 p) (hf:FrameAt (In w) w f1 f2 f3 d) (hr:zas p d) :
  Calls Tryz.prog 132 #[.pointer (some ⟨cb,0,none⟩),.agg #[.int .i64 p.sections,p1,p2,p3,.int .i64 p.hold],.agg #[.bool d.ok,f1,f2,f3]] w fun e w'=>∃ op of lie:Int,e = .returned (.agg #[.int .i64 op,.int .i64 of,.int .i64 lie]) ∧ EvS op of lie ∧ Below w.heap.size w w':=by
 have KP:=zaa fun (W:World) (h:Below w.heap.size w W)=>hp.keep (Q:=In W) (In.keep h).1 (In.keep h).2;have KF:=zaa fun (W:World) (h:Below w.heap.size w W)=>hf.keep (Q:=In W) (In.keep h).1 (In.keep h).2;obtain ⟨a1,c1,rfl⟩:=hp.1.size;obtain ⟨a2,c2,rfl⟩:=hp.2.1.size;obtain ⟨a3,c3,rfl⟩:=hp.2.2.size;obtain ⟨o1,m1,rfl⟩:=hf.1.size;obtain ⟨o2,m2,rfl⟩:=hf.2.1.size;obtain ⟨o3,m3,rfl⟩:=hf.2.2.size;have HR:=zaa hr;obtain ⟨nw,hnw⟩:∃ m,m = d.ways.length:=⟨_,rfl⟩
 have hnw1:p.ways.length = nw:=by rw [hnw]; exact hr.2.2.2.2.1.symm
 have hnw2:nw ≤ 100:=by rw [← hnw1]; exact hr.1.parts.1.2.2.1
 have hs60:p.sections ≤ 60:=hr.1.parts.1.1.2;have HOL:=zaa hr.2.2.1;obtain ⟨no,hno⟩:∃ m,m = d.occ.length:=⟨_,rfl⟩;rw [← hno] at HOL;rw [← hnw,← hno,hnw1];have HNW:=zaa hnw;have HNW1:=zaa hnw1;have HNO:=zaa hno;have T0:=zbs w 27 40 55 #[.int .i64 p.sections,.slice a1 p.switches.length c1,.slice a2 nw c2,.slice a3 p.bars.length c3,.int .i64 p.hold] #[.bool d.ok,.slice o1 no m1,.slice o2 d.points.length m2,.slice o3 nw m3] #[.int .i64 0,.int .i64 0,.int .i64 0];have q3:=T0.cell (j:=1) (i:=3) rfl rfl;have HT0:=zaa T0;clear hp hf hr T0 hnw hnw1 hno;go_enter Tryz.func132,Tryz.ntmps132;go_wp2
 go_loopw [15] (fun z wr=>∃ i:Nat,i ≤ nw ∧ z = .int .i64 (i:Int) ∧ Boxes w [(27,#[.int .i64 p.sections,.slice a1 p.switches.length c1,.slice a2 nw c2,.slice a3 p.bars.length c3,.int .i64 p.hold]),(40,#[.bool d.ok,.slice o1 no m1,.slice o2 d.points.length m2,.slice o3 nw m3]),(55,#[.int .i64 0,.int .i64 0,.int .i64 0])] wr) (fun z _=>nw - (intOf z).toNat)
 case atStart=>exact ⟨0,by omega,rfl,HT0.out⟩
 case round=>
  obtain ⟨i,hi,rfl,hT⟩:=hrel;rename World=>wr;clear HT0 q3;have hret:∀ (W:World) (op of lie:Int),Boxes w [(27,#[.int .i64 p.sections,.slice a1 p.switches.length c1,.slice a2 nw c2,.slice a3 p.bars.length c3,.int .i64 p.hold]),(40,#[.bool d.ok,.slice o1 no m1,.slice o2 d.points.length m2,.slice o3 nw m3]),(55,#[.int .i64 0,.int .i64 0,.int .i64 0])] W → EvS op of lie → ∃ o f l:Int,Ending.returned (.agg #[.int .i64 op,.int .i64 of,.int .i64 lie]) = .returned (.agg #[.int .i64 o,.int .i64 f,.int .i64 l]) ∧ EvS o f l ∧ Below w.heap.size w (((W.setCell ⟨w.heap.size + 2,0,none⟩ (.int .i64 op)).setCell ⟨w.heap.size + 2,1,none⟩ (.int .i64 of)).setCell ⟨w.heap.size + 2,2,none⟩ (.int .i64 lie)):=fun W op of lie hW hev=>⟨_,_,_,rfl,hev,((hW.below.setCell (by show w.heap.size ≤ w.heap.size + 2; omega) _).setCell (by show w.heap.size ≤ w.heap.size + 2; omega) _).setCell (by show w.heap.size ≤ w.heap.size + 2; omega) _⟩;have HRET:=zaa hret;clear hret;by_cases hlt:i < nw
  ·have hlti:decide ((i:Int) < (nw:Int)) = true:=decide_eq_true (by omega)
   have hinw:(i:Int) < (nw:Int):=by omega
   obtain ⟨x,hx⟩:=zac p.ways HNW1 hlt;obtain ⟨h,hh⟩:=zac d.ways (zaa HNW.out.symm) hlt;have hwr:=HR.out.2.2.2.2.2.2.1 i (by have:=HNW.out; omega) x h hx hh;have hok:=HR.out.1.way hx;obtain ⟨-,⟨aw,kw,ew,hcw⟩,-⟩:=KP.out wr hT.below;obtain ⟨⟨ao,ko,eo,hco⟩,-,⟨af,kf,ef,hcf⟩⟩:=KF.out wr hT.below;obtain h0 | ⟨bw,ofw,rfl,-,hcw⟩:=hcw
   ·have:=HNW1.out; omega
   obtain h0 | ⟨bf,off,rfl,-,hcf⟩:=hcf
   ·have:=HNW.out; omega
   cases ew
   cases ef
   cases eo
   obtain ⟨v0,w1,w2,w3,w4,hWA,g0,-⟩:=hcw i (by have:=HNW1.out; omega) x hx;obtain ⟨u2,hbe,j0,j1,j2,j3,j4⟩:=hcf i (by have:=HNW.out; omega) h hh;have HSE:=zaa hWA.1;have HBE:=zaa hbe;obtain ⟨a0,k0,rfl⟩:=hWA.1.size;obtain ⟨ab,kb,rfl⟩:=hbe.size;have hbl:=hwr.1.2.1;obtain ⟨n0,hn0⟩:∃ m,m = x.sections.length:=⟨_,rfl⟩;rw [hbl] at j2;rw [← hn0] at g0 j2
   have hn30:n0 ≤ 30:=by rw [hn0]; exact hok.2.1.2
   have HN0:=zaa hn0;have HBL:=zaa hbl;have HOK:=zaa hok;have HCO:=zaa hco;have hbn:=zab wr (.cells #[.int .i64 h.state,.int .i64 h.gone,.slice ab n0 kb,.bool h.shown,.int .i64 h.timer] 44);have T1:=hT.call hbn;have hrn:(wr.alloc (.cells #[.int .i64 h.state,.int .i64 h.gone,.slice ab n0 kb,.bool h.shown,.int .i64 h.timer] 44)).rowIs wr.heap.size 44 5 (fun i=>(#[.int .i64 h.state,.int .i64 h.gone,.slice ab n0 kb,.bool h.shown,.int .i64 h.timer]:Array Value)[i]!):=zak wr 44 #[.int .i64 h.state,.int .i64 h.gone,.slice ab n0 kb,.bool h.shown,.int .i64 h.timer];have b0:(wr.alloc (.cells #[.int .i64 h.state,.int .i64 h.gone,.slice ab n0 kb,.bool h.shown,.int .i64 h.timer] 44)).cell? ⟨wr.heap.size,0,none⟩ = some (.int .i64 h.state):=hrn.cell (i:=0) (by omega);have y2:=T1.cell (j:=0) (i:=2) rfl rfl;rw [Nat.add_zero] at y2;have g0':=hbn.cell (p:=⟨bw,ofw + i * 5,none⟩) (World.block_lt_of_cell? _ _ g0);rw [g0] at g0';have HT1:=zaa T1;have HBN:=zaa hbn;have HRN:=zaa hrn;have HT:=zaa hT;clear hx hh hwr hok hcw hcf hco hWA hbe hn0 hbl hbn T1 hrn hT;by_cases hs0:h.state = 0
   ·have s0b:(h.state == 0) = true:=by simp [hs0]
    have HS0:=zaa hs0;clear hs0;go_wp2;go_roundw
    case rel=>exact ⟨i + 1,by omega,by go_num,HT1.out⟩
    case measure=>simp [intOf]; omega
   have s0b:(h.state == 0) = false:=by simp [hs0]
   by_cases hs1:h.state = 1
   ·have s1b:(h.state == 1) = true:=by simp [hs1]
    have HS1:=zaa hs1;clear hs0 hs1;go_wp2;go_roundw
    case rel=>exact ⟨i + 1,by omega,by go_num,HT1.out⟩
    case measure=>simp [intOf]; omega
   have s1b:(h.state == 1) = false:=by simp [hs1]
   clear hs0 hs1;go_wp2;obtain ⟨wA,hwA⟩:∃ W,W = wr.alloc (.cells #[.int .i64 h.state,.int .i64 h.gone,.slice ab n0 kb,.bool h.shown,.int .i64 h.timer] 44):=⟨_,rfl⟩;obtain ⟨hb,hhb⟩:∃ b,b = wr.heap.size:=⟨_,rfl⟩;rw [← hwA] at HT1 HBN HRN ⊢;rw [← hhb] at HRN ⊢;clear hwA hhb b0 g0' y2 s0b s1b
   go_loopw [36] (fun z wx=>∃ k:Nat,k ≤ n0 ∧ z = .int .i64 (k:Int) ∧ Below wA.heap.size wA wx) (fun z _=>n0 - (intOf z).toNat)
   case atStart=>exact ⟨0,by omega,rfl,Below.refl _ _⟩
   case round=>
    obtain ⟨k,hk,rfl,hbx⟩:=hrel;rename World=>wx;by_cases hltk:k < n0
    ·have hltki:decide ((k:Int) < (n0:Int)) = true:=decide_eq_true (by omega)
     have hkn:(k:Int) < (n0:Int):=by omega
     have hBX:Below wr.heap.size wr wx:=HBN.out.trans (hbx.mono HBN.out.size)
     have hcx:∀ b o v,wr.cell? ⟨b,o,none⟩ = some v → wx.cell? ⟨b,o,none⟩ = some v:=fun b o v hv=>by rw [hBX.cell (p:=⟨b,o,none⟩) (World.block_lt_of_cell? _ _ hv)]; exact hv
     obtain ⟨s,hs⟩:=zac x.sections (zaa HN0.out.symm) hltk;obtain ⟨asx,ks,es,h0 | ⟨bs,os,rfl,-,hcs⟩⟩:=HSE.out
     ·have:=HN0.out; omega
     cases es
     have hsr:=HOK.out.2.1.mem (List.mem_of_getElem? hs);have hs0:0 ≤ s:=hsr.1
     have hs1:s < (no:Int):=by have:=HOL.out; have:=hsr.2; omega
     have hs60':s ≤ 60:=by have:=hsr.2; omega
     obtain h0 | ⟨bo,oo,rfl,-,hco⟩:=HCO.out
     ·have:=HNO.out; omega
     obtain ⟨o,ho⟩:∃ o,d.occ[s.toNat]? = some o:=⟨d.occ[s.toNat]'(by have:=HNO.out; omega),List.getElem?_eq_getElem _⟩;have x0:=hcx _ _ _ (hcs k (by have:=HN0.out; omega) s hs);have oc:=hcx _ _ _ (hco s.toNat (by have:=HNO.out; omega) o ho);have TX:=HT1.out.call hbx;have y1:=TX.cell (j:=1) (i:=1) rfl rfl;have b0:wx.cell? ⟨hb,0,none⟩ = some (.int .i64 h.state):=(zah HRN.out hbx).cell (i:=0) (by omega)
     have hnx:k + 1 < n0 → ∃ s2 o2,wx.cell? ⟨bs,os + (k + 1),none⟩ = some (.int .i64 s2) ∧ 0 ≤ s2 ∧ s2 < (no:Int) ∧ wx.cell? ⟨bo,oo + s2.toNat,none⟩ = some (.bool o2):=fun hk1=>by
      obtain ⟨s2,hs2⟩:=zac x.sections (zaa HN0.out.symm) hk1;have hsr2:=HOK.out.2.1.mem (List.mem_of_getElem? hs2)
      have hs3:s2 < (no:Int):=by have:=HOL.out; have:=hsr2.2; omega
      obtain ⟨o2,ho2⟩:∃ o,d.occ[s2.toNat]? = some o:=⟨d.occ[s2.toNat]'(by have:=HNO.out; have:=hsr2.1; omega),List.getElem?_eq_getElem _⟩;exact ⟨s2,o2,hcx _ _ _ (hcs (k + 1) (by have:=HN0.out; omega) s2 hs2),hsr2.1,hs3,hcx _ _ _ (hco s2.toNat (by have:=HNO.out; have:=hsr2.1; omega) o2 ho2)⟩
     have HNX:=zaa hnx;have HTX:=zaa TX;have HBX:=zaa hBX;clear hcx hs hcs hsr hco ho TX hnx hBX
     go_upto_region 9 with fail
     go_cut [68] (fun v wc=>∃ b:Bool,v = .bool b ∧ Below wx.heap.size wx wc)
     case first=>
      by_cases h4:h.state = 4
      ·have h4b:(h.state == 4) = true:=by simp [h4]
       have H4:=zaa h4;clear h4
       cases o
       ·go_quiet (fail)
        go_wp2;go_meet
        case rel=>exact ⟨_,rfl,zan _ _⟩
       ·by_cases kl:k + 1 = n0
        ·have klb:((k:Int) == (n0:Int) - 1) = true:=by simp; omega
         have KL:=zaa kl;clear kl
         go_quiet (fail)
         go_wp2;go_meet
         case rel=>exact ⟨_,rfl,zan _ _⟩
        ·have klb:((k:Int) == (n0:Int) - 1) = false:=by simp; omega
         obtain ⟨s2,o2,x1,hs20,hs21,oc2⟩:=HNX.out (by omega)
         have hk1n:(k:Int) + 1 < (n0:Int):=by omega
         clear kl
         go_quiet (fail)
         go_wp2;go_meet
         case rel=>exact ⟨_,rfl,zan _ _⟩
      ·have h4b:(h.state == 4) = false:=by simp [h4]
       clear h4
       go_quiet (fail)
       go_wp2;go_meet
       case rel=>exact ⟨_,rfl,zan _ _⟩
     case rest=>
      obtain ⟨b,rfl,hbc⟩:=hcut;have TC:=HTX.out.call hbc;have r0:=(TC.row 2 _ _ rfl).cell (i:=0) (by show 0 < 3; omega);have r1:=(TC.row 2 _ _ rfl).cell (i:=1) (by show 1 < 3; omega);have r2:=(TC.row 2 _ _ rfl).cell (i:=2) (by show 2 < 3; omega);have k0:=(TC.row 2 _ _ rfl).frozen 0;have k1:=(TC.row 2 _ _ rfl).frozen 1;have k2:=(TC.row 2 _ _ rfl).frozen 2;have hbw:Below wA.heap.size wA wc:=hbx.trans (hbc.mono hbx.size);have b1:wc.cell? ⟨hb,1,none⟩ = some (.int .i64 h.gone):=(zah HRN.out hbw).cell (i:=1) (by omega);have b2:wc.cell? ⟨hb,2,none⟩ = some (.slice ab n0 kb):=(zah HRN.out hbw).cell (i:=2) (by omega);have HTC:=zaa TC;have HBW:=zaa hbw;have hbe2:=HBE.out.keep (za0 (HBX.out.trans (hbc.mono HBX.out.size)) fun b (hb:b < wr.heap.size)=>hb) (Q:=fun _=>True) fun _ _=>trivial;clear TC hbw hbx hbc x0 oc y1 b0 HNX HTX
      cases b
      ·obtain ⟨ae,ke,ee,h0 | ⟨be,oe,rfl,-,hce⟩⟩:=hbe2
       ·have:=HBL.out; have:=HN0.out; omega
       cases ee
       obtain ⟨bb,hbb⟩:=zac h.been (zaa (HBL.out.trans HN0.out.symm)) hltk;have e0:=hce k (by have:=HBL.out; have:=HN0.out; omega) bb hbb;clear hce hbb;by_cases hg:h.gone ≤ (k:Int)
       ·have hgb:decide (h.gone ≤ (k:Int)) = true:=decide_eq_true hg
        cases bb
        ·go_wp2;refine bodyPost_ret (v:=.agg #[.int .i64 3,.int .i64 s,.int .i64 0]) (by simp [results,Tryz.results132,go_sem,r0,r1,r2]) rfl ?_;exact HRET.out _ _ _ _ HTC.out ⟨⟨by omega,by omega⟩,⟨by omega,by omega⟩,⟨by omega,by omega⟩⟩
        ·go_wp2;go_roundw
         case rel=>exact ⟨k + 1,by omega,by go_num,HBW.out⟩
         case measure=>simp [intOf]; omega
       ·have hgb:decide (h.gone ≤ (k:Int)) = false:=decide_eq_false hg;go_wp2;go_roundw
        case rel=>exact ⟨k + 1,by omega,by go_num,HBW.out⟩
        case measure=>simp [intOf]; omega
      ·go_wp2;refine bodyPost_ret (v:=.agg #[.int .i64 4,.int .i64 s,.int .i64 0]) (by simp [results,Tryz.results132,go_sem,r0,r1,r2]) rfl ?_;exact HRET.out _ _ _ _ HTC.out ⟨⟨by omega,by omega⟩,⟨by omega,by omega⟩,⟨by omega,by omega⟩⟩
    ·have hltki:decide ((k:Int) < (n0:Int)) = false:=decide_eq_false (by omega);go_wp2;go_roundw
     case rel=>exact ⟨i + 1,by omega,by go_num,HT1.out.call hbx⟩
     case measure=>simp [intOf]; omega
  ·have hlti:decide ((i:Int) < (nw:Int)) = false:=decide_eq_false (by omega);have r0:=(hT.row 2 _ _ rfl).cell (i:=0) (by show 0 < 3; omega);have r1:=(hT.row 2 _ _ rfl).cell (i:=1) (by show 1 < 3; omega);have r2:=(hT.row 2 _ _ rfl).cell (i:=2) (by show 2 < 3; omega);have k0:=(hT.row 2 _ _ rfl).frozen 0;have k1:=(hT.row 2 _ _ rfl).frozen 1;have k2:=(hT.row 2 _ _ rfl).frozen 2;have HTT:=zaa hT;clear hT;go_wp2;refine bodyPost_ret (v:=.agg #[.int .i64 1,.int .i64 0,.int .i64 0]) (by simp [results,Tryz.results132,go_sem,r0,r1,r2]) rfl ?_;exact HRET.out _ _ _ _ HTT.out ⟨⟨by omega,by omega⟩,⟨by omega,by omega⟩,⟨by omega,by omega⟩⟩
end Go.Proofs.YtdhinkgjiapigaaGreatDoor
namespace Go.Proofs.YtdhinkgjiapigaaGreatDoor
open Go.RowKit Go.Deep
open Classical
structure EvB (w:World) (cb K:Nat) (pc fc:Array Value) (W:World):Prop where
 but:But (fun c=>c ≠ cb) w W
 cur:Cur W cb K
 plan:W.rowIs w.heap.size 27 5 (fun i=>pc[i]!)
 frame:W.rowIs (w.heap.size + 1) 40 4 (fun i=>fc[i]!)
 ev:W.rowIs (w.heap.size + 2) 55 3 (fun i=>(#[.int .i64 0,.int .i64 0,.int .i64 0]:Array Value)[i]!)
 hcb:cb < w.heap.size
theorem EvB.pick {w:World} {cb K L:Nat} {pc fc:Array Value} {W W':World} (h:EvB w cb K pc fc W) (hB:But (fun c=>c ≠ cb) W W') (hc:Cur W' cb L):EvB w cb L pc fc W':=by
 have h1:=h.hcb;exact ⟨h.but.trans hB,hc,hB.row h.plan (by omega),hB.row h.frame (by omega),hB.row h.ev (by omega),h.hcb⟩
theorem EvB.call {w:World} {cb K:Nat} {pc fc:Array Value} {W W':World} (h:EvB w cb K pc fc W) (hb:Below W.heap.size W W'):EvB w cb K pc fc W':=
 ⟨h.but.call hb,h.cur.but (Q:=fun _=>True) (But.of_calls hb) fun _ _=>trivial,zah h.plan hb,zah h.frame hb,zah h.ev hb,h.hcb⟩
theorem EvB.mono {w:World} {cb K L:Nat} {pc fc:Array Value} {W:World} (h:EvB w cb K pc fc W) (hk:K ≤ L):EvB w cb L pc fc W:=⟨h.but,h.cur.mono hk,h.plan,h.frame,h.ev,h.hcb⟩
theorem EvB.ret {w:World} {cb K L:Nat} {pc fc:Array Value} {W:World} (h:EvB w cb K pc fc W) (hk:K ≤ L) (op of lie:Int) (hev:EvS op of lie):∃ o f l:Int,Ending.returned (.agg #[.int .i64 op,.int .i64 of,.int .i64 lie]) = .returned (.agg #[.int .i64 o,.int .i64 f,.int .i64 l]) ∧ EvS o f l ∧ Cur (((W.setCell ⟨w.heap.size + 2,0,none⟩ (.int .i64 op)).setCell ⟨w.heap.size + 2,1,none⟩ (.int .i64 of)).setCell ⟨w.heap.size + 2,2,none⟩ (.int .i64 lie)) cb L ∧ But (fun c=>c ≠ cb) w (((W.setCell ⟨w.heap.size + 2,0,none⟩ (.int .i64 op)).setCell ⟨w.heap.size + 2,1,none⟩ (.int .i64 of)).setCell ⟨w.heap.size + 2,2,none⟩ (.int .i64 lie)):=by
 have h1:=h.hcb;have hk2:∀ o:Nat,¬ ((fun c=>c ≠ w.heap.size + 2) (⟨w.heap.size + 2,o,none⟩:Addr).block):=fun o z=>z rfl;have hB:=(((But.refl (fun c=>c ≠ w.heap.size + 2) W).setCell (hk2 0) (.int .i64 op)).setCell (hk2 1) (.int .i64 of)).setCell (hk2 2) (.int .i64 lie);exact ⟨_,_,_,rfl,hev,(h.cur.but hB fun c hc=>by omega).mono hk,h.but.low (hB.below h.but.size fun c hc=>by omega)⟩
set_option maxRecDepth 100000 in
set_option maxHeartbeats 32000000 in
theorem zj0 (cb K:Nat) (p1 p2 p3 f1 f2 f3:Value) (p:PlanD) (d:FrameD) (w:World) (hc:Cur w cb K) (hK:K ≤ 1000000) (hp:PlanAt (fun b=>b < w.heap.size ∧ b ≠ cb) w p1 p2 p3 p) (hf:FrameAt (fun b=>b < w.heap.size ∧ b ≠ cb) w f1 f2 f3 d) (hr:zas p d) :
  Calls Tryz.prog 79 #[.pointer (some ⟨cb,0,none⟩),.agg #[.int .i64 p.sections,p1,p2,p3,.int .i64 p.hold],.agg #[.bool d.ok,f1,f2,f3]] w fun e w'=>∃ op of lie:Int,e = .returned (.agg #[.int .i64 op,.int .i64 of,.int .i64 lie]) ∧ EvS op of lie ∧ Cur w' cb (K + 10) ∧ But (fun c=>c ≠ cb) w w':=by
 have hcb:=hc.lt;have KP:=zaa fun (W:World) (h:But (fun c=>c ≠ cb) w W)=>hp.keep (Q:=In W) (h.same fun b hb=>hb) fun b hb=>Nat.lt_of_lt_of_le hb.1 h.size;have KF:=zaa fun (W:World) (h:But (fun c=>c ≠ cb) w W)=>hf.keep (Q:=In W) (h.same fun b hb=>hb) fun b hb=>Nat.lt_of_lt_of_le hb.1 h.size;obtain ⟨a1,c1,rfl⟩:=hp.1.size;obtain ⟨a2,c2,rfl⟩:=hp.2.1.size;obtain ⟨a3,c3,rfl⟩:=hp.2.2.size;obtain ⟨o1,m1,rfl⟩:=hf.1.size;obtain ⟨o2,m2,rfl⟩:=hf.2.1.size;obtain ⟨o3,m3,rfl⟩:=hf.2.2.size;have HR:=zaa hr;have hs60:=hr.1.parts.1.1;obtain ⟨nsec,hnsec⟩:∃ m:Nat,p.sections = (m:Int):=⟨p.sections.toNat,by have:=hs60.1; omega⟩
 have hn1:1 ≤ nsec:=by have:=hs60.1; omega
 have hn60:nsec ≤ 60:=by have:=hs60.2; omega
 have HNS:=zaa hnsec;obtain ⟨ns,hns⟩:∃ m,m = p.switches.length:=⟨_,rfl⟩;obtain ⟨nw,hnw⟩:∃ m,m = p.ways.length:=⟨_,rfl⟩;obtain ⟨np,hnp⟩:∃ m,m = d.points.length:=⟨_,rfl⟩
 have hns40:ns ≤ 40:=by rw [hns]; exact hr.1.parts.1.2.1
 have hnw100:nw ≤ 100:=by rw [hnw]; exact hr.1.parts.1.2.2.1
 rw [← hns,← hnw] at KP ⊢;rw [← hnp] at KF ⊢;have HNP:=zaa hnp;have T0:=zbs w 27 40 55 #[.int .i64 p.sections,.slice a1 ns c1,.slice a2 nw c2,.slice a3 p.bars.length c3,.int .i64 p.hold] #[.bool d.ok,.slice o1 d.occ.length m1,.slice o2 np m2,.slice o3 d.ways.length m3] #[.int .i64 0,.int .i64 0,.int .i64 0];have hE0:EvB w cb (K) #[.int .i64 p.sections,.slice a1 ns c1,.slice a2 nw c2,.slice a3 p.bars.length c3,.int .i64 p.hold] #[.bool d.ok,.slice o1 d.occ.length m1,.slice o2 np m2,.slice o3 d.ways.length m3] _:=⟨But.of_calls T0.below,hc.but (Q:=fun _=>True) (But.of_calls T0.below) fun _ _=>trivial,T0.row 0 _ _ rfl,T0.row 1 _ _ rfl,T0.row 2 _ _ rfl,hcb⟩;have q2:=T0.cell (j:=0) (i:=2) rfl rfl;rw [Nat.add_zero] at q2;have HE0:=zaa hE0;clear hp hf hr T0 hE0 hnsec hns hnw hnp hs60 hc;go_enter Tryz.func79,Tryz.ntmps79
 go_upto_if 13 with fail
 go_cut [7] (fun v wc=>∃ x:Nat,v = .int .i64 (x:Int) ∧ x ≤ 100 ∧ EvB w cb (K + 2) #[.int .i64 p.sections,.slice a1 ns c1,.slice a2 nw c2,.slice a3 p.bars.length c3,.int .i64 p.hold] #[.bool d.ok,.slice o1 d.occ.length m1,.slice o2 np m2,.slice o3 d.ways.length m3] wc)
 case first=>
  by_cases h0:0 < nw
  ·have h0b:decide ((0:Int) < (nw:Int)) = true:=decide_eq_true (by omega)
   go_wp2_with fail
   refine (zap cb K nw _ HE0.out.cur (by omega) (by omega)).mono ?_;rintro e w1 ⟨x,rfl,hx,hc1,hB1⟩;have HE1:=zaa (HE0.out.pick hB1 hc1)
   have hx':x ≤ 100:=by omega
   clear hx hc1 hB1 HE0;go_wp2;go_meet
   case rel=>exact ⟨x,rfl,hx',HE1.out⟩
  ·have h0b:decide ((0:Int) < (nw:Int)) = false:=decide_eq_false (by omega);go_wp2;go_meet
   case rel=>exact ⟨0,rfl,by omega,HE0.out.mono (by omega)⟩
 case rest=>
  obtain ⟨xw,rfl,hxw,hE⟩:=hcut;have q0:wc.cell? ⟨w.heap.size,0,none⟩ = some (.int .i64 p.sections):=hE.plan.cell (i:=0) (by omega);rw [HNS.out] at q0;have HE:=zaa hE;clear hE HE0 q2
  go_upto_if 21 with fail
  go_cut [8] (fun v wc=>∃ x:Nat,v = .int .i64 (x:Int) ∧ x ≤ 100 ∧ EvB w cb (K + 4) #[.int .i64 p.sections,.slice a1 ns c1,.slice a2 nw c2,.slice a3 p.bars.length c3,.int .i64 p.hold] #[.bool d.ok,.slice o1 d.occ.length m1,.slice o2 np m2,.slice o3 d.ways.length m3] wc)
  case first=>
   have h0b:decide ((0:Int) < (nsec:Int)) = true:=decide_eq_true (by omega)
   go_wp2_with fail
   refine (zap cb (K + 2) nsec _ HE.out.cur (by omega) (by omega)).mono ?_;rintro e w1 ⟨x,rfl,hx,hc1,hB1⟩;have HE1:=zaa (HE.out.pick hB1 hc1)
   have hx':x ≤ 100:=by omega
   clear hx hc1 hB1 HE;go_wp2;go_meet
   case rel=>exact ⟨x,rfl,hx',HE1.out⟩
  case rest=>
   obtain ⟨xs,rfl,hxs,hE⟩:=hcut;rename World=>wd;have q1:wd.cell? ⟨w.heap.size,1,none⟩ = some (.slice a1 ns c1):=hE.plan.cell (i:=1) (by omega);clear HE q0;have HE:=zaa hE;clear hE
   go_upto_if 29 with fail
   go_cut [9] (fun v wc=>∃ x:Nat,v = .int .i64 (x:Int) ∧ x ≤ 100 ∧ EvB w cb (K + 6) #[.int .i64 p.sections,.slice a1 ns c1,.slice a2 nw c2,.slice a3 p.bars.length c3,.int .i64 p.hold] #[.bool d.ok,.slice o1 d.occ.length m1,.slice o2 np m2,.slice o3 d.ways.length m3] wc)
   case first=>
    by_cases h0:0 < ns
    ·have h0b:decide ((0:Int) < (ns:Int)) = true:=decide_eq_true (by omega)
     go_wp2_with fail
     refine (zap cb (K + 4) ns _ HE.out.cur (by omega) (by omega)).mono ?_;rintro e w1 ⟨x,rfl,hx,hc1,hB1⟩;have HE1:=zaa (HE.out.pick hB1 hc1)
     have hx':x ≤ 100:=by omega
     clear hx hc1 hB1 HE;go_wp2;go_meet
     case rel=>exact ⟨x,rfl,hx',HE1.out⟩
    ·have h0b:decide ((0:Int) < (ns:Int)) = false:=decide_eq_false (by omega);go_wp2;go_meet
     case rel=>exact ⟨0,rfl,by omega,HE.out.mono (by omega)⟩
   case rest=>
    obtain ⟨xp,rfl,hxp,hE⟩:=hcut;rename World=>we;clear q1 HE;have HE:=zaa hE;clear hE
    go_wp2_with fail
    refine (zap cb (K + 6) 20 _ HE.out.cur (by omega) (by omega)).mono ?_;rintro e wf ⟨r,rfl,hr,hc1,hB1⟩;have hE:=HE.out.pick hB1 hc1
    have hr20:r < 20:=by omega
    clear hr hc1 hB1 HE;have r0:=hE.ev.cell (i:=0) (by omega);have r1:=hE.ev.cell (i:=1) (by omega);have r2:=hE.ev.cell (i:=2) (by omega);have k0:=hE.ev.frozen 0;have k1:=hE.ev.frozen 1;have k2:=hE.ev.frozen 2;have HE:=zaa hE;clear hE
    have hcases:(r = 0 ∨ r = 1 ∨ r = 2 ∨ r = 3) ∨ (r = 4 ∨ r = 5) ∨ (r = 6 ∨ r = 7) ∨ (r = 8 ∨ r = 9) ∨ r = 10 ∨ (r = 11 ∨ r = 12) ∨ (r = 13 ∨ r = 14 ∨ r = 15) ∨ r = 16 ∨ (r = 17 ∨ r = 18 ∨ r = 19):=by omega
    clear hr20;rcases hcases with h | h | h | h | h | h | h | h | h
    ·rcases h with rfl | rfl | rfl | rfl
     all_goals
      go_wp2;refine bodyPost_ret (v:=.agg #[.int .i64 1,.int .i64 (xw:Int),.int .i64 0]) (by simp [results,Tryz.results79,go_sem,r0,r1,r2]) rfl ?_;exact HE.out.ret (by omega) _ _ _ ⟨⟨by omega,by omega⟩,⟨by omega,by omega⟩,⟨by omega,by omega⟩⟩
    ·rcases h with rfl | rfl
     all_goals
      go_wp2;refine bodyPost_ret (v:=.agg #[.int .i64 2,.int .i64 (xw:Int),.int .i64 0]) (by simp [results,Tryz.results79,go_sem,r0,r1,r2]) rfl ?_;exact HE.out.ret (by omega) _ _ _ ⟨⟨by omega,by omega⟩,⟨by omega,by omega⟩,⟨by omega,by omega⟩⟩
    ·rcases h with rfl | rfl
     all_goals
      go_wp2;refine bodyPost_ret (v:=.agg #[.int .i64 3,.int .i64 (xs:Int),.int .i64 0]) (by simp [results,Tryz.results79,go_sem,r0,r1,r2]) rfl ?_;exact HE.out.ret (by omega) _ _ _ ⟨⟨by omega,by omega⟩,⟨by omega,by omega⟩,⟨by omega,by omega⟩⟩
    ·rcases h with rfl | rfl
     all_goals
      go_wp2;refine bodyPost_ret (v:=.agg #[.int .i64 4,.int .i64 (xs:Int),.int .i64 0]) (by simp [results,Tryz.results79,go_sem,r0,r1,r2]) rfl ?_;exact HE.out.ret (by omega) _ _ _ ⟨⟨by omega,by omega⟩,⟨by omega,by omega⟩,⟨by omega,by omega⟩⟩
    ·subst h
     go_wp2_with fail
     refine (zap cb (K + 8) 2 _ HE.out.cur (by omega) (by omega)).mono ?_;rintro e wg ⟨x,rfl,hx,hc1,hB1⟩;have hE:=HE.out.pick hB1 hc1
     have hx3:x < 2:=by omega
     clear hx hc1 hB1 HE r0 r1 r2 k0 k1 k2;have r0:=hE.ev.cell (i:=0) (by omega);have r1:=hE.ev.cell (i:=1) (by omega);have r2:=hE.ev.cell (i:=2) (by omega);have k0:=hE.ev.frozen 0;have k1:=hE.ev.frozen 1;have k2:=hE.ev.frozen 2;have HE:=zaa hE;clear hE;go_wp2;refine bodyPost_ret (v:=.agg #[.int .i64 6,.int .i64 (xp:Int),.int .i64 (1 + (x:Int))]) (by simp [results,Tryz.results79,go_sem,r0,r1,r2]) rfl ?_;exact HE.out.ret (by omega) _ _ _ ⟨⟨by omega,by omega⟩,⟨by omega,by omega⟩,⟨by omega,by omega⟩⟩
    ·rcases h with rfl | rfl
     all_goals
      go_wp2;refine bodyPost_ret (v:=.agg #[.int .i64 7,.int .i64 0,.int .i64 0]) (by simp [results,Tryz.results79,go_sem,r0,r1,r2]) rfl ?_;exact HE.out.ret (by omega) _ _ _ ⟨⟨by omega,by omega⟩,⟨by omega,by omega⟩,⟨by omega,by omega⟩⟩
    ·rcases h with rfl | rfl | rfl
     all_goals
      have t7:wf.cell? ⟨w.heap.size + 1,2,none⟩ = some (.slice o2 np m2):=HE.out.frame.cell (i:=2) (by omega);by_cases hpt:xp < np
      ·have hptb:decide ((xp:Int) < (np:Int)) = true:=decide_eq_true (by omega)
       have hpti:(xp:Int) < (np:Int):=by omega
       obtain ⟨-,⟨ap,kp,ep,h0 | ⟨bp,op,rfl,-,hcp⟩⟩,-⟩:=KF.out _ HE.out.but
       ·have:=HNP.out; omega
       cases ep
       obtain ⟨x,hx⟩:=zac d.points (zaa HNP.out.symm) hpt;have x0:=(hcp xp (by have:=HNP.out; omega) x hx).1;have hx1:=(HR.out.2.2.2.2.2.1 xp x hx).1;have hx10:=hx1.1;have hx11:=hx1.2;clear hcp hx hx1;go_wp2;refine bodyPost_ret (v:=.agg #[.int .i64 5,.int .i64 (xp:Int),.int .i64 x.1]) (by simp [results,Tryz.results79,go_sem,r0,r1,r2]) rfl ?_;exact HE.out.ret (by omega) _ _ _ ⟨⟨by omega,by omega⟩,⟨by omega,by omega⟩,⟨by omega,by omega⟩⟩
      ·have hptb:decide ((xp:Int) < (np:Int)) = false:=decide_eq_false (by omega);have t0:wf.cell? ⟨w.heap.size,0,none⟩ = some (.int .i64 p.sections):=HE.out.plan.cell (i:=0) (by omega);have t1:wf.cell? ⟨w.heap.size,1,none⟩ = some (.slice a1 ns c1):=HE.out.plan.cell (i:=1) (by omega);have t2:wf.cell? ⟨w.heap.size,2,none⟩ = some (.slice a2 nw c2):=HE.out.plan.cell (i:=2) (by omega);have t3:wf.cell? ⟨w.heap.size,3,none⟩ = some (.slice a3 p.bars.length c3):=HE.out.plan.cell (i:=3) (by omega);have t4:wf.cell? ⟨w.heap.size,4,none⟩ = some (.int .i64 p.hold):=HE.out.plan.cell (i:=4) (by omega);have t5:wf.cell? ⟨w.heap.size + 1,0,none⟩ = some (.bool d.ok):=HE.out.frame.cell (i:=0) (by omega);have t6:wf.cell? ⟨w.heap.size + 1,1,none⟩ = some (.slice o1 d.occ.length m1):=HE.out.frame.cell (i:=1) (by omega);have t7:wf.cell? ⟨w.heap.size + 1,2,none⟩ = some (.slice o2 np m2):=HE.out.frame.cell (i:=2) (by omega);have t8:wf.cell? ⟨w.heap.size + 1,3,none⟩ = some (.slice o3 d.ways.length m3):=HE.out.frame.cell (i:=3) (by omega)
       go_wp2_with fail
       refine (zb6 cb _ _ _ _ _ _ p d wf (KP.out _ HE.out.but) (KF.out _ HE.out.but) HR.out).mono ?_;rintro e wg ⟨op,of,lie,rfl,hev,hbg⟩;have hE:=HE.out.call hbg;clear HE r0 r1 r2 k0 k1 k2 hbg t0 t1 t2 t3 t4 t5 t6 t7 t8;have r0:=hE.ev.cell (i:=0) (by omega);have r1:=hE.ev.cell (i:=1) (by omega);have r2:=hE.ev.cell (i:=2) (by omega);have k0:=hE.ev.frozen 0;have k1:=hE.ev.frozen 1;have k2:=hE.ev.frozen 2;have HE:=zaa hE;have HEV:=zaa hev;clear hE hev;go_wp2;refine bodyPost_ret (v:=.agg #[.int .i64 op,.int .i64 of,.int .i64 lie]) (by simp [results,Tryz.results79,go_sem,r0,r1,r2]) rfl ?_;exact HE.out.ret (by omega) _ _ _ HEV.out
    ·subst h
     go_wp2_with fail
     refine (zap cb (K + 8) 3 _ HE.out.cur (by omega) (by omega)).mono ?_;rintro e wg ⟨x,rfl,hx,hc1,hB1⟩;have hE:=HE.out.pick hB1 hc1
     have hx3:x < 3:=by omega
     clear hx hc1 hB1 HE r0 r1 r2 k0 k1 k2;have r0:=hE.ev.cell (i:=0) (by omega);have r1:=hE.ev.cell (i:=1) (by omega);have r2:=hE.ev.cell (i:=2) (by omega);have k0:=hE.ev.frozen 0;have k1:=hE.ev.frozen 1;have k2:=hE.ev.frozen 2;have HE:=zaa hE;clear hE;go_wp2;refine bodyPost_ret (v:=.agg #[.int .i64 5,.int .i64 (xp:Int),.int .i64 (x:Int)]) (by simp [results,Tryz.results79,go_sem,r0,r1,r2]) rfl ?_;exact HE.out.ret (by omega) _ _ _ ⟨⟨by omega,by omega⟩,⟨by omega,by omega⟩,⟨by omega,by omega⟩⟩
    ·rcases h with rfl | rfl | rfl
     all_goals
      have t0:wf.cell? ⟨w.heap.size,0,none⟩ = some (.int .i64 p.sections):=HE.out.plan.cell (i:=0) (by omega);have t1:wf.cell? ⟨w.heap.size,1,none⟩ = some (.slice a1 ns c1):=HE.out.plan.cell (i:=1) (by omega);have t2:wf.cell? ⟨w.heap.size,2,none⟩ = some (.slice a2 nw c2):=HE.out.plan.cell (i:=2) (by omega);have t3:wf.cell? ⟨w.heap.size,3,none⟩ = some (.slice a3 p.bars.length c3):=HE.out.plan.cell (i:=3) (by omega);have t4:wf.cell? ⟨w.heap.size,4,none⟩ = some (.int .i64 p.hold):=HE.out.plan.cell (i:=4) (by omega);have t5:wf.cell? ⟨w.heap.size + 1,0,none⟩ = some (.bool d.ok):=HE.out.frame.cell (i:=0) (by omega);have t6:wf.cell? ⟨w.heap.size + 1,1,none⟩ = some (.slice o1 d.occ.length m1):=HE.out.frame.cell (i:=1) (by omega);have t7:wf.cell? ⟨w.heap.size + 1,2,none⟩ = some (.slice o2 np m2):=HE.out.frame.cell (i:=2) (by omega);have t8:wf.cell? ⟨w.heap.size + 1,3,none⟩ = some (.slice o3 d.ways.length m3):=HE.out.frame.cell (i:=3) (by omega)
      go_wp2_with fail
      refine (zb6 cb _ _ _ _ _ _ p d wf (KP.out _ HE.out.but) (KF.out _ HE.out.but) HR.out).mono ?_;rintro e wg ⟨op,of,lie,rfl,hev,hbg⟩;have hE:=HE.out.call hbg;clear HE r0 r1 r2 k0 k1 k2 hbg t0 t1 t2 t3 t4 t5 t6 t7 t8;have r0:=hE.ev.cell (i:=0) (by omega);have r1:=hE.ev.cell (i:=1) (by omega);have r2:=hE.ev.cell (i:=2) (by omega);have k0:=hE.ev.frozen 0;have k1:=hE.ev.frozen 1;have k2:=hE.ev.frozen 2;have HE:=zaa hE;have HEV:=zaa hev;clear hE hev;go_wp2;refine bodyPost_ret (v:=.agg #[.int .i64 op,.int .i64 of,.int .i64 lie]) (by simp [results,Tryz.results79,go_sem,r0,r1,r2]) rfl ?_;exact HE.out.ret (by omega) _ _ _ HEV.out
end Go.Proofs.YtdhinkgjiapigaaGreatDoor

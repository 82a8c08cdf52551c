import Derived.Test.YtdhinkgjiapigaaGreatDoorClearD
import Derived.Test.YtdhinkgjiapigaaGreatDoorDrawL
import Derived.Test.YtdhinkgjiapigaaGreatDoorFrIC
import Derived.Test.YtdhinkgjiapigaaGreatDoorDltx
import Derived.Deep.DeepCutAuto
namespace Go.Proofs.YtdhinkgjiapigaaGreatDoor
open Go.RowKit Go.Deep
open Classical
set_option maxRecDepth 100000 in
set_option maxHeartbeats 16000000 in
theorem ztp (a:Option Addr) (n c:Nat) (w:World) (hv:Bys (In w) w (.slice a n c) n) (hn:n ≤ 9223372036854775807) (hg:w.cell? ⟨1,0,none⟩ = some zrv) :
  Calls Tryz.prog 6 #[.slice a n c] w fun e w'=>e = .returned (.bool true) ∧ Below w.heap.size w w':=by
 have HG:=zaa hg;have HB0:=zaa (Below.refl w.heap.size w);by_cases hs:n ≤ 1048576
 case neg=>
  have hgd:decide ((1048576:Int) < (n:Int)) = true:=decide_eq_true (by omega);go_enter Tryz.func6,Tryz.ntmps6;go_wp2;go_ret;exact ⟨rfl,HB0.out⟩
 have HDR:=zaa (zrf a n c w hv hs);clear hv hg;have hgd:decide ((1048576:Int) < (n:Int)) = false:=decide_eq_false (by omega);go_enter Tryz.func6,Tryz.ntmps6
 go_wp2_with fail
 refine HDR.out.mono ?_;clear HDR hgd hs hn HB0;rintro e w1 ⟨v1,v2,v3,ve,p,es,rfl,hR,hp,hwc,hes,hel,hb1⟩;obtain ⟨a1,c1,rfl⟩:=hp.1.size;obtain ⟨a2,c2,rfl⟩:=hp.2.1.size;obtain ⟨a3,c3,rfl⟩:=hp.2.2.size;obtain ⟨ae,ce,rfl⟩:=hes.size;have hpi:=hp.keep (zax _ _) (Q:=In w1) fun b hb=>hb.2;have hwi:=hwc.keep (zax _ _) (Q:=In w1) fun b hb=>hb.2;have hei:=hes.keep (zax _ _) (Q:=In w1) fun b hb=>hb.2;obtain ⟨nw,hnw⟩:∃ m,m = p.ways.length:=⟨_,rfl⟩;obtain ⟨ne,hne⟩:∃ m,m = es.length:=⟨_,rfl⟩;obtain ⟨ns,hns⟩:∃ m:Nat,p.sections = (m:Int):=⟨p.sections.toNat,by have:=hR.parts.1.1.1; omega⟩;rw [← hnw] at hpi hwi ⊢;rw [← hne] at hei hel ⊢
 have hn60:ns ≤ 60:=by have:=hR.parts.1.1.2; omega
 have hnw100:nw ≤ 100:=by rw [hnw]; exact hR.parts.1.2.2.1
 have KP:=zaa fun (W:World) (h:Below w1.heap.size w1 W)=>hpi.keep (Q:=In W) (In.keep h).1 (In.keep h).2;have KC:=zaa fun (W:World) (h:Below w1.heap.size w1 W)=>hwi.keep (Q:=In W) (In.keep h).1 (In.keep h).2;have KE:=zaa fun (W:World) (h:Below w1.heap.size w1 W)=>hei.keep (Q:=In W) (In.keep h).1 (In.keep h).2;have HR:=zaa hR;have HNW:=zaa hnw;have HNE:=zaa hne;have HNS:=zaa hns;have HB1:=zaa hb1;have HG1:=zaa (ck HG.out hb1);rw [hns];clear hp hwc hes hR hpi hwi hei hnw hne hns hb1 HG;have T2:=zaw w1 27 #[.int .i64 (ns:Int),.slice a1 p.switches.length c1,.slice a2 nw c2,.slice a3 p.bars.length c3,.int .i64 p.hold];have HRUN:=zaa (zqw _ _ _ _ p es _ (KP.out _ T2.below) (KC.out _ T2.below) (KE.out _ T2.below) HR.out.small (by rw [← HNE.out]; omega) (ck HG1.out T2.below));rw [HNS.out] at HRUN;have HT2:=zaa T2;clear T2
 go_wp2_with fail
 refine HRUN.out.mono ?_;clear HRUN;rintro e w3 ⟨vd,rfl,hb3,hdr⟩;have hLr:zp2 p es = zdu p (zaq p) es:=if_pos ⟨HR.out,by rw [← HNE.out]; omega⟩;rw [hLr] at hdr;obtain ⟨L,hL⟩:∃ L,L = zdu p (zaq p) es:=⟨_,rfl⟩;rw [← hL] at hdr
 have hLn:L.length = ne:=by rw [hL,zq3,HNE.out]
 have HL:=zaa hL;have HLN:=zaa hLn;have hda:=hdr.read;obtain ⟨ad,cd,rfl⟩:=hda.size;rw [hLn] at hda ⊢;have T3:=HT2.out.call hb3;have KD:=zaa fun (W:World) (h:Below w3.heap.size w3 W)=>hda.keep (Q:=In W) (za0 h fun b hb=>hb.2) fun b hb=>Nat.lt_of_lt_of_le hb.2 h.size;have HT3:=zaa T3;have HG3:=zaa (ck HG1.out T3.below);have hw13:w1.heap.size ≤ w3.heap.size:=T3.below.size;clear hL hLr hLn hdr hda T3 HT2 hb3;go_wp2
 go_loopw [30] (fun z wr=>∃ i:Nat,i ≤ ne ∧ z = .int .i64 (i:Int) ∧ Below w3.heap.size w3 wr) (fun z _=>ne - (intOf z).toNat)
 case atStart=>exact ⟨0,by omega,rfl,Below.refl _ _⟩
 case round=>
  obtain ⟨i,hi,rfl,hbr⟩:=hrel;rename World=>wr;by_cases hlt:i < ne
  ·have hlti:decide ((i:Int) < (ne:Int)) = true:=decide_eq_true (by omega)
   have hin:(i:Int) < (ne:Int):=by omega
   obtain ⟨⟨code,d⟩,hx⟩:=zac L HLN hlt;have hf:zas p d:=zrq HR.out (by rw [← HL.out]; exact hx);obtain ⟨ad',cd',e,h0 | ⟨bd,od,rfl,-,hcd⟩⟩:=KD.out wr hbr
   ·have:=HLN.out; omega
   cases e
   obtain ⟨u1,u2,u3,hfa,g0,g1,g2,g3,g4⟩:=hcd i (by have:=HLN.out; omega) _ hx;simp only at g0 g1 hfa;obtain ⟨o1,m1,rfl⟩:=hfa.1.size;obtain ⟨o2,m2,rfl⟩:=hfa.2.1.size;obtain ⟨o3,m3,rfl⟩:=hfa.2.2.size
   have hol:d.occ.length = ns:=by have:=hf.2.2.1; have:=HNS.out; omega
   have hwl:d.ways.length = nw:=by rw [hf.2.2.2.2.1]; exact HNW.out.symm
   rw [hol] at g2;rw [hwl] at g4;have HFA:=zaa hfa;have HF:=zaa hf;have HOL:=zaa hol;have HWL:=zaa hwl;have hbn:=zab wr (.cells #[.int .i64 code,.bool d.ok,.slice o1 ns m1,.slice o2 d.points.length m2,.slice o3 nw m3] 42);have hbA:=hbr.trans (hbn.mono hbr.size);have hrn:(wr.alloc (.cells #[.int .i64 code,.bool d.ok,.slice o1 ns m1,.slice o2 d.points.length m2,.slice o3 nw m3] 42)).rowIs wr.heap.size 42 5 (fun i=>(#[.int .i64 code,.bool d.ok,.slice o1 ns m1,.slice o2 d.points.length m2,.slice o3 nw m3]:Array Value)[i]!):=zak wr 42 #[.int .i64 code,.bool d.ok,.slice o1 ns m1,.slice o2 d.points.length m2,.slice o3 nw m3];have TA:=HT3.out.call hbA;have hr0:=TA.row 0 _ _ rfl;rw [Nat.add_zero] at hr0;have y0:=hr0.cell (i:=0) (by show 0 < 5; omega);have y2:=hr0.cell (i:=2) (by show 2 < 5; omega);have x1:=hrn.cell (i:=2) (by omega);have x3:=hrn.cell (i:=4) (by omega);have HRN:=zaa hrn;have HBA:=zaa hbA;have HR0:=zaa hr0;have HBN:=zaa hbn;clear hx hf hcd hfa hol hwl hbn hbA hrn TA hr0 hbr;go_wp2;obtain ⟨WA,hWA⟩:∃ W,W = wr.alloc (.cells #[.int .i64 code,.bool d.ok,.slice o1 ns m1,.slice o2 d.points.length m2,.slice o3 nw m3] 42):=⟨_,rfl⟩;obtain ⟨db,hdb⟩:∃ b,b = wr.heap.size:=⟨_,rfl⟩;rw [← hWA] at HRN HBA HR0 HBN ⊢;rw [← hdb] at HRN ⊢;clear hWA hdb y0 y2 x1 x3 g0 g1 g2 g3 g4
   go_loopw [55] (fun z wk=>∃ k:Nat,k ≤ nw ∧ z = .int .i64 (k:Int) ∧ Below WA.heap.size WA wk) (fun z _=>nw - (intOf z).toNat)
   case atStart=>exact ⟨0,by omega,rfl,Below.refl _ _⟩
   case round=>
    obtain ⟨k,hk,rfl,hbk⟩:=hrel;rename World=>wk;by_cases hltk:k < nw
    ·have hltki:decide ((k:Int) < (nw:Int)) = true:=decide_eq_true (by omega)
     have hkn:(k:Int) < (nw:Int):=by omega
     obtain ⟨h,hh⟩:=zac d.ways HWL hltk;obtain ⟨x,hx⟩:=zac p.ways (zaa HNW.out.symm) hltk;have hbrk:Below wr.heap.size wr wk:=HBN.out.trans (hbk.mono HBN.out.size);have hfk:=HFA.out.keep (Q:=In wk) (In.keep hbrk).1 (In.keep hbrk).2;obtain ⟨-,-,⟨af,kf,ef,h0 | ⟨bf,off,rfl,-,hcf⟩⟩⟩:=id hfk
     ·have:=HWL.out; omega
     cases ef
     obtain ⟨u2,hbe,j0,j1,j2,j3,j4⟩:=hcf k (by have:=HWL.out; omega) h hh;obtain ⟨ab,kb,rfl⟩:=hbe.size;have hbh:=zab wk (.cells #[.int .i64 h.state,.int .i64 h.gone,.slice ab h.been.length kb,.bool h.shown,.int .i64 h.timer] 44);have hrh:(wk.alloc (.cells #[.int .i64 h.state,.int .i64 h.gone,.slice ab h.been.length kb,.bool h.shown,.int .i64 h.timer] 44)).rowIs wk.heap.size 44 5 (fun i=>(#[.int .i64 h.state,.int .i64 h.gone,.slice ab h.been.length kb,.bool h.shown,.int .i64 h.timer]:Array Value)[i]!):=zak wk 44 #[.int .i64 h.state,.int .i64 h.gone,.slice ab h.been.length kb,.bool h.shown,.int .i64 h.timer];have b0:=hrh.cell (i:=0) (by omega);have hbAh:=hbk.trans (hbh.mono hbk.size);have HBK:=zaa hbk;have HBH:=zaa hbAh;by_cases h2:h.state = 2
     ·have h2b:(h.state != 2) = false:=by simp [h2]
      have hpr:=zqd HF.out hx hh h2
      have hpa:zr9 p d (k:Int) = true:=by rw [zsf HF.out hx]; exact hpr
      have hb1h:=HT3.out.below.trans (HBA.out.trans (hbAh.mono HBA.out.size) |>.mono hw13);have hfh:=hfk.keep (Q:=In (wk.alloc (.cells #[.int .i64 h.state,.int .i64 h.gone,.slice ab h.been.length kb,.bool h.shown,.int .i64 h.timer] 44))) (In.keep hbh).1 (In.keep hbh).2;have HPR:=zaa (zsm _ _ _ _ _ _ p d (k:Int) (wk.alloc (.cells #[.int .i64 h.state,.int .i64 h.gone,.slice ab h.been.length kb,.bool h.shown,.int .i64 h.timer] 44)) (KP.out _ hb1h) hfh HR.out.small (zd1 HF.out) (ck HG1.out hb1h));rw [hpa,HNS.out,HOL.out,HWL.out] at HPR;have hr0:=zah HR0.out hbAh;have hrd:=zah HRN.out hbAh;have y0:=hr0.cell (i:=0) (by show 0 < 5; omega);have y1:=hr0.cell (i:=1) (by show 1 < 5; omega);have y2:=hr0.cell (i:=2) (by show 2 < 5; omega);have y3:=hr0.cell (i:=3) (by show 3 < 5; omega);have y4:=hr0.cell (i:=4) (by show 4 < 5; omega);have x1:=hrd.cell (i:=1) (by omega);have x2:=hrd.cell (i:=2) (by omega);have x3:=hrd.cell (i:=3) (by omega);have x4:=hrd.cell (i:=4) (by omega);have HX:=zaa hx;have HPV:=zaa hpr;have HFH:=zaa hfh;have HB1H:=zaa hb1h;clear hx hh hpr hpa h2 hfk hcf hbe hbh hrh hfh hb1h hr0 hrd hbk hbAh hbrk
      go_wp2_with fail
      refine HPR.out.mono ?_;clear HPR y0 y1 y2 y3 y4 x1 x2 x3 x4 b0 j0 j1 j2 j3 j4;rintro e w6 ⟨rfl,hb6⟩;have hb16:=HB1H.out.trans (hb6.mono HB1H.out.size);have hbA6:=HBH.out.trans (hb6.mono HBH.out.size);obtain ⟨-,⟨aw,kw,ew,h0 | ⟨bw,ofw,rfl,-,hcw⟩⟩,-⟩:=KP.out w6 hb16
      ·have:=HNW.out; omega
      cases ew
      obtain ⟨v0,z1,z2,z3,z4,hWAY,g0,-⟩:=hcw k (by have:=HNW.out; omega) x HX.out;obtain ⟨a0,k0,rfl⟩:=hWAY.1.size;have y2:=(zah HR0.out hbA6).cell (i:=2) (by show 2 < 5; omega);have HSE:=zaa hWAY.1;have HF6:=zaa (HFH.out.keep (Q:=In w6) (In.keep hb6).1 (In.keep hb6).2);have HBA6:=zaa hbA6;obtain ⟨n0,hn0⟩:∃ m,m = x.sections.length:=⟨_,rfl⟩
      have hn30:n0 ≤ 30:=by rw [hn0]; exact (HR.out.way HX.out).2.1.2
      rw [← hn0] at g0;have HN0:=zaa hn0;clear hb6 hb16 hbA6 hcw hWAY hn0 HFH HB1H;go_wp2
      go_loopw [76] (fun z wx=>∃ j:Nat,j ≤ n0 ∧ z = .int .i64 (j:Int) ∧ Below w6.heap.size w6 wx) (fun z _=>n0 - (intOf z).toNat)
      case atStart=>exact ⟨0,by omega,rfl,Below.refl _ _⟩
      case round=>
       obtain ⟨j,hj,rfl,hbx⟩:=hrel;rename World=>wx;have hbAx:=HBA6.out.trans (hbx.mono HBA6.out.size);by_cases hltj:j < n0
       ·have hltji:decide ((j:Int) < (n0:Int)) = true:=decide_eq_true (by omega)
        have hjn:(j:Int) < (n0:Int):=by omega
        obtain ⟨s,hs⟩:=zac x.sections (zaa HN0.out.symm) hltj;obtain ⟨as1,ks1,es1,h0 | ⟨bs,os,rfl,-,hcs⟩⟩:=HSE.out.keep (Q:=In wx) (In.keep hbx).1 (In.keep hbx).2
        ·have:=HN0.out; omega
        cases es1
        have hsr:=(HR.out.way HX.out).2.1.mem (List.mem_of_getElem? hs);have hs0:0 ≤ s:=hsr.1
        have hs1:s < (ns:Int):=by have:=hsr.2; have:=HNS.out; omega
        obtain ⟨⟨ao,ko,eo,h0 | ⟨bo,oo,rfl,-,hco⟩⟩,-,-⟩:=HF6.out.keep (Q:=In wx) (In.keep hbx).1 (In.keep hbx).2
        ·have:=HOL.out; omega
        cases eo
        obtain ⟨o,ho⟩:∃ o,d.occ[s.toNat]? = some o:=⟨d.occ[s.toNat]'(by have:=HOL.out; omega),List.getElem?_eq_getElem _⟩;obtain rfl:=zq1 HPV.out (List.mem_of_getElem? hs) ho;have x0:=hcs j (by have:=HN0.out; omega) s hs;have oc:=hco s.toNat (by have:=HOL.out; omega) _ ho;have xd:=(zah HRN.out hbAx).cell (i:=2) (by omega);clear hs hcs hsr hco ho hbAx;go_wp2;go_roundw
        case rel=>exact ⟨j + 1,by omega,by go_num,hbx⟩
        case measure=>simp [intOf]; omega
       ·have hltji:decide ((j:Int) < (n0:Int)) = false:=decide_eq_false (by omega);go_wp2;go_roundw
        case rel=>exact ⟨k + 1,by omega,by go_num,hbAx⟩
        case measure=>simp [intOf]; omega
     ·have h2b:(h.state != 2) = true:=by simp [h2]
      clear hx hh h2 hfk hcf hbe hbh hrh hbk hbAh hbrk;go_wp2;go_roundw
      case rel=>exact ⟨k + 1,by omega,by go_num,HBH.out⟩
      case measure=>simp [intOf]; omega
    ·have hltki:decide ((k:Int) < (nw:Int)) = false:=decide_eq_false (by omega);have hbw:=HBA.out.trans (hbk.mono HBA.out.size);go_wp2;go_roundw
     case rel=>exact ⟨i + 1,by omega,by go_num,hbw⟩
     case measure=>simp [intOf]; omega
  ·have hlti:decide ((i:Int) < (ne:Int)) = false:=decide_eq_false (by omega);go_wp2;go_ret;exact ⟨rfl,HB1.out.trans ((HT3.out.below.trans (hbr.mono hw13)).mono HB1.out.size)⟩
end Go.Proofs.YtdhinkgjiapigaaGreatDoor

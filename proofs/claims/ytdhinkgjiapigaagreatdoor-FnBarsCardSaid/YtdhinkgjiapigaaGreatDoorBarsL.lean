import Derived.Test.YtdhinkgjiapigaaGreatDoorBarsF
import Derived.Test.YtdhinkgjiapigaaGreatDoorDrawL
import Derived.Test.YtdhinkgjiapigaaGreatDoorLkJ
import Derived.Deep.DeepCutAuto
namespace Go.Proofs.YtdhinkgjiapigaaGreatDoor
open Go.RowKit Go.Deep
open Classical
set_option maxRecDepth 100000 in
set_option maxHeartbeats 16000000 in
theorem zuw (a:Option Addr) (n c:Nat) (w:World) (hv:Bys (In w) w (.slice a n c) n) (hn:n ≤ 9223372036854775807) (hg:w.cell? ⟨1,0,none⟩ = some zrv) :
  Calls Tryz.prog 4 #[.slice a n c] w fun e w'=>e = .returned (.bool true) ∧ Below w.heap.size w w':=by
 have HG:=zaa hg;have HB0:=zaa (Below.refl w.heap.size w);by_cases hs:n ≤ 1048576
 case neg=>
  have hgd:decide ((1048576:Int) < (n:Int)) = true:=decide_eq_true (by omega);go_enter Tryz.func4,Tryz.ntmps4;go_wp2;go_ret;exact ⟨rfl,HB0.out⟩
 have HDR:=zaa (zrf a n c w hv hs);clear hv hg;have hgd:decide ((1048576:Int) < (n:Int)) = false:=decide_eq_false (by omega);go_enter Tryz.func4,Tryz.ntmps4
 go_wp2_with fail
 refine HDR.out.mono ?_;clear HDR hgd hs hn HB0;rintro e w1 ⟨v1,v2,v3,ve,p,es,rfl,hR,hp,hwc,hes,hel,hb1⟩;obtain ⟨a1,c1,rfl⟩:=hp.1.size;obtain ⟨a2,c2,rfl⟩:=hp.2.1.size;obtain ⟨a3,c3,rfl⟩:=hp.2.2.size;obtain ⟨ae,ce,rfl⟩:=hes.size;have hpi:=hp.keep (zax _ _) (Q:=In w1) fun b hb=>hb.2;have hwi:=hwc.keep (zax _ _) (Q:=In w1) fun b hb=>hb.2;have hei:=hes.keep (zax _ _) (Q:=In w1) fun b hb=>hb.2;obtain ⟨nw,hnw⟩:∃ m,m = p.ways.length:=⟨_,rfl⟩;obtain ⟨ne,hne⟩:∃ m,m = es.length:=⟨_,rfl⟩;obtain ⟨ns,hns⟩:∃ m:Nat,p.sections = (m:Int):=⟨p.sections.toNat,by have:=hR.parts.1.1.1; omega⟩;rw [← hnw] at hpi hwi ⊢;rw [← hne] at hei hel ⊢
 have hn60:ns ≤ 60:=by have:=hR.parts.1.1.2; omega
 have hnw100:nw ≤ 100:=by rw [hnw]; exact hR.parts.1.2.2.1
 have KP:=zaa fun (W:World) (h:Below w1.heap.size w1 W)=>hpi.keep (Q:=In W) (In.keep h).1 (In.keep h).2;have KC:=zaa fun (W:World) (h:Below w1.heap.size w1 W)=>hwi.keep (Q:=In W) (In.keep h).1 (In.keep h).2;have KE:=zaa fun (W:World) (h:Below w1.heap.size w1 W)=>hei.keep (Q:=In W) (In.keep h).1 (In.keep h).2;have HR:=zaa hR;have HNW:=zaa hnw;have HNE:=zaa hne;have HNS:=zaa hns;have HB1:=zaa hb1;have HG1:=zaa (ck HG.out hb1);rw [hns];clear hp hwc hes hR hpi hwi hei hnw hne hns hb1 HG;have T2:=zaw w1 27 #[.int .i64 (ns:Int),.slice a1 p.switches.length c1,.slice a2 nw c2,.slice a3 p.bars.length c3,.int .i64 p.hold];have HRUN:=zaa (zqw _ _ _ _ p es _ (KP.out _ T2.below) (KC.out _ T2.below) (KE.out _ T2.below) HR.out.small (by rw [← HNE.out]; omega) (ck HG1.out T2.below));rw [HNS.out] at HRUN;have HT2:=zaa T2;clear T2
 go_wp2_with fail
 refine HRUN.out.mono ?_;clear HRUN;rintro e w3 ⟨vd,rfl,hb3,hdr⟩;have hLr:zp2 p es = zdu p (zaq p) es:=if_pos ⟨HR.out,by rw [← HNE.out]; omega⟩;rw [hLr] at hdr;obtain ⟨L,hL⟩:∃ L,L = zdu p (zaq p) es:=⟨_,rfl⟩;rw [← hL] at hdr
 have hLn:L.length = ne:=by rw [hL,zq3,HNE.out]
 have HL:=zaa hL;have HLN:=zaa hLn;have hda:=hdr.read;obtain ⟨ad,cd,rfl⟩:=hda.size;rw [hLn] at hda ⊢;have T3:=HT2.out.call hb3;have KD:=zaa fun (W:World) (h:Below w3.heap.size w3 W)=>hda.keep (Q:=In W) (za0 h fun b hb=>hb.2) fun b hb=>Nat.lt_of_lt_of_le hb.2 h.size;have HT3:=zaa T3;have HG3:=zaa (ck HG1.out T3.below);have hw13:w1.heap.size ≤ w3.heap.size:=T3.below.size;clear hL hLr hLn hdr hda T3 HT2 hb3;go_wp2
 go_loopw [35] (fun z wr=>∃ t:Nat,t ≤ ne ∧ z = .int .i64 (t:Int) ∧ Below w3.heap.size w3 wr) (fun z _=>ne - (intOf z).toNat)
 case atStart=>exact ⟨0,by omega,rfl,Below.refl _ _⟩
 case round=>
  obtain ⟨t,ht,rfl,hbr⟩:=hrel;rename World=>wr;by_cases hlt:t < ne
  ·have hlti:decide ((t:Int) < (ne:Int)) = true:=decide_eq_true (by omega)
   have hin:(t:Int) < (ne:Int):=by omega
   obtain ⟨⟨code,d⟩,hx⟩:=zac L HLN hlt;have hf:zas p d:=zrq HR.out (by rw [← HL.out]; exact hx);obtain ⟨ad',cd',e,h0 | ⟨bd,od,rfl,-,hcd⟩⟩:=KD.out wr hbr
   ·have:=HLN.out; omega
   rw [HLN.out] at e
   cases e
   obtain ⟨u1,u2,u3,hfa,g0,g1,g2,g3,g4⟩:=hcd t (by have:=HLN.out; omega) _ hx;simp only at g0 g1 hfa;obtain ⟨o1,m1,rfl⟩:=hfa.1.size;obtain ⟨o2,m2,rfl⟩:=hfa.2.1.size;obtain ⟨o3,m3,rfl⟩:=hfa.2.2.size
   have hwl:d.ways.length = nw:=by rw [hf.2.2.2.2.1]; exact HNW.out.symm
   rw [hwl] at g4;have HF:=zaa hf;have HWL:=zaa hwl;have KB0:=zaa hbr.size;have hmk:=run_make_row' (P:=Tryz.prog) 23 3 (.int .i64 0) 8 Tryz.underlying23 Tryz.infoInt rfl .i64 .i64 ns (by omega) (by omega);have hbn:=zab wr (.cells #[.int .i64 code,.bool d.ok,.slice o1 d.occ.length m1,.slice o2 d.points.length m2,.slice o3 nw m3] 42);have hbm:=zab (wr.alloc (.cells #[.int .i64 code,.bool d.ok,.slice o1 d.occ.length m1,.slice o2 d.points.length m2,.slice o3 nw m3] 42)) (.cells (madeCells #[.int .i64 0] ns) 3);have hrn:(wr.alloc (.cells #[.int .i64 code,.bool d.ok,.slice o1 d.occ.length m1,.slice o2 d.points.length m2,.slice o3 nw m3] 42)).rowIs wr.heap.size 42 5 (fun i=>(#[.int .i64 code,.bool d.ok,.slice o1 d.occ.length m1,.slice o2 d.points.length m2,.slice o3 nw m3]:Array Value)[i]!):=zak wr 42 #[.int .i64 code,.bool d.ok,.slice o1 d.occ.length m1,.slice o2 d.points.length m2,.slice o3 nw m3];have hbA:=hbr.trans (hbn.mono hbr.size);have hbB:=hbA.trans (hbm.mono hbA.size);have hr0:=(HT3.out.call hbA).row 0 _ _ rfl;rw [Nat.add_zero] at hr0;have y0:=hr0.cell (i:=0) (by show 0 < 5; omega);have y2:=hr0.cell (i:=2) (by show 2 < 5; omega);have x3:=hrn.cell (i:=4) (by omega);have hrnB:=zah hrn hbm;have x3B:=hrnB.cell (i:=4) (by omega);have hrow:((wr.alloc (.cells #[.int .i64 code,.bool d.ok,.slice o1 d.occ.length m1,.slice o2 d.points.length m2,.slice o3 nw m3] 42)).alloc (.cells (madeCells #[.int .i64 0] ns) 3)).rowIs (wr.alloc (.cells #[.int .i64 code,.bool d.ok,.slice o1 d.occ.length m1,.slice o2 d.points.length m2,.slice o3 nw m3] 42)).heap.size 3 ns (fun _=>.int .i64 0):=World.rowIs_made (wr.alloc (.cells #[.int .i64 code,.bool d.ok,.slice o1 d.occ.length m1,.slice o2 d.points.length m2,.slice o3 nw m3] 42)) _ ns _
   have hsz:(wr.alloc (.cells #[.int .i64 code,.bool d.ok,.slice o1 d.occ.length m1,.slice o2 d.points.length m2,.slice o3 nw m3] 42)).heap.size = wr.heap.size + 1:=World.size_alloc ..;rw [hsz] at hrow;have hbwB:Below wr.heap.size wr ((wr.alloc (.cells #[.int .i64 code,.bool d.ok,.slice o1 d.occ.length m1,.slice o2 d.points.length m2,.slice o3 nw m3] 42)).alloc (.cells (madeCells #[.int .i64 0] ns) 3)):=hbn.trans (hbm.mono hbn.size);have HFA:=zaa (hfa.keep (Q:=fun b=>b < wr.heap.size) (In.keep hbwB).1 fun b hb=>hb);have HRD:=zaa hrnB;have HROW:=zaa hrow;have HBB:=zaa hbB;have HR0:=zaa (zah hr0 hbm);clear hx hf hcd hfa hwl hbn hbm hrn hbA hbB hr0 hrnB hrow hsz hbwB hbr;go_wp2;obtain ⟨WA,hWA⟩:∃ W,W = (wr.alloc (.cells #[.int .i64 code,.bool d.ok,.slice o1 d.occ.length m1,.slice o2 d.points.length m2,.slice o3 nw m3] 42)).alloc (.cells (madeCells #[.int .i64 0] ns) 3):=⟨_,rfl⟩;obtain ⟨db,hdb⟩:∃ b,b = wr.heap.size:=⟨_,rfl⟩;rw [← hWA] at HFA HRD HROW HBB HR0 ⊢;rw [← hdb] at HRD HROW HFA ⊢
   have HDB:Hid (w3.heap.size ≤ db):=by show w3.heap.size ≤ db; rw [hdb]; exact KB0.out
   clear hWA hdb y0 y2 x3 x3B g0 g1 g2 g3 g4 hmk;have hrbl:db + 1 < WA.heap.size:=HROW.out.lt;have KWA:=zaa fun (W:World) (h:But (fun c=>c ≠ db + 1) WA W)=>(HT3.out.below.trans (HBB.out.mono hw13)).trans (h.below (Nat.le_trans hw13 HBB.out.size) fun c hc=>by have:=HDB.out; omega)
   have KFA:=zaa fun (W:World) (h:But (fun c=>c ≠ db + 1) WA W)=>HFA.out.keep (Q:=In W) (h.same fun b (hb:b < db)=>⟨by omega,by omega⟩) fun b (hb:b < db)=>by show b < W.heap.size; have:=h.size; omega
   go_loopw [54] (fun z wk=>∃ i:Nat,i ≤ nw ∧ z = .int .i64 (i:Int) ∧ But (fun c=>c ≠ db + 1) WA wk ∧ wk.rowIs (db + 1) 3 ns (fun q=>.int .i64 (ind (zu0 p d (q:Int) i)))) (fun z _=>nw - (intOf z).toNat)
   case atStart=>exact ⟨0,by omega,rfl,But.refl _ _,HROW.out.congr fun q _=>by rw [zuq (fun ⟨j,hj,_⟩=>absurd hj (by omega))]⟩
   case round=>
    obtain ⟨i,hi,rfl,hbk,hrow⟩:=hrel;rename World=>wk;clear HROW;have hdw:=hbk.row HRD.out (by omega);have hpw:=hbk.row HR0.out (by have:=HDB.out; omega);by_cases hltk:i < nw
    ·have hltki:decide ((i:Int) < (nw:Int)) = true:=decide_eq_true (by omega)
     have hkn:(i:Int) < (nw:Int):=by omega
     obtain ⟨h,hh⟩:=zac d.ways HWL hltk;obtain ⟨x,hx⟩:=zac p.ways (zaa HNW.out.symm) hltk;have hfk:=KFA.out wk hbk;obtain ⟨-,-,⟨af,kf,ef,h0 | ⟨bf,off,rfl,-,hcf⟩⟩⟩:=id hfk
     ·have:=HWL.out; omega
     rw [HWL.out] at ef
     cases ef
     obtain ⟨u2,hbe,j0,j1,j2,j3,j4⟩:=hcf i (by have:=HWL.out; omega) h hh;obtain ⟨ab,kb,rfl⟩:=hbe.size;have hwr:=HF.out.2.2.2.2.2.2.1 i (by have:=HWL.out; omega) x h hx hh;have hbh:=zab wk (.cells #[.int .i64 h.state,.int .i64 h.gone,.slice ab h.been.length kb,.bool h.shown,.int .i64 h.timer] 44);have hrh:(wk.alloc (.cells #[.int .i64 h.state,.int .i64 h.gone,.slice ab h.been.length kb,.bool h.shown,.int .i64 h.timer] 44)).rowIs wk.heap.size 44 5 (fun i=>(#[.int .i64 h.state,.int .i64 h.gone,.slice ab h.been.length kb,.bool h.shown,.int .i64 h.timer]:Array Value)[i]!):=zak wk 44 #[.int .i64 h.state,.int .i64 h.gone,.slice ab h.been.length kb,.bool h.shown,.int .i64 h.timer];have x3:=hdw.cell (i:=4) (by omega);have x3h:=(zah hdw hbh).cell (i:=4) (by omega);have HBH:=zaa (hbk.call hbh);have HRW:=zaa (zah hrow hbh);have HRH:=zaa hrh;have HWR:=zaa hwr.2;have HG0:=zaa hwr.1.2.2.1.1;have HX:=zaa hx;have HHH:=zaa hh;have HKS:Hid (db + 1 < wk.heap.size):=hrow.lt;clear hx hh hfk hcf hbe hwr hbh hrh hbk hrow hdw hpw;go_wp2;obtain ⟨WH,hWH⟩:∃ W,W = wk.alloc (.cells #[.int .i64 h.state,.int .i64 h.gone,.slice ab h.been.length kb,.bool h.shown,.int .i64 h.timer] 44):=⟨_,rfl⟩;obtain ⟨hb,hhb⟩:∃ b,b = wk.heap.size:=⟨_,rfl⟩;rw [← hWH] at HBH HRW HRH ⊢;rw [← hhb] at HRH ⊢
     have hbr2:db + 1 < hb:=by rw [hhb]; exact HKS.out
     clear hWH hhb x3 x3h j0 j1 j2 j3 j4
     go_loopw [63] (fun z wy=>∃ k:Nat,k ≤ nw ∧ z = .int .i64 (k:Int) ∧ Below WH.heap.size WH wy) (fun z _=>nw - (intOf z).toNat)
     case atStart=>exact ⟨0,by omega,rfl,Below.refl _ _⟩
     case round=>
      obtain ⟨k,hk,rfl,hby⟩:=hrel;rename World=>wy;have hBy:=HBH.out.call hby;have hdy:=hBy.row HRD.out (by omega);have hpy:=hBy.row HR0.out (by have:=HDB.out; omega);have hhy:=zah HRH.out hby;by_cases hltk2:k < nw
      ·have hltki2:decide ((k:Int) < (nw:Int)) = true:=decide_eq_true (by omega)
       have hkn2:(k:Int) < (nw:Int):=by omega
       obtain ⟨g,hg⟩:=zac d.ways HWL hltk2;obtain ⟨r,b,hr1,hr2,hr3,hr4⟩:=HR.out.row (i:=i) (k:=k) (by have:=HNW.out; omega) (by have:=HNW.out; omega);obtain ⟨-,-,⟨af,kf,ef,h0 | ⟨bf2,off2,e2,-,hcf⟩⟩⟩:=KFA.out wy hBy
       ·have:=HWL.out; omega
       rw [HWL.out] at ef
       cases ef
       cases e2
       obtain ⟨u2,hbe,j0,j1,j2,j3,j4⟩:=hcf k (by have:=HWL.out; omega) g hg;obtain ⟨ag,kg,rfl⟩:=hbe.size;have hbg:=zab wy (.cells #[.int .i64 g.state,.int .i64 g.gone,.slice ag g.been.length kg,.bool g.shown,.int .i64 g.timer] 44);have hrg:(wy.alloc (.cells #[.int .i64 g.state,.int .i64 g.gone,.slice ag g.been.length kg,.bool g.shown,.int .i64 g.timer] 44)).rowIs wy.heap.size 44 5 (fun i=>(#[.int .i64 g.state,.int .i64 g.gone,.slice ag g.been.length kg,.bool g.shown,.int .i64 g.timer]:Array Value)[i]!):=zak wy 44 #[.int .i64 g.state,.int .i64 g.gone,.slice ag g.been.length kg,.bool g.shown,.int .i64 g.timer];obtain ⟨-,-,⟨ar,kr,er,h0 | ⟨br,or,e3,-,hcr⟩⟩⟩:=KP.out _ (KWA.out _ (hBy.call hbg))
       ·have:=(List.getElem?_eq_some_iff.1 hr1).1; omega
       cases er
       obtain ⟨vr,hbr,er1⟩:=hcr i (List.getElem?_eq_some_iff.1 hr1).1 r hr1;obtain ⟨az,kz,ez,h0 | ⟨bz,oz,rfl,-,hcz⟩⟩:=hbr
       ·have:=(List.getElem?_eq_some_iff.1 hr3).1; omega
       subst ez;have er2:=hcz k (List.getElem?_eq_some_iff.1 hr3).1 b hr3;rw [hr2,← HNW.out] at er1;subst e3;have y3:=(zah hpy hbg).cell (i:=3) (by show 3 < 5; omega);have l0:=(zah hhy hbg).cell (i:=0) (by omega);have l0g:=hrg.cell (i:=0) (by omega)
       have hib:(i:Int) < (p.bars.length:Int):=by have:=(List.getElem?_eq_some_iff.1 hr1).1; omega
       have FIN:=zaa (hby.trans (hbg.mono hby.size));have hex:i ≠ k → b = true → h.state ≠ 0 → g.state = 0:=fun z1 z2 z3=>HWR.out k g z1 hg (by rw [hr4,z2]) z3;clear hg hr1 hr2 hr3 hr4 hcf hbe hbg hrg hcr hcz hby hBy hdy hpy hhy;by_cases eik:i = k
       ·have eb:((i:Int) != (k:Int)) = false:=by rw [eik]; simp
        have EIK:=zaa eik;clear eik hex;go_wp2;go_roundw
        case rel=>exact ⟨k + 1,by omega,by go_num,FIN.out⟩
        case measure=>simp [intOf]; omega
       have eb:((i:Int) != (k:Int)) = true:=by simp; omega
       cases b with
       | false=>
        clear eik hex;go_wp2;go_roundw
        case rel=>exact ⟨k + 1,by omega,by go_num,FIN.out⟩
        case measure=>simp [intOf]; omega
       | true=>
        by_cases hs0:h.state = 0
        ·have s0:(h.state != 0) = false:=by simp [hs0]
         clear eik hex hs0;go_wp2;go_roundw
         case rel=>exact ⟨k + 1,by omega,by go_num,FIN.out⟩
         case measure=>simp [intOf]; omega
        ·have s0:(h.state != 0) = true:=by simp [hs0]
         have s1:(g.state != 0) = false:=by simp [hex eik rfl hs0]
         clear eik hex hs0;go_wp2;go_roundw
         case rel=>exact ⟨k + 1,by omega,by go_num,FIN.out⟩
         case measure=>simp [intOf]; omega
      ·have hltki2:decide ((k:Int) < (nw:Int)) = false:=decide_eq_false (by omega);have l0:=hhy.cell (i:=0) (by omega);have HRY:=zaa (zah HRW.out hby);have HBY:=zaa hBy;have HHY:=zaa hhy;have HPY:=zaa hpy;clear hBy hdy hpy hhy hby;by_cases hs0:h.state = 0
       ·have s0:(h.state == 0) = true:=by simp [hs0]
        have HS0:=zaa hs0;clear hs0;go_wp2;go_roundw
        case rel=>exact ⟨i + 1,by omega,by go_num,HBY.out,HRY.out.congr fun q _=>by rw [zus HX.out HHH.out HG0.out HS0.out]⟩
        case measure=>simp [intOf]; omega
       have s0:(h.state == 0) = false:=by simp [hs0]
       have HS0:=zaa hs0;clear hs0;obtain ⟨-,⟨ap,kp,ep,h0 | ⟨bp,ofp,rfl,-,hcp⟩⟩,-⟩:=KP.out w1 (Below.refl _ _)
       ·have:=HNW.out; omega
       rw [← HNW.out] at ep
       cases ep
       obtain ⟨v0,b1,b2,b3,v4,hWAY,e01,-⟩:=hcp i (by have:=HNW.out; omega) x HX.out;obtain ⟨a0,k0,rfl⟩:=hWAY.1.size;obtain ⟨n0,hn0⟩:∃ m,m = x.sections.length:=⟨_,rfl⟩
       have hn30:n0 ≤ 30:=by rw [hn0]; exact (HR.out.way HX.out).2.1.2
       rw [← hn0] at e01;have e0:=ck e01 (KWA.out _ HBY.out);have HN0:=zaa hn0;have HSE:=zaa hWAY.1;have y2:=HPY.out.cell (i:=2) (by show 2 < 5; omega);clear hcp hWAY hn0 e01;go_wp2;clear e0 y2 l0 s0
       go_loopw [102] (fun z wx=>∃ k:Nat,k ≤ n0 ∧ z = .int .i64 (k:Int) ∧ But (fun c=>c ≠ db + 1) WA wx ∧ wx.rowIs hb 44 5 (fun i=>(#[.int .i64 h.state,.int .i64 h.gone,.slice ab h.been.length kb,.bool h.shown,.int .i64 h.timer]:Array Value)[i]!) ∧ wx.rowIs (db + 1) 3 ns (fun q=>.int .i64 (ind (zu1 p d i x h k (q:Int))))) (fun z _=>n0 - (intOf z).toNat)
       case atStart=>exact ⟨0,by omega,rfl,HBY.out,HHY.out,HRY.out.congr fun q _=>by rw [zuu]⟩
       case round=>
        obtain ⟨k2,hk2,rfl,hBx,hHx,hrx⟩:=hrel;rename World=>wx;clear HBY HHY HPY HRY;by_cases hltj:k2 < n0
        ·have hltji:decide ((k2:Int) < (n0:Int)) = true:=decide_eq_true (by omega)
         have hjn:(k2:Int) < (n0:Int):=by omega
         obtain ⟨s,hs⟩:=zac x.sections (zaa HN0.out.symm) hltj;obtain ⟨as1,ks1,es1,h0 | ⟨bs,os,rfl,-,hcs⟩⟩:=HSE.out.keep (Q:=In wx) (In.keep (KWA.out _ hBx)).1 (In.keep (KWA.out _ hBx)).2
         ·have:=HN0.out; omega
         cases es1
         have hsr:=(HR.out.way HX.out).2.1.mem (List.mem_of_getElem? hs);have hs0:0 ≤ s:=hsr.1
         have hs1:s < (ns:Int):=by have:=hsr.2; have:=HNS.out; omega
         have x0:=hcs k2 (by have:=HN0.out; omega) s hs;have l1:=hHx.cell (i:=1) (by omega);have r0:=hrx.cell (i:=s.toNat) (by omega);have hst:((s.toNat:Nat):Int) = s:=Int.toNat_of_nonneg hs0;rw [hst,zut HF.out HX.out HHH.out HS0.out hs] at r0;have f0:=hrx.frozen s.toNat;have HST:=zaa hst;have HBX:=zaa hBx;have HHX:=zaa hHx;have HRX:=zaa hrx;have HSS:=zaa hs;clear hs hcs hsr hst hBx hHx hrx;by_cases hg:h.gone ≤ (k2:Int)
         ·have gb:decide (h.gone ≤ (k2:Int)) = true:=decide_eq_true hg;have hB1:But (fun c=>c ≠ db + 1) wx (wx.setCell ⟨db + 1,s.toNat,none⟩ (.int .i64 1)):=(But.refl _ _).setCell (fun z=>z rfl) _
          have FIN:=zaa (And.intro (HBX.out.trans hB1) (And.intro (hB1.row HHX.out (by omega)) ((HRX.out.set s.toNat (.int .i64 1)).congr (g:=fun q=>.int .i64 (ind (zu1 p d i x h (k2 + 1) (q:Int)))) fun q hq=>by
           by_cases e:q = s.toNat
           ·rw [if_pos e,e,HST.out,zu3 HSS.out hg]
           ·rw [if_neg e,zur HSS.out (by have:=HST.out; omega)])))
          clear hB1 HBX HHX HRX;go_wp2;go_roundw
          case rel=>exact ⟨k2 + 1,by omega,by go_num,FIN.out⟩
          case measure=>simp [intOf]; omega
         ·have gb:decide (h.gone ≤ (k2:Int)) = false:=decide_eq_false hg;have HG:=zaa hg;go_wp2;go_roundw
          case rel=>exact ⟨k2 + 1,by omega,by go_num,HBX.out,HHX.out,HRX.out.congr fun q _=>by rw [zu6 HG.out]⟩
          case measure=>simp [intOf]; omega
        ·have hltji:decide ((k2:Int) < (n0:Int)) = false:=decide_eq_false (by omega);go_wp2;go_roundw
         case rel=>exact ⟨i + 1,by omega,by go_num,hBx,hrx.congr fun q _=>by rw [show k2 = x.sections.length by have:=HN0.out; omega,zu2 HX.out HHH.out HG0.out HS0.out]⟩
         case measure=>simp [intOf]; omega
    ·have hltki:decide ((i:Int) < (nw:Int)) = false:=decide_eq_false (by omega)
     have HINW:Hid (i = nw):=by show i = nw; omega
     have HDW:=zaa hdw;have HPW:=zaa hpw;have HRK:=zaa hrow;have HBK:=zaa hbk;have HFK:=zaa (KFA.out wk hbk);have HKW:=zaa (KWA.out wk hbk);clear hdw hpw hrow hbk;go_wp2
     go_loopw [121] (fun z wz=>∃ s:Nat,s ≤ ns ∧ z = .int .i64 (s:Int) ∧ Below wk.heap.size wk wz) (fun z _=>ns - (intOf z).toNat)
     case atStart=>exact ⟨0,by omega,rfl,Below.refl _ _⟩
     case round=>
      obtain ⟨s,hs,rfl,hbz⟩:=hrel;rename World=>wz;by_cases hlts:s < ns
      ·have hltsi:decide ((s:Int) < (ns:Int)) = true:=decide_eq_true (by omega)
       have hsn:(s:Int) < (ns:Int):=by omega
       have hw1z:=HKW.out.trans (hbz.mono HKW.out.size);have r0:=(zah HRK.out hbz).cell (i:=s) hlts;rw [HINW.out] at r0;have hlk:=zu4 (p:=p) (d:=d) (s:=(s:Int));rw [← HNW.out] at hlk;have HLK:=zaa (zuf _ _ _ _ _ _ p d (s:Int) wz (KP.out _ hw1z) (KC.out _ hw1z) (HFK.out.keep (Q:=In wz) (In.keep hbz).1 (In.keep hbz).2) HR.out.small (zd1 HF.out) (ck HG1.out hw1z));rw [zua HF.out ⟨by omega,by have:=HNS.out; omega⟩,HNS.out,HWL.out] at HLK;have hpz:=zah HPW.out hbz;have hdz:=zah HDW.out hbz;have y0:=hpz.cell (i:=0) (by show 0 < 5; omega);have y1:=hpz.cell (i:=1) (by show 1 < 5; omega);have y2:=hpz.cell (i:=2) (by show 2 < 5; omega);have y3:=hpz.cell (i:=3) (by show 3 < 5; omega);have y4:=hpz.cell (i:=4) (by show 4 < 5; omega);have x1:=hdz.cell (i:=1) (by omega);have x2:=hdz.cell (i:=2) (by omega);have x3:=hdz.cell (i:=3) (by omega);have x4:=hdz.cell (i:=4) (by omega);have HBZ:=zaa hbz;clear hw1z hpz hdz hbz;obtain ⟨lv,hlv⟩:∃ v,v = zuj p d (s:Int):=⟨_,rfl⟩;rw [← hlv] at hlk HLK;clear hlv;rcases zuv (q:=zu0 p d (s:Int) nw) with e | e
       ·rw [e] at r0 hlk;have hlk2:decide (0 ≤ lv) = false:=hlk;clear hlk e
        go_wp2_with fail
        refine HLK.out.mono ?_;clear HLK y0 y1 y2 y3 y4 x1 x2 x3 x4 r0;rintro e w5 ⟨rfl,hb5⟩;have FIN:=zaa (HBZ.out.trans (hb5.mono HBZ.out.size));clear hb5;go_wp2;go_roundw
        case rel=>exact ⟨s + 1,by omega,by go_num,FIN.out⟩
        case measure=>simp [intOf]; omega
       ·rw [e] at r0 hlk;have hlk2:decide (0 ≤ lv) = true:=hlk;clear hlk e
        go_wp2_with fail
        refine HLK.out.mono ?_;clear HLK y0 y1 y2 y3 y4 x1 x2 x3 x4 r0;rintro e w5 ⟨rfl,hb5⟩;have FIN:=zaa (HBZ.out.trans (hb5.mono HBZ.out.size));clear hb5;go_wp2;go_roundw
        case rel=>exact ⟨s + 1,by omega,by go_num,FIN.out⟩
        case measure=>simp [intOf]; omega
      ·have hltsi:decide ((s:Int) < (ns:Int)) = false:=decide_eq_false (by omega);have hfin:=HBB.out.trans ((HBK.out.below HBB.out.size fun c hc=>by have:=HDB.out; omega).trans (hbz.mono (Nat.le_trans HBB.out.size HBK.out.size)));go_wp2;go_roundw
       case rel=>exact ⟨t + 1,by omega,by go_num,hfin⟩
       case measure=>simp [intOf]; omega
  ·have hlti:decide ((t:Int) < (ne:Int)) = false:=decide_eq_false (by omega);go_wp2;go_ret;exact ⟨rfl,HB1.out.trans ((HT3.out.below.trans (hbr.mono hw13)).mono HB1.out.size)⟩
end Go.Proofs.YtdhinkgjiapigaaGreatDoor

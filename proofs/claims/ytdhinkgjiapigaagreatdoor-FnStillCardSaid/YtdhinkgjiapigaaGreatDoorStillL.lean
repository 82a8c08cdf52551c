import Derived.Test.YtdhinkgjiapigaaGreatDoorHeldGs
import Derived.Test.YtdhinkgjiapigaaGreatDoorStillF
import Derived.Test.YtdhinkgjiapigaaGreatDoorRunJ
import Derived.Test.YtdhinkgjiapigaaGreatDoorPlB
import Derived.Test.YtdhinkgjiapigaaGreatDoorLast3
import Derived.Deep.DeepCutAuto
namespace Go.Proofs.YtdhinkgjiapigaaGreatDoor
open Go.RowKit Go.Deep
open Classical
set_option maxRecDepth 100000 in
set_option maxHeartbeats 16000000 in
theorem zvz (a:Option Addr) (n c:Nat) (w:World) (hv:Bys (In w) w (.slice a n c) n) (hn:n ≤ 9223372036854775807) (hg:w.cell? ⟨1,0,none⟩ = some zrv) :
  Calls Tryz.prog 5 #[.slice a n c] w fun e w'=>e = .returned (.bool true) ∧ Below w.heap.size w w':=by
 have HG:=zaa hg;have HB0:=zaa (Below.refl w.heap.size w);by_cases hs:n ≤ 1048576
 case neg=>
  have hgd:decide ((1048576:Int) < (n:Int)) = true:=decide_eq_true (by omega);go_enter Tryz.func5,Tryz.ntmps5;go_wp2;go_ret;exact ⟨rfl,HB0.out⟩
 have HDR:=zaa (zrf a n c w hv hs);clear hv hg;have hgd:decide ((1048576:Int) < (n:Int)) = false:=decide_eq_false (by omega);go_enter Tryz.func5,Tryz.ntmps5
 go_wp2_with fail
 refine HDR.out.mono ?_;clear HDR hgd hs hn HB0;rintro e w1 ⟨v1,v2,v3,ve,p,es,rfl,hR,hp,hwc,hes,hel,hb1⟩;obtain ⟨a1,c1,rfl⟩:=hp.1.size;obtain ⟨a2,c2,rfl⟩:=hp.2.1.size;obtain ⟨a3,c3,rfl⟩:=hp.2.2.size;obtain ⟨ae,ce,rfl⟩:=hes.size;have hpi:=hp.keep (zax _ _) (Q:=In w1) fun b hb=>hb.2;have hwi:=hwc.keep (zax _ _) (Q:=In w1) fun b hb=>hb.2;have hei:=hes.keep (zax _ _) (Q:=In w1) fun b hb=>hb.2;obtain ⟨nw,hnw⟩:∃ m,m = p.ways.length:=⟨_,rfl⟩;obtain ⟨ne,hne⟩:∃ m,m = es.length:=⟨_,rfl⟩;obtain ⟨ns,hns⟩:∃ m:Nat,p.sections = (m:Int):=⟨p.sections.toNat,by have:=hR.parts.1.1.1; omega⟩;rw [← hnw] at hpi hwi ⊢;rw [← hne] at hei hel ⊢
 have hn60:ns ≤ 60:=by have:=hR.parts.1.1.2; omega
 have hnw100:nw ≤ 100:=by rw [hnw]; exact hR.parts.1.2.2.1
 have KP:=zaa fun (W:World) (h:Below w1.heap.size w1 W)=>hpi.keep (Q:=In W) (In.keep h).1 (In.keep h).2;have KC:=zaa fun (W:World) (h:Below w1.heap.size w1 W)=>hwi.keep (Q:=In W) (In.keep h).1 (In.keep h).2;have KE:=zaa fun (W:World) (h:Below w1.heap.size w1 W)=>hei.keep (Q:=In W) (In.keep h).1 (In.keep h).2;have HR:=zaa hR;have HNW:=zaa hnw;have HNE:=zaa hne;have HNS:=zaa hns;have HB1:=zaa hb1;have HG1:=zaa (ck HG.out hb1);rw [hns];clear hp hwc hes hR hpi hwi hei hnw hne hns hb1 HG;have T2:=zaw w1 27 #[.int .i64 (ns:Int),.slice a1 p.switches.length c1,.slice a2 nw c2,.slice a3 p.bars.length c3,.int .i64 p.hold];have HBEG:=zaa (zjd _ _ _ p _ (KP.out _ T2.below) HR.out.small (ck HG1.out T2.below));rw [HNS.out] at HBEG;have HT2:=zaa T2;clear T2
 go_wp2_with fail
 refine HBEG.out.mono ?_;clear HBEG;rintro e w2 ⟨u1,u2,u3,rfl,hb2,hfm⟩;have hz:zdd p = zaq p:=if_pos HR.out;rw [hz] at hfm ⊢;obtain ⟨q1,s1,q2,s2,q3,s3,rfl,rfl,rfl⟩:=hfm.slices;obtain ⟨F,hF⟩:∃ F,F = zaq p:=⟨_,rfl⟩
 have HFR0:Hid (zas p F):=by show zas p F; rw [hF]; exact zdp HR.out
 have HF0:=zaa hF;rw [← hF] at hfm ⊢
 have hFw:F.ways.length = nw:=by rw [HFR0.out.2.2.2.2.1]; exact HNW.out.symm
 rw [hFw] at hfm ⊢;have hbn:=zab w2 (.cells #[.bool F.ok,.slice q1 F.occ.length s1,.slice q2 F.points.length s2,.slice q3 nw s3] 40);have hrn:(w2.alloc (.cells #[.bool F.ok,.slice q1 F.occ.length s1,.slice q2 F.points.length s2,.slice q3 nw s3] 40)).rowIs w2.heap.size 40 4 (fun i=>(#[.bool F.ok,.slice q1 F.occ.length s1,.slice q2 F.points.length s2,.slice q3 nw s3]:Array Value)[i]!):=zak w2 40 #[.bool F.ok,.slice q1 F.occ.length s1,.slice q2 F.points.length s2,.slice q3 nw s3];have T2b:=(HT2.out.call hb2).call hbn;have hfa:=hfm.read;have HFA0:=zaa hfa;have HRN0:=zaa hrn;have HBN0:=zaa hbn;have HTB:=zaa T2b;have hrp:=T2b.row 0 _ _ rfl;rw [Nat.add_zero] at hrp;have y0:=hrp.cell (i:=0) (by show 0 < 5; omega);have y1:=hrp.cell (i:=1) (by show 1 < 5; omega);have y2:=hrp.cell (i:=2) (by show 2 < 5; omega);have y3:=hrp.cell (i:=3) (by show 3 < 5; omega);have y4:=hrp.cell (i:=4) (by show 4 < 5; omega);have HRUN:=zaa (zqw _ _ _ _ p es _ (KP.out _ T2b.below) (KC.out _ T2b.below) (KE.out _ T2b.below) HR.out.small (by rw [← HNE.out]; omega) (ck HG1.out T2b.below));rw [HNS.out] at HRUN;have hw12:w1.heap.size < w2.heap.size:=(HT2.out.call hb2).lt (j:=0) rfl;clear hz hF hfm hfa hbn hrn T2b hrp hb2 HT2 hFw
 go_wp2_with fail
 refine HRUN.out.mono ?_;clear HRUN y0 y1 y2 y3 y4;rintro e w3 ⟨vd,rfl,hb3,hdr⟩;obtain ⟨fb,hfb⟩:∃ b,b = w2.heap.size:=⟨_,rfl⟩;have hLr:zp2 p es = zdu p (zaq p) es:=if_pos ⟨HR.out,by rw [← HNE.out]; omega⟩;rw [hLr] at hdr;obtain ⟨L,hL⟩:∃ L,L = zdu p (zaq p) es:=⟨_,rfl⟩;rw [← hL] at hdr
 have hLn:L.length = ne:=by rw [hL,zq3,HNE.out]
 have HL:=zaa hL;have HLN:=zaa hLn;have hda:=hdr.read;obtain ⟨ad,cd,rfl⟩:=hda.size;rw [hLn] at hda ⊢;have T3:=HTB.out.call hb3;have hsz3:=hb3.size;have hszB:=HBN0.out.size;have hlt2:w2.heap.size < (w2.alloc (.cells #[.bool F.ok,.slice q1 F.occ.length s1,.slice q2 F.points.length s2,.slice q3 nw s3] 40)).heap.size:=HRN0.out.lt
 have hH0:HlB w3 fb w3 F (.slice q1 F.occ.length s1) (.slice q2 F.points.length s2) (.slice q3 nw s3):=by
  rw [hfb];exact ⟨But.refl _ _,zah HRN0.out hb3,HFA0.out.keep (za0 (HBN0.out.trans (hb3.mono HBN0.out.size)) fun b (hb:b < w2.heap.size)=>hb) fun b (hb:b < w2.heap.size)=>⟨by omega,by omega⟩⟩
 have HH0:=zaa hH0;have KD:=zaa fun (W:World) (h:But (fun c=>c ≠ fb) w3 W)=>hda.keep (Q:=fun b=>b < w3.heap.size ∧ b ≠ fb) (h.same fun b hb=>⟨hb.2,by omega⟩) fun b hb=>⟨hb.2,by omega⟩;have KW:=zaa fun (W:World) (h:But (fun c=>c ≠ fb) w3 W)=>T3.below.trans (h.below T3.below.size fun c hc=>by omega);have HPR:=zaa (T3.row 0 _ _ rfl);rw [Nat.add_zero] at HPR;have HG3:=zaa (ck HG1.out T3.below)
 have hw13:w1.heap.size < fb:=by omega
 rw [← hfb];clear hL hLr hLn hdr hda T3 hb3 hH0 HTB HRN0 HBN0 HFA0 hsz3 hszB hlt2 hfb hw12;go_wp2
 go_loopw [38] (fun z wr=>∃ (i:Nat) (u1 u2 u3:Value),i ≤ ne ∧ z = .int .i64 (i:Int) ∧ HlB w3 fb wr (zfu p es i) u1 u2 u3) (fun z _=>ne - (intOf z).toNat)
 case atStart=>exact ⟨0,_,_,_,by omega,rfl,by rw [zu7,← HF0.out]; exact HH0.out⟩
 case round=>
  obtain ⟨i,u1,u2,u3,hi,rfl,hH⟩:=hrel;rename World=>wr;clear HH0;by_cases hlt:i < ne
  ·have hlti:decide ((i:Int) < (ne:Int)) = true:=decide_eq_true (by omega)
   have hin:(i:Int) < (ne:Int):=by omega
   obtain ⟨ev,hev,hst⟩:=zrp (p:=p) (es:=es) (i:=i) (by have:=HNE.out; omega);rw [← HL.out] at hst;have hnx:=zqk (p:=p) hev;have hff:zas p (zfu p es i):=zi8 HR.out es (by have:=HNE.out; omega);have hwd:zvp p (zfu p es (i + 1)):=zv0 HR.out es (i + 1) (by have:=HNE.out; omega);obtain ⟨f,hfe⟩:∃ f,f = zfu p es i:=⟨_,rfl⟩;rw [← hfe] at hH hst hnx hff;rw [hnx] at hwd;obtain ⟨⟨code,d⟩,hx⟩:∃ x,x = zdx p f ev:=⟨_,rfl⟩;rw [← hx] at hst hnx hwd
   have hf:zas p d:=by have:=zim hff ev; rw [← hx] at this; exact this
   obtain ⟨ad',cd',e,h0 | ⟨bd,od,rfl,-,hcd⟩⟩:=KD.out wr hH.but
   ·have:=HLN.out; omega
   rw [HLN.out] at e
   cases e
   obtain ⟨v1,v2,v3,hfa,g0,g1,g2,g3,g4⟩:=hcd i (by have:=HLN.out; omega) _ hst;simp only at g0 g1 hfa;obtain ⟨o1,m1,rfl⟩:=hfa.1.size;obtain ⟨o2,m2,rfl⟩:=hfa.2.1.size;obtain ⟨o3,m3,rfl⟩:=hfa.2.2.size;have hdp:d.points.length = p.switches.length:=hf.2.2.2.1;have hfp:f.points.length = p.switches.length:=hff.2.2.2.1
   have hfo:f.occ.length = ns:=by have:=hff.2.2.1; have:=HNS.out; omega
   have hsw40:p.switches.length ≤ 40:=HR.out.parts.1.2.1;have hfl:=hH.frame;obtain ⟨j1,t1,rfl⟩:=hfl.1.size;obtain ⟨j2,t2,rfl⟩:=hfl.2.1.size;obtain ⟨j3,t3,rfl⟩:=hfl.2.2.size;rw [hdp] at g3;rw [hfp,hfo] at hH;have hbn:=zab wr (.cells #[.int .i64 code,.bool d.ok,.slice o1 d.occ.length m1,.slice o2 p.switches.length m2,.slice o3 d.ways.length m3] 42);have hrn:(wr.alloc (.cells #[.int .i64 code,.bool d.ok,.slice o1 d.occ.length m1,.slice o2 p.switches.length m2,.slice o3 d.ways.length m3] 42)).rowIs wr.heap.size 42 5 (fun i=>(#[.int .i64 code,.bool d.ok,.slice o1 d.occ.length m1,.slice o2 p.switches.length m2,.slice o3 d.ways.length m3]:Array Value)[i]!):=zak wr 42 #[.int .i64 code,.bool d.ok,.slice o1 d.occ.length m1,.slice o2 p.switches.length m2,.slice o3 d.ways.length m3];have hHA:=hH.call hbn;have hpr:=hHA.but.row HPR.out (by omega);have y0:=hpr.cell (i:=0) (by show 0 < 5; omega);have y1:=hpr.cell (i:=1) (by show 1 < 5; omega);have x2:=hrn.cell (i:=3) (by omega);have f1:=hHA.fbox.cell (i:=1) (by omega);have f2:=hHA.fbox.cell (i:=2) (by omega);have hfa2:=hfa.keep (Q:=fun b=>b < w3.heap.size ∧ b ≠ fb) (za0 hbn fun b hb=>Nat.lt_of_lt_of_le hb.1 hH.but.size) fun _ z=>z;have HFA:=zaa hfa2;have HF:=zaa hf;have HFF:=zaa hff;have HDP:=zaa hdp;have HFP:=zaa hfp;have HFO:=zaa hfo;have HX:=zaa hx;have HEV:=zaa hev;have HNX:=zaa hnx;have HWD:=zaa hwd;have HRN:=zaa hrn;have HHA:=zaa hHA;have hdf:fb < wr.heap.size:=hH.fbox.lt;clear hx hf hff hcd hfa hfa2 hdp hfp hfo hfl hbn hrn hHA hpr hev hst hnx hfe hH hwd
   go_wp2;obtain ⟨WA,hWA⟩:∃ W,W = wr.alloc (.cells #[.int .i64 code,.bool d.ok,.slice o1 d.occ.length m1,.slice o2 p.switches.length m2,.slice o3 d.ways.length m3] 42):=⟨_,rfl⟩;obtain ⟨db,hdb⟩:∃ b,b = wr.heap.size:=⟨_,rfl⟩;rw [← hWA] at HRN HHA HFA ⊢;rw [← hdb] at HRN hdf ⊢;clear hWA hdb y0 y1 x2 f1 f2 g0 g1 g2 g3 g4
   go_loopw [72] (fun z wk=>∃ k:Nat,k ≤ p.switches.length ∧ z = .int .i64 (k:Int) ∧ Below WA.heap.size WA wk) (fun z _=>p.switches.length - (intOf z).toNat)
   case atStart=>exact ⟨0,by omega,rfl,Below.refl _ _⟩
   case round=>
    obtain ⟨k,hk,rfl,hbk⟩:=hrel;rename World=>wk;by_cases hltk:k < p.switches.length
    ·have hltki:decide ((k:Int) < (p.switches.length:Int)) = true:=decide_eq_true (by omega)
     have hkn:(k:Int) < (p.switches.length:Int):=by omega
     obtain ⟨b,hb⟩:=zac d.points HDP hltk;obtain ⟨a0,ha⟩:=zac f.points HFP hltk;have hHk:=HHA.out.call hbk;have hfk:=HFA.out.keep (Q:=fun b=>b < w3.heap.size ∧ b ≠ fb) (za0 hbk fun b hb=>Nat.lt_of_lt_of_le hb.1 HHA.out.but.size) fun _ z=>z;obtain ⟨-,⟨af,kf,ef,h0 | ⟨bf,off,rfl,-,hcf⟩⟩,-⟩:=id hfk
     ·have:=HDP.out; omega
     rw [HDP.out] at ef
     cases ef
     obtain ⟨q0,q1⟩:=hcf k (by have:=HDP.out; omega) b hb;have T5:=zaw wk 46 #[.int .i64 b.1,.int .i64 b.2];obtain ⟨WB,hWB⟩:∃ W,W = wk.alloc (.cells #[.int .i64 b.1,.int .i64 b.2] 46):=⟨_,rfl⟩;rw [← hWB] at T5;have hHB:=hHk.call T5.below;have hbr1:=T5.row 0 _ _ rfl;rw [Nat.add_zero] at hbr1;have HHB:=zaa hHB;have HBR:=zaa hbr1;have HBK:=zaa (hbk.trans (T5.below.mono hbk.size));have HRD:=zaa (zah (zah HRN.out hbk) T5.below);have HFK:=zaa (hfk.keep (Q:=fun b=>b < w3.heap.size ∧ b ≠ fb) (za0 T5.below fun b hb=>Nat.lt_of_lt_of_le hb.1 hHk.but.size) fun _ z=>z);have HBB:=zaa hb;have HAA:=zaa ha;clear hcf hfk hHk T5 hHB hbr1 hb ha hbk
     go_upto_region 16 with fail
     rw [← hWB];obtain ⟨hb,hhb⟩:∃ b,b = wk.heap.size:=⟨_,rfl⟩;rw [← hhb] at HBR ⊢;clear hWB hhb q0 q1
     go_cut [125] (fun v wc=>v = .bool false ∧ Below WB.heap.size WB wc)
     case first=>
      obtain ⟨-,⟨ag,kg,eg,h0 | ⟨bg,ofg,rfl,-,hcg⟩⟩,-⟩:=id HHB.out.frame
      ·have:=HFP.out; omega
      rw [HFP.out] at eg
      cases eg
      obtain ⟨z0,-⟩:=hcg k (by have:=HFP.out; omega) a0 HAA.out;have l0:=HBR.out.cell (i:=0) (by show 0 < 2; omega);have f2:=HHB.out.fbox.cell (i:=2) (by omega);clear hcg;by_cases hab:b.1 = a0.1
      ·have habb:(b.1 != a0.1) = false:=by simp [hab]
       have HAB:=zaa hab;clear hab
       go_quiet (fail)
       go_wp2;go_meet
       case rel=>exact ⟨rfl,zan _ _⟩
      ·have habb:(b.1 != a0.1) = true:=by simp [hab]
       obtain ⟨hop,hcode,hocc,hnone⟩:=zvk HFF.out HAA.out (show (zdx p f ev).2.points[k]? = some b by rw [← HX.out]; exact HBB.out) hab;rw [← HX.out] at hcode
       have hc0b:(code != 0) = false:=by have:code = 0:=hcode; simp [this]
       obtain ⟨ax,kx,ex,h0 | ⟨be,oe,rfl,-,hce⟩⟩:=KE.out _ (KW.out _ HHB.out.but)
       ·have:=HNE.out; omega
       rw [← HNE.out] at ex
       cases ex
       have v0:=(hce i (by have:=HNE.out; omega) ev HEV.out).1;obtain ⟨⟨as1,ks1,es1,h0 | ⟨bs,os,rfl,-,hcs⟩⟩,-,-⟩:=KP.out _ (KW.out _ HHB.out.but)
       ·omega
       cases es1
       obtain ⟨sv,hsv⟩:=zac p.switches (zaa rfl) hltk;have x0:=hcs k hltk sv hsv;have hsr:InR sv 0 (p.sections - 1):=Decidable.byContradiction fun z=>HR.out.parts.2.1 k ⟨sv,hsv,z⟩;have hs0:0 ≤ sv:=hsr.1
       have hs1:sv < (ns:Int):=by have:=hsr.2; have:=HNS.out; omega
       obtain ⟨⟨ao,ko,eo,h0 | ⟨bo,oo,rfl,-,hco⟩⟩,-,-⟩:=id HHB.out.frame
       ·have:=HFO.out; omega
       rw [HFO.out] at eo
       cases eo
       obtain ⟨o,ho⟩:∃ o,f.occ[sv.toNat]? = some o:=⟨f.occ[sv.toNat]'(by have:=HFO.out; omega),List.getElem?_eq_getElem _⟩
       have hof:o = false:=by
        have:=hocc;rw [List.getD_eq_getElem?_getD,hsv] at this;have t2:za1 f.occ sv = false:=this;rw [zc5 ho] at t2;exact t2
       subst hof;have oc:=hco sv.toNat (by have:=HFO.out; omega) _ ho;have hpr:=HHB.out.but.row HPR.out (by omega);have hks:∀ W,Below WB.heap.size WB W → (fun W:World=>W.cell? ⟨hb,0,none⟩ = some (.int .i64 b.1) ∧ W.cell? ⟨bg,ofg + k * 2,none⟩ = some (.int .i64 a0.1) ∧ W.cell? ⟨be,oe + i * 3,none⟩ = some (.int .i64 ev.1) ∧ W.cell? ⟨db,0,none⟩ = some (.int .i64 code) ∧ W.cell? ⟨bs,os + k,none⟩ = some (.int .i64 sv) ∧ W.cell? ⟨bo,oo + sv.toNat,none⟩ = some (.bool false) ∧ W.cell? ⟨w1.heap.size,0,none⟩ = some (.int .i64 (ns:Int)) ∧ W.cell? ⟨w1.heap.size,1,none⟩ = some (.slice (some ⟨bs,os,none⟩) p.switches.length c1) ∧ W.cell? ⟨w1.heap.size,2,none⟩ = some (.slice a2 nw c2) ∧ W.cell? ⟨w1.heap.size,3,none⟩ = some (.slice a3 p.bars.length c3) ∧ W.cell? ⟨w1.heap.size,4,none⟩ = some (.int .i64 p.hold) ∧ W.cell? ⟨fb,0,none⟩ = some (.bool f.ok) ∧ W.cell? ⟨fb,1,none⟩ = some (.slice (some ⟨bo,oo,none⟩) ns t1) ∧ W.cell? ⟨fb,2,none⟩ = some (.slice (some ⟨bg,ofg,none⟩) p.switches.length t2) ∧ W.cell? ⟨fb,3,none⟩ = some (.slice j3 f.ways.length t3)) W:=fun W hW=>⟨ck l0 hW,ck z0 hW,ck v0 hW,(zah HRD.out hW).cell (i:=0) (by omega),ck x0 hW,ck oc hW,(zah hpr hW).cell (i:=0) (by show 0 < 5; omega),(zah hpr hW).cell (i:=1) (by show 1 < 5; omega),(zah hpr hW).cell (i:=2) (by show 2 < 5; omega),(zah hpr hW).cell (i:=3) (by show 3 < 5; omega),(zah hpr hW).cell (i:=4) (by show 4 < 5; omega),(zah HHB.out.fbox hW).cell (i:=0) (by omega),(zah HHB.out.fbox hW).cell (i:=1) (by omega),(zah HHB.out.fbox hW).cell (i:=2) (by omega),(zah HHB.out.fbox hW).cell (i:=3) (by omega)⟩
       have hpl:∀ W,Below WB.heap.size WB W → Calls Tryz.prog 22 #[.agg #[.int .i64 (ns:Int),.slice (some ⟨bs,os,none⟩) p.switches.length c1,.slice a2 nw c2,.slice a3 p.bars.length c3,.int .i64 p.hold],.agg #[.bool f.ok,.slice (some ⟨bo,oo,none⟩) ns t1,.slice (some ⟨bg,ofg,none⟩) p.switches.length t2,.slice j3 f.ways.length t3],.int .i64 (k:Int)] W fun e w'=>∃ v,e = .returned v ∧ Below W.heap.size W w' ∧ OwnI W.heap.size w' v []:=fun W hW=>by
        have hB:=HHB.out.call hW;have hc:=zvc _ _ _ _ _ _ p f (k:Int) W (KP.out _ (KW.out _ hB.but)) (KC.out _ (KW.out _ hB.but)) (hB.frame.keep (Q:=In W) (zax _ _) fun b hb=>Nat.lt_of_lt_of_le hb.1 hB.but.size) HR.out.small (zd1 HFF.out) (ck HG1.out (KW.out _ hB.but));rw [zve HFF.out ⟨by omega,by omega⟩,hnone,HNS.out] at hc;exact hc
       have KS:=zaa hks;have HPL:=zaa hpl;clear hks hpl hcs hco ho hsv hsr hce hpr hcode hnone hocc l0 z0 f2 v0 x0 oc hab;rcases hop with hop | hop
       ·have o1:(ev.1 != 1) = false:=by simp [hop]
        have HOP:=zaa hop;clear hop;refine zwt (S:=fun W:World=>W.cell? ⟨hb,0,none⟩ = some (.int .i64 b.1) ∧ W.cell? ⟨bg,ofg + k * 2,none⟩ = some (.int .i64 a0.1) ∧ W.cell? ⟨be,oe + i * 3,none⟩ = some (.int .i64 ev.1) ∧ W.cell? ⟨db,0,none⟩ = some (.int .i64 code) ∧ W.cell? ⟨bs,os + k,none⟩ = some (.int .i64 sv) ∧ W.cell? ⟨bo,oo + sv.toNat,none⟩ = some (.bool false) ∧ W.cell? ⟨w1.heap.size,0,none⟩ = some (.int .i64 (ns:Int)) ∧ W.cell? ⟨w1.heap.size,1,none⟩ = some (.slice (some ⟨bs,os,none⟩) p.switches.length c1) ∧ W.cell? ⟨w1.heap.size,2,none⟩ = some (.slice a2 nw c2) ∧ W.cell? ⟨w1.heap.size,3,none⟩ = some (.slice a3 p.bars.length c3) ∧ W.cell? ⟨w1.heap.size,4,none⟩ = some (.int .i64 p.hold) ∧ W.cell? ⟨fb,0,none⟩ = some (.bool f.ok) ∧ W.cell? ⟨fb,1,none⟩ = some (.slice (some ⟨bo,oo,none⟩) ns t1) ∧ W.cell? ⟨fb,2,none⟩ = some (.slice (some ⟨bg,ofg,none⟩) p.switches.length t2) ∧ W.cell? ⟨fb,3,none⟩ = some (.slice j3 f.ways.length t3)) 49 49 (by kernel_rfl) (by kernel_rfl) (KS.out _ (zaf _)) (fun hS=>?_);have hbD:=zaf WB;obtain ⟨wD,hwD⟩:∃ W,W = WB.drew:=⟨_,rfl⟩;rw [← hwD] at hS hbD ⊢;clear hwD
        iterate 17
         refine tfI (by rfl) (by kernel_rfl) (by exact fun _ _ _ h=>h) (by kernel_rfl) (by intro _ s; (try dsimp only at s); go_simp; try with_reducible rfl) hS ?_
         try simp only [Act.put,sA,sB,sC]
        iterate 6
         refine tfJ (by rfl) (by kernel_rfl) (by exact fun _ _ _ h=>h) (by kernel_rfl) hS ?_
         try simp only [Act.put,sA,sB,sC]
        iterate 21
         refine tfI (by rfl) (by kernel_rfl) (by exact fun _ _ _ h=>h) (by kernel_rfl) (by intro _ s; (try dsimp only at s); go_simp; try with_reducible rfl) hS ?_
         try simp only [Act.put,sA,sB,sC]
        clear hS;refine zbk (i:=44) At.z.s.s.s.s.s.s.s.s.s.s.s.s.s.s.s.s.s.s.s.s.s.s.s.s.s.s.s.s.s.s.s.s.s.s.s.s.s.s.s.s.s.s.s.s (by kernel_rfl) (fun K2 hK2=>?_);rw [if_pos (by kernel_rfl)];go_simp;refine (HPL.out wD hbD).mono ?_;rintro e wE ⟨v,rfl,hbE,hv⟩;obtain ⟨mv,hv⟩:=hv
        have hmv:mv = 0:=by have:=hv.1; simpa [zcg] using this.symm
        subst hmv;obtain ⟨av,cv,rfl⟩:=zag hv;have hbDE:=hbD.trans (hbE.mono hbD.size);have hS:=KS.out _ hbDE;refine hK2.out _ _ hS ?_;clear hK2 K2 hbE hv
        try simp only [Act.put,sA,sB,sC]
        iterate 4
         refine tfI (by rfl) (by kernel_rfl) (by exact fun _ _ _ h=>h) (by kernel_rfl) (by intro _ s; (try dsimp only at s); go_simp; try with_reducible rfl) hS ?_
         try simp only [Act.put,sA,sB,sC]
        refine zlu (by kernel_rfl) ?_;go_wp2;go_meet
        case rel=>exact ⟨rfl,hbDE⟩
       ·have o1:(ev.1 != 1) = true:=by simp [hop]
        have o6:(ev.1 != 6) = false:=by simp [hop]
        have HOP:=zaa hop;clear hop;refine zwt (S:=fun W:World=>W.cell? ⟨hb,0,none⟩ = some (.int .i64 b.1) ∧ W.cell? ⟨bg,ofg + k * 2,none⟩ = some (.int .i64 a0.1) ∧ W.cell? ⟨be,oe + i * 3,none⟩ = some (.int .i64 ev.1) ∧ W.cell? ⟨db,0,none⟩ = some (.int .i64 code) ∧ W.cell? ⟨bs,os + k,none⟩ = some (.int .i64 sv) ∧ W.cell? ⟨bo,oo + sv.toNat,none⟩ = some (.bool false) ∧ W.cell? ⟨w1.heap.size,0,none⟩ = some (.int .i64 (ns:Int)) ∧ W.cell? ⟨w1.heap.size,1,none⟩ = some (.slice (some ⟨bs,os,none⟩) p.switches.length c1) ∧ W.cell? ⟨w1.heap.size,2,none⟩ = some (.slice a2 nw c2) ∧ W.cell? ⟨w1.heap.size,3,none⟩ = some (.slice a3 p.bars.length c3) ∧ W.cell? ⟨w1.heap.size,4,none⟩ = some (.int .i64 p.hold) ∧ W.cell? ⟨fb,0,none⟩ = some (.bool f.ok) ∧ W.cell? ⟨fb,1,none⟩ = some (.slice (some ⟨bo,oo,none⟩) ns t1) ∧ W.cell? ⟨fb,2,none⟩ = some (.slice (some ⟨bg,ofg,none⟩) p.switches.length t2) ∧ W.cell? ⟨fb,3,none⟩ = some (.slice j3 f.ways.length t3)) 49 49 (by kernel_rfl) (by kernel_rfl) (KS.out _ (zaf _)) (fun hS=>?_);have hbD:=zaf WB;obtain ⟨wD,hwD⟩:∃ W,W = WB.drew:=⟨_,rfl⟩;rw [← hwD] at hS hbD ⊢;clear hwD
        iterate 44
         refine tfI (by rfl) (by kernel_rfl) (by exact fun _ _ _ h=>h) (by kernel_rfl) (by intro _ s; (try dsimp only at s); go_simp; try with_reducible rfl) hS ?_
         try simp only [Act.put,sA,sB,sC]
        clear hS;refine zbk (i:=44) At.z.s.s.s.s.s.s.s.s.s.s.s.s.s.s.s.s.s.s.s.s.s.s.s.s.s.s.s.s.s.s.s.s.s.s.s.s.s.s.s.s.s.s.s.s (by kernel_rfl) (fun K2 hK2=>?_);rw [if_pos (by kernel_rfl)];go_simp;refine (HPL.out wD hbD).mono ?_;rintro e wE ⟨v,rfl,hbE,hv⟩;obtain ⟨mv,hv⟩:=hv
        have hmv:mv = 0:=by have:=hv.1; simpa [zcg] using this.symm
        subst hmv;obtain ⟨av,cv,rfl⟩:=zag hv;have hbDE:=hbD.trans (hbE.mono hbD.size);have hS:=KS.out _ hbDE;refine hK2.out _ _ hS ?_;clear hK2 K2 hbE hv
        try simp only [Act.put,sA,sB,sC]
        iterate 4
         refine tfI (by rfl) (by kernel_rfl) (by exact fun _ _ _ h=>h) (by kernel_rfl) (by intro _ s; (try dsimp only at s); go_simp; try with_reducible rfl) hS ?_
         try simp only [Act.put,sA,sB,sC]
        refine zlu (by kernel_rfl) ?_;go_wp2;go_meet
        case rel=>exact ⟨rfl,hbDE⟩
     case rest=>
      as_aux_lemma=>
       obtain ⟨rfl,hbc⟩:=hcut;have hHc:=HHB.out.call hbc;have hrd:=zah HRD.out hbc;have hfc:=HFK.out.keep (Q:=In wc) (za0 hbc fun b hb=>Nat.lt_of_lt_of_le hb.1 HHB.out.but.size) fun b hb=>Nat.lt_of_lt_of_le hb.1 hHc.but.size;have hpr:=hHc.but.row HPR.out (by omega);have hc:=zvc _ _ _ _ _ _ p d (k:Int) wc (KP.out _ (KW.out _ hHc.but)) (KC.out _ (KW.out _ hHc.but)) hfc HR.out.small (zd1 HF.out) (ck HG1.out (KW.out _ hHc.but));rw [zve HF.out ⟨by omega,by omega⟩,HNS.out,HDP.out] at hc;have HCL:=zaa hc;have y0:=hpr.cell (i:=0) (by show 0 < 5; omega);have y1:=hpr.cell (i:=1) (by show 1 < 5; omega);have y2:=hpr.cell (i:=2) (by show 2 < 5; omega);have y3:=hpr.cell (i:=3) (by show 3 < 5; omega);have y4:=hpr.cell (i:=4) (by show 4 < 5; omega);have x1:=hrd.cell (i:=1) (by omega);have x2:=hrd.cell (i:=2) (by omega);have x3:=hrd.cell (i:=3) (by omega);have x4:=hrd.cell (i:=4) (by omega);have HHC:=zaa hHc;have HBC:=zaa hbc;clear hHc hrd hfc hpr hc hbc
       go_wp2_with fail
       refine HCL.out.mono ?_;clear HCL y0 y1 y2 y3 y4 x1 x2 x3 x4;rintro e wE ⟨v,rfl,hbE,mv,hv⟩;obtain ⟨hml,hvi⟩:=zb2 hv;subst hml;obtain ⟨av,cv,rfl⟩:=zag hv;obtain ⟨nl,hnl⟩:∃ m,m = (zbn p d (k:Int)).length:=⟨_,rfl⟩
       have hnl100:nl ≤ 100:=by rw [hnl]; exact Nat.le_trans (zg2 _ _) (by have:=HNW.out; omega)
       rw [← hnl] at hvi ⊢;have HNLL:=zaa hnl;have HVI:=zaa hvi;have HHE:=zaa (HHC.out.call hbE);have HBE:=zaa (HBK.out.trans ((HBC.out.trans (hbE.mono HBC.out.size)).mono HBK.out.size));have HPTE:=zaa (zah (zah HBR.out HBC.out) hbE);clear hnl hvi hv hbE HHC;go_wp2
       go_loopw [132] (fun z wz=>∃ q:Nat,q ≤ nl ∧ z = .int .i64 (q:Int) ∧ Below wE.heap.size wE wz) (fun z _=>nl - (intOf z).toNat)
       case atStart=>exact ⟨0,by omega,rfl,Below.refl _ _⟩
       case round=>
        obtain ⟨q,hq,rfl,hbz⟩:=hrel;rename World=>wz1;have hend:=HBE.out.trans (hbz.mono HBE.out.size);by_cases hltq:q < nl
        ·as_aux_lemma=>
          have hltqi:decide ((q:Int) < (nl:Int)) = true:=decide_eq_true (by omega)
          have hqn:(q:Int) < (nl:Int):=by omega
          obtain ⟨wv,hwv⟩:=zac (zbn p d (k:Int)) (zaa HNLL.out.symm) hltq;have hmem:=List.mem_of_getElem? hwv
          obtain ⟨iw,hiw,hwe⟩:∃ iw:Nat,iw < nw ∧ wv = (iw:Int):=by
           have hm2:=hmem;unfold zbn at hm2;obtain ⟨j,hj,e⟩:=List.mem_map.1 hm2;exact ⟨j,by have:=List.mem_range.1 (List.mem_filter.1 hj).1; have:=HNW.out; omega,e.symm⟩
          subst hwe;have hwant:=(zvh (by have:=HNW.out; omega)).1 hmem;obtain ⟨x,hx⟩:=zac p.ways (zaa HNW.out.symm) hiw;obtain ⟨h,hh⟩:=zac d.ways (zaa (HF.out.2.2.2.2.1.trans HNW.out.symm)) hiw
          have hfit:((x.lies.any fun y=>y.1 == (k:Int) && y.2 == b.1) || (x.flanks.any fun y=>y.1 == (k:Int) && y.2 == b.1)) = true:=by
           obtain ⟨pt,hp1,hp2⟩:=HWD.out k iw hwant;rw [HBB.out] at hp1
           cases hp1
           rw [zvb hx hh] at hwant hp2;obtain ⟨-,y,hy,e1,e2⟩:=zvd hwant;rw [← List.any_append,List.any_eq_true];exact ⟨y,hy,by simp [e1,e2,hp2]⟩
          have HFIT:=zaa hfit;have HXX:=zaa hx;obtain ⟨axv,kxv,exv,h0 | ⟨bv,ov,rfl,-,hcv⟩⟩:=HVI.out.keep (Q:=fun _=>True) (za0 hbz fun b hb=>hb.2) fun _ _=>trivial
          ·have:=HNLL.out; omega
          rw [← HNLL.out] at exv
          cases exv
          have x0:=hcv q (by have:=HNLL.out; omega) _ hwv;obtain ⟨-,⟨ap,kp,ep,h0 | ⟨bp,ofp,rfl,-,hcp⟩⟩,-⟩:=KP.out w1 (Below.refl _ _)
          ·have:=HNW.out; omega
          rw [← HNW.out] at ep
          cases ep
          obtain ⟨v0,v1,v2,v3,v4,hWAY,-,e1,e2,-⟩:=hcp iw (by have:=HNW.out; omega) x hx;obtain ⟨al,kl,rfl⟩:=hWAY.2.1.size;obtain ⟨af2,kf2,rfl⟩:=hWAY.2.2.1.size;obtain ⟨nl1,hnl1⟩:∃ m,m = x.lies.length:=⟨_,rfl⟩
          have hnl130:nl1 ≤ 30:=by rw [hnl1]; exact (HR.out.way hx).2.2.2.2.1.2
          rw [← hnl1] at e1;have HNL1:=zaa hnl1;have HHZ:=zaa (HHE.out.call hbz);have hB1:=KW.out _ HHZ.out.but;have HB1Z:=zaa hB1;have e1':=ck e1 hB1;have y2:=(HHZ.out.but.row HPR.out (by omega)).cell (i:=2) (by show 2 < 5; omega);have HLL1:=zaa (hWAY.2.1.keep (Q:=In wz1) (In.keep hB1).1 (In.keep hB1).2);rw [← hnl1] at HLL1;have HW1:=zaa hWAY;have HPT1:=zaa (zah HPTE.out hbz);have HWZ:=zaa hbz
          have hiwn:(iw:Int) < (nw:Int):=by omega
          have hiw0:decide ((iw:Int) < 0) = false:=decide_eq_false (by omega);have hiw1:decide ((nw:Int) ≤ (iw:Int)) = false:=decide_eq_false (by omega);clear hwv hmem hwant hx hh hfit hcv hcp hWAY hnl1 hB1 hend hbz;go_wp2;clear x0 y2 e1' hiw0 hiw1
          go_loopw [13,152] (fun v z wx=>∃ j:Nat,j ≤ nl1 ∧ z = .int .i64 (j:Int) ∧ v = .bool (false || ((x.lies.take j).any fun y=>y.1 == (k:Int) && y.2 == b.1)) ∧ Below wz1.heap.size wz1 wx) (fun _ z _=>nl1 - (intOf z).toNat)
          case atStart=>exact ⟨0,by omega,rfl,by simp,Below.refl _ _⟩
          case round=>
           obtain ⟨j,hj,rfl,rfl,hbx⟩:=hrel;rename World=>wx;by_cases hltj:j < nl1
           ·as_aux_lemma=>
             have hltji:decide ((j:Int) < (nl1:Int)) = true:=decide_eq_true (by omega)
             have hjn:(j:Int) < (nl1:Int):=by omega
             obtain ⟨y,hy⟩:=zac x.lies (zaa HNL1.out.symm) hltj;obtain ⟨as1,ks1,es1,h0 | ⟨bs,os,rfl,-,hcs⟩⟩:=HLL1.out.keep (Q:=In wx) (In.keep hbx).1 (In.keep hbx).2
             ·have:=HNL1.out; omega
             cases es1
             obtain ⟨x0,x1⟩:=hcs j (by have:=HNL1.out; omega) y hy;have hbl:=zab wx (.cells #[.int .i64 y.1,.int .i64 y.2] 58);have hrl:(wx.alloc (.cells #[.int .i64 y.1,.int .i64 y.2] 58)).rowIs wx.heap.size 58 2 (fun i=>(#[.int .i64 y.1,.int .i64 y.2]:Array Value)[i]!):=zak wx 58 #[.int .i64 y.1,.int .i64 y.2];have l0:=hrl.cell (i:=0) (by omega);have l1:=hrl.cell (i:=1) (by omega);have hbxl:=hbx.trans (hbl.mono hbx.size);have p0:=(zah HPT1.out hbxl).cell (i:=0) (by show 0 < 2; omega);have FIN:=zaa hbxl
             have HAN:Hid ((x.lies.take (j + 1)).any (fun y=>y.1 == (k:Int) && y.2 == b.1) = ((x.lies.take j).any (fun y=>y.1 == (k:Int) && y.2 == b.1) || (y.1 == (k:Int) && y.2 == b.1))):=by
              show _ = _;rw [List.take_add_one,hy,List.any_append];simp
             obtain ⟨A,hA⟩:∃ A,A = (false || ((x.lies.take j).any fun y=>y.1 == (k:Int) && y.2 == b.1)):=⟨_,rfl⟩;have HA:=zaa hA;rw [← hA]
             have hnew:(false || ((x.lies.take (j + 1)).any fun y=>y.1 == (k:Int) && y.2 == b.1)) = (A || (y.1 == (k:Int) && y.2 == b.1)):=by rw [HAN.out,← Bool.or_assoc,← HA.out]
             have HNEW:=zaa hnew;clear hA hnew hcs hy hbl hrl hbx hbxl
             cases A with
             | true=>
              go_wp2;go_roundw
              case rel=>exact ⟨j + 1,by omega,by go_num,by rw [HNEW.out]; rfl,FIN.out⟩
              case measure=>simp [intOf]; omega
             | false=>
              by_cases e1:y.1 = (k:Int)
              ·have e1b:(y.1 == (k:Int)) = true:=by simp [e1]
               have E1:=zaa e1;clear e1;go_wp2;go_roundw
               case rel=>exact ⟨j + 1,by omega,by go_num,by rw [HNEW.out,e1b]; rfl,FIN.out⟩
               case measure=>simp [intOf]; omega
              ·have e1b:(y.1 == (k:Int)) = false:=by simp [e1]
               clear e1;go_wp2;go_roundw
               case rel=>exact ⟨j + 1,by omega,by go_num,by rw [HNEW.out,e1b]; rfl,FIN.out⟩
               case measure=>simp [intOf]; omega
           ·have hltji:decide ((j:Int) < (nl1:Int)) = false:=decide_eq_false (by omega)
            have hjl:j = nl1:=by omega
            subst hjl
            have hfull:(x.lies.take j) = x.lies:=by rw [HNL1.out]; exact List.take_length
            rw [hfull,Bool.false_or];obtain ⟨F1,hF1⟩:∃ F,F = (x.lies.any fun y=>y.1 == (k:Int) && y.2 == b.1):=⟨_,rfl⟩;rw [← hF1] at HFIT ⊢;clear hF1 hfull;have hzx:=HB1Z.out.trans (hbx.mono HB1Z.out.size);have y2:=(((HHZ.out.call hbx)).but.row HPR.out (by omega)).cell (i:=2) (by show 2 < 5; omega);have e2':=ck e2 hzx;have HB12:=zaa hbx;have HPT2:=zaa (zah HPT1.out hbx);have HLL2:=zaa (HW1.out.2.2.1.keep (Q:=In wx) (In.keep hzx).1 (In.keep hzx).2);obtain ⟨wz2,hwz2⟩:∃ W,W = wx:=⟨_,rfl⟩;subst hwz2;obtain ⟨nl2,hnl2⟩:∃ m,m = x.flanks.length:=⟨_,rfl⟩;rw [← hnl2] at HLL2 e2';have HNL2:=zaa hnl2
            have hnl230:nl2 ≤ 30:=by rw [hnl2]; exact (HR.out.way HXX.out).2.2.2.2.2.1.2
            clear hnl2;go_wp2;clear y2 e2'
            go_loopw [13,178] (fun v z wx=>∃ j:Nat,j ≤ nl2 ∧ z = .int .i64 (j:Int) ∧ v = .bool (F1 || ((x.flanks.take j).any fun y=>y.1 == (k:Int) && y.2 == b.1)) ∧ Below wz2.heap.size wz2 wx) (fun _ z _=>nl2 - (intOf z).toNat)
            case atStart=>exact ⟨0,by omega,rfl,by simp,Below.refl _ _⟩
            case round=>
             obtain ⟨j,hj,rfl,rfl,hbx⟩:=hrel;rename World=>wx;by_cases hltj:j < nl2
             ·as_aux_lemma=>
               have hltji:decide ((j:Int) < (nl2:Int)) = true:=decide_eq_true (by omega)
               have hjn:(j:Int) < (nl2:Int):=by omega
               obtain ⟨y,hy⟩:=zac x.flanks (zaa HNL2.out.symm) hltj;obtain ⟨as1,ks1,es1,h0 | ⟨bs,os,rfl,-,hcs⟩⟩:=HLL2.out.keep (Q:=In wx) (In.keep hbx).1 (In.keep hbx).2
               ·have:=HNL2.out; omega
               cases es1
               obtain ⟨x0,x1⟩:=hcs j (by have:=HNL2.out; omega) y hy;have hbl:=zab wx (.cells #[.int .i64 y.1,.int .i64 y.2] 58);have hrl:(wx.alloc (.cells #[.int .i64 y.1,.int .i64 y.2] 58)).rowIs wx.heap.size 58 2 (fun i=>(#[.int .i64 y.1,.int .i64 y.2]:Array Value)[i]!):=zak wx 58 #[.int .i64 y.1,.int .i64 y.2];have l0:=hrl.cell (i:=0) (by omega);have l1:=hrl.cell (i:=1) (by omega);have hbxl:=hbx.trans (hbl.mono hbx.size);have p0:=(zah HPT2.out hbxl).cell (i:=0) (by show 0 < 2; omega);have FIN:=zaa hbxl
               have HAN:Hid ((x.flanks.take (j + 1)).any (fun y=>y.1 == (k:Int) && y.2 == b.1) = ((x.flanks.take j).any (fun y=>y.1 == (k:Int) && y.2 == b.1) || (y.1 == (k:Int) && y.2 == b.1))):=by
                show _ = _;rw [List.take_add_one,hy,List.any_append];simp
               obtain ⟨A,hA⟩:∃ A,A = (F1 || ((x.flanks.take j).any fun y=>y.1 == (k:Int) && y.2 == b.1)):=⟨_,rfl⟩;have HA:=zaa hA;rw [← hA]
               have hnew:(F1 || ((x.flanks.take (j + 1)).any fun y=>y.1 == (k:Int) && y.2 == b.1)) = (A || (y.1 == (k:Int) && y.2 == b.1)):=by rw [HAN.out,← Bool.or_assoc,← HA.out]
               have HNEW:=zaa hnew;clear hA hnew hcs hy hbl hrl hbx hbxl
               cases A with
               | true=>
                go_wp2;go_roundw
                case rel=>exact ⟨j + 1,by omega,by go_num,by rw [HNEW.out]; rfl,FIN.out⟩
                case measure=>simp [intOf]; omega
               | false=>
                by_cases e1:y.1 = (k:Int)
                ·have e1b:(y.1 == (k:Int)) = true:=by simp [e1]
                 have E1:=zaa e1;clear e1;go_wp2;go_roundw
                 case rel=>exact ⟨j + 1,by omega,by go_num,by rw [HNEW.out,e1b]; rfl,FIN.out⟩
                 case measure=>simp [intOf]; omega
                ·have e1b:(y.1 == (k:Int)) = false:=by simp [e1]
                 clear e1;go_wp2;go_roundw
                 case rel=>exact ⟨j + 1,by omega,by go_num,by rw [HNEW.out,e1b]; rfl,FIN.out⟩
                 case measure=>simp [intOf]; omega
             ·have hltji:decide ((j:Int) < (nl2:Int)) = false:=decide_eq_false (by omega)
              have hjl:j = nl2:=by omega
              subst hjl
              have hfull:(x.flanks.take j) = x.flanks:=by rw [HNL2.out]; exact List.take_length
              rw [hfull];have hfits:(F1 || (x.flanks.any fun y=>y.1 == (k:Int) && y.2 == b.1)) = true:=HFIT.out;rw [hfits];have hend:=HWZ.out.trans (HB12.out.mono HWZ.out.size);have hend2:=hend.trans (hbx.mono hend.size);go_wp2;go_roundw
              case rel=>exact ⟨q + 1,by omega,by go_num,hend2⟩
              case measure=>simp [intOf]; omega
        ·have hltqi:decide ((q:Int) < (nl:Int)) = false:=decide_eq_false (by omega);go_wp2;go_roundw
         case rel=>exact ⟨k + 1,by omega,by go_num,hend⟩
         case measure=>simp [intOf]; omega
    ·as_aux_lemma=>
      have hltki:decide ((k:Int) < (p.switches.length:Int)) = false:=decide_eq_false (by omega);have hHk:=HHA.out.call hbk;have hrd:=zah HRN.out hbk;have d1:=hrd.cell (i:=1) (by omega);have d2:=hrd.cell (i:=2) (by omega);have d3:=hrd.cell (i:=3) (by omega);have d4:=hrd.cell (i:=4) (by omega);have x0:=hHk.fbox.cell (i:=0) (by omega);have x1:=hHk.fbox.cell (i:=1) (by omega);have x2:=hHk.fbox.cell (i:=2) (by omega);have x3:=hHk.fbox.cell (i:=3) (by omega);have f0:=hHk.fbox.frozen 0;have f1:=hHk.fbox.frozen 1;have f2:=hHk.fbox.frozen 2;have f3:=hHk.fbox.frozen 3;have hfk:=HFA.out.keep (Q:=fun b=>b < w3.heap.size ∧ b ≠ fb) (za0 hbk fun b hb=>Nat.lt_of_lt_of_le hb.1 HHA.out.but.size) fun _ z=>z;rw [HDP.out] at hfk;have FIN:=zaa (hHk.put hfk);clear hHk hrd hfk;go_wp2;go_roundw
      case rel=>exact ⟨i + 1,_,_,_,by omega,by go_num,by rw [HNX.out]; exact FIN.out⟩
      case measure=>simp [intOf]; omega
  ·have hlti:decide ((i:Int) < (ne:Int)) = false:=decide_eq_false (by omega);go_wp2;go_ret;exact ⟨rfl,HB1.out.trans ((KW.out _ hH.but).mono HB1.out.size)⟩
end Go.Proofs.YtdhinkgjiapigaaGreatDoor

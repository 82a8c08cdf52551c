import Derived.Test.YtdhinkgjiapigaaGreatDoorHeldG
import Derived.Test.YtdhinkgjiapigaaGreatDoorRunJ
import Derived.Deep.DeepCutAuto
namespace Go.Proofs.YtdhinkgjiapigaaGreatDoor
open Go.RowKit Go.Deep
open Classical
set_option maxRecDepth 100000 in
set_option maxHeartbeats 16000000 in
theorem zva (a:Option Addr) (n c:Nat) (w:World) (hv:Bys (In w) w (.slice a n c) n) (hn:n ≤ 9223372036854775807) (hg:w.cell? ⟨1,0,none⟩ = some zrv) :
  Calls Tryz.prog 7 #[.slice a n c] w fun e w'=>e = .returned (.bool true) ∧ Below w.heap.size w w':=by
 have HG:=zaa hg
 have HB0:=zaa (Below.refl w.heap.size w)
 by_cases hs:n ≤ 1048576
 case neg=>
  have hgd:decide ((1048576:Int) < (n:Int)) = true:=decide_eq_true (by omega)
  go_enter Tryz.func7,Tryz.ntmps7
  go_wp2
  go_ret
  exact ⟨rfl,HB0.out⟩
 have HDR:=zaa (zrf a n c w hv hs)
 clear hv hg
 have hgd:decide ((1048576:Int) < (n:Int)) = false:=decide_eq_false (by omega)
 go_enter Tryz.func7,Tryz.ntmps7
 go_wp2_with fail
 refine HDR.out.mono ?_
 clear HDR hgd hs hn HB0
 rintro e w1 ⟨v1,v2,v3,ve,p,es,rfl,hR,hp,hwc,hes,hel,hb1⟩
 obtain ⟨a1,c1,rfl⟩:=hp.1.size
 obtain ⟨a2,c2,rfl⟩:=hp.2.1.size
 obtain ⟨a3,c3,rfl⟩:=hp.2.2.size
 obtain ⟨ae,ce,rfl⟩:=hes.size
 have hpi:=hp.keep (zax _ _) (Q:=In w1) fun b hb=>hb.2
 have hwi:=hwc.keep (zax _ _) (Q:=In w1) fun b hb=>hb.2
 have hei:=hes.keep (zax _ _) (Q:=In w1) fun b hb=>hb.2
 obtain ⟨nw,hnw⟩:∃ m,m = p.ways.length:=⟨_,rfl⟩
 obtain ⟨ne,hne⟩:∃ m,m = es.length:=⟨_,rfl⟩
 obtain ⟨ns,hns⟩:∃ m:Nat,p.sections = (m:Int):=⟨p.sections.toNat,by have:=hR.parts.1.1.1; omega⟩
 rw [← hnw] at hpi hwi ⊢
 rw [← hne] at hei hel ⊢
 have hn60:ns ≤ 60:=by have:=hR.parts.1.1.2; omega
 have hnw100:nw ≤ 100:=by rw [hnw]; exact hR.parts.1.2.2.1
 have KP:=zaa fun (W:World) (h:Below w1.heap.size w1 W)=>hpi.keep (Q:=In W) (In.keep h).1 (In.keep h).2
 have KC:=zaa fun (W:World) (h:Below w1.heap.size w1 W)=>hwi.keep (Q:=In W) (In.keep h).1 (In.keep h).2
 have KE:=zaa fun (W:World) (h:Below w1.heap.size w1 W)=>hei.keep (Q:=In W) (In.keep h).1 (In.keep h).2
 have HR:=zaa hR
 have HNW:=zaa hnw
 have HNE:=zaa hne
 have HNS:=zaa hns
 have HB1:=zaa hb1
 have HG1:=zaa (ck HG.out hb1)
 rw [hns]
 clear hp hwc hes hR hpi hwi hei hnw hne hns hb1 HG
 have T2:=zaw w1 27 #[.int .i64 (ns:Int),.slice a1 p.switches.length c1,.slice a2 nw c2,.slice a3 p.bars.length c3,.int .i64 p.hold]
 have HBEG:=zaa (zjd _ _ _ p _ (KP.out _ T2.below) HR.out.small (ck HG1.out T2.below))
 rw [HNS.out] at HBEG
 have HT2:=zaa T2
 clear T2
 go_wp2_with fail
 refine HBEG.out.mono ?_
 clear HBEG
 rintro e w2 ⟨u1,u2,u3,rfl,hb2,hfm⟩
 have hz:zdd p = zaq p:=if_pos HR.out
 rw [hz] at hfm ⊢
 obtain ⟨q1,s1,q2,s2,q3,s3,rfl,rfl,rfl⟩:=hfm.slices
 obtain ⟨F,hF⟩:∃ F,F = zaq p:=⟨_,rfl⟩
 have HFR0:Hid (zas p F):=by show zas p F; rw [hF]; exact zdp HR.out
 have HF0:=zaa hF
 rw [← hF] at hfm ⊢
 have hFw:F.ways.length = nw:=by rw [HFR0.out.2.2.2.2.1]; exact HNW.out.symm
 rw [hFw] at hfm ⊢
 have hbn:=zab w2 (.cells #[.bool F.ok,.slice q1 F.occ.length s1,.slice q2 F.points.length s2,.slice q3 nw s3] 40)
 have hrn:(w2.alloc (.cells #[.bool F.ok,.slice q1 F.occ.length s1,.slice q2 F.points.length s2,.slice q3 nw s3] 40)).rowIs w2.heap.size 40 4 (fun i=>(#[.bool F.ok,.slice q1 F.occ.length s1,.slice q2 F.points.length s2,.slice q3 nw s3]:Array Value)[i]!):=zak w2 40 #[.bool F.ok,.slice q1 F.occ.length s1,.slice q2 F.points.length s2,.slice q3 nw s3]
 have T2b:=(HT2.out.call hb2).call hbn
 have hfa:=hfm.read
 have HFA0:=zaa hfa
 have HRN0:=zaa hrn
 have HBN0:=zaa hbn
 have HTB:=zaa T2b
 have hrp:=T2b.row 0 _ _ rfl
 rw [Nat.add_zero] at hrp
 have y0:=hrp.cell (i:=0) (by show 0 < 5; omega)
 have y1:=hrp.cell (i:=1) (by show 1 < 5; omega)
 have y2:=hrp.cell (i:=2) (by show 2 < 5; omega)
 have y3:=hrp.cell (i:=3) (by show 3 < 5; omega)
 have y4:=hrp.cell (i:=4) (by show 4 < 5; omega)
 have HRUN:=zaa (zqw _ _ _ _ p es _ (KP.out _ T2b.below) (KC.out _ T2b.below) (KE.out _ T2b.below) HR.out.small (by rw [← HNE.out]; omega) (ck HG1.out T2b.below))
 rw [HNS.out] at HRUN
 have hw12:w1.heap.size < w2.heap.size:=(HT2.out.call hb2).lt (j:=0) rfl
 clear hz hF hfm hfa hbn hrn T2b hrp hb2 HT2 hFw
 go_wp2_with fail
 refine HRUN.out.mono ?_
 clear HRUN y0 y1 y2 y3 y4
 rintro e w3 ⟨vd,rfl,hb3,hdr⟩
 obtain ⟨fb,hfb⟩:∃ b,b = w2.heap.size:=⟨_,rfl⟩
 have hLr:zp2 p es = zdu p (zaq p) es:=if_pos ⟨HR.out,by rw [← HNE.out]; omega⟩
 rw [hLr] at hdr
 obtain ⟨L,hL⟩:∃ L,L = zdu p (zaq p) es:=⟨_,rfl⟩
 rw [← hL] at hdr
 have hLn:L.length = ne:=by rw [hL,zq3,HNE.out]
 have HL:=zaa hL
 have HLN:=zaa hLn
 have hda:=hdr.read
 obtain ⟨ad,cd,rfl⟩:=hda.size
 rw [hLn] at hda ⊢
 have T3:=HTB.out.call hb3
 have hsz3:=hb3.size
 have hszB:=HBN0.out.size
 have hlt2:w2.heap.size < (w2.alloc (.cells #[.bool F.ok,.slice q1 F.occ.length s1,.slice q2 F.points.length s2,.slice q3 nw s3] 40)).heap.size:=HRN0.out.lt
 have hH0:HlB w3 fb w3 F (.slice q1 F.occ.length s1) (.slice q2 F.points.length s2) (.slice q3 nw s3):=by
  rw [hfb]
  exact ⟨But.refl _ _,zah HRN0.out hb3,HFA0.out.keep (za0 (HBN0.out.trans (hb3.mono HBN0.out.size)) fun b (hb:b < w2.heap.size)=>hb) fun b (hb:b < w2.heap.size)=>⟨by omega,by omega⟩⟩
 have HH0:=zaa hH0
 have KD:=zaa fun (W:World) (h:But (fun c=>c ≠ fb) w3 W)=>hda.keep (Q:=fun b=>b < w3.heap.size ∧ b ≠ fb) (h.same fun b hb=>⟨hb.2,by omega⟩) fun b hb=>⟨hb.2,by omega⟩
 have KW:=zaa fun (W:World) (h:But (fun c=>c ≠ fb) w3 W)=>T3.below.trans (h.below T3.below.size fun c hc=>by omega)
 have HPR:=zaa (T3.row 0 _ _ rfl)
 rw [Nat.add_zero] at HPR
 have HG3:=zaa (ck HG1.out T3.below)
 have hw13:w1.heap.size < fb:=by omega
 rw [← hfb]
 clear hL hLr hLn hdr hda T3 hb3 hH0 HTB HRN0 HBN0 HFA0 hsz3 hszB hlt2 hfb hw12
 have x3:=HH0.out.fbox.cell (i:=3) (by omega)
 have y2:=HPR.out.cell (i:=2) (by show 2 < 5; omega)
 go_wp2
 clear x3 y2
 go_loopw [47] (fun z wr=>∃ (i:Nat) (u1 u2 u3:Value),i ≤ ne ∧ z = .int .i64 (i:Int) ∧ HlB w3 fb wr (zfu p es i) u1 u2 u3) (fun z _=>ne - (intOf z).toNat)
 case atStart=>exact ⟨0,_,_,_,by omega,rfl,by rw [zu7,← HF0.out]; exact HH0.out⟩
 case round=>
  obtain ⟨i,u1,u2,u3,hi,rfl,hH⟩:=hrel
  rename World=>wr
  clear HH0
  by_cases hlt:i < ne
  ·have hlti:decide ((i:Int) < (ne:Int)) = true:=decide_eq_true (by omega)
   have hin:(i:Int) < (ne:Int):=by omega
   obtain ⟨ev,hev,hst⟩:=zrp (p:=p) (es:=es) (i:=i) (by have:=HNE.out; omega)
   rw [← HL.out] at hst
   have hnx:=zqk (p:=p) hev
   have hff:zas p (zfu p es i):=zi8 HR.out es (by have:=HNE.out; omega)
   obtain ⟨f,hfe⟩:∃ f,f = zfu p es i:=⟨_,rfl⟩
   rw [← hfe] at hH hst hnx hff
   obtain ⟨⟨code,d⟩,hx⟩:∃ x,x = zdx p f ev:=⟨_,rfl⟩
   rw [← hx] at hst hnx
   have hf:zas p d:=by have:=zim hff ev; rw [← hx] at this; exact this
   obtain ⟨ad',cd',e,h0 | ⟨bd,od,rfl,-,hcd⟩⟩:=KD.out wr hH.but
   ·have:=HLN.out; omega
   rw [HLN.out] at e
   cases e
   obtain ⟨v1,v2,v3,hfa,g0,g1,g2,g3,g4⟩:=hcd i (by have:=HLN.out; omega) _ hst
   simp only at g0 g1 hfa
   obtain ⟨o1,m1,rfl⟩:=hfa.1.size
   obtain ⟨o2,m2,rfl⟩:=hfa.2.1.size
   obtain ⟨o3,m3,rfl⟩:=hfa.2.2.size
   have hol:d.occ.length = ns:=by have:=hf.2.2.1; have:=HNS.out; omega
   have hwl:d.ways.length = nw:=by rw [hf.2.2.2.2.1]; exact HNW.out.symm
   have hfo:f.occ.length = ns:=by have:=hff.2.2.1; have:=HNS.out; omega
   have hfw:f.ways.length = nw:=by rw [hff.2.2.2.2.1]; exact HNW.out.symm
   have hfl:=hH.frame
   obtain ⟨j1,t1,rfl⟩:=hfl.1.size
   obtain ⟨j2,t2,rfl⟩:=hfl.2.1.size
   obtain ⟨j3,t3,rfl⟩:=hfl.2.2.size
   rw [hol] at g2
   rw [hwl] at g4
   have hbn:=zab wr (.cells #[.int .i64 code,.bool d.ok,.slice o1 ns m1,.slice o2 d.points.length m2,.slice o3 nw m3] 42)
   have hrn:(wr.alloc (.cells #[.int .i64 code,.bool d.ok,.slice o1 ns m1,.slice o2 d.points.length m2,.slice o3 nw m3] 42)).rowIs wr.heap.size 42 5 (fun i=>(#[.int .i64 code,.bool d.ok,.slice o1 ns m1,.slice o2 d.points.length m2,.slice o3 nw m3]:Array Value)[i]!):=zak wr 42 #[.int .i64 code,.bool d.ok,.slice o1 ns m1,.slice o2 d.points.length m2,.slice o3 nw m3]
   have hHA:=hH.call hbn
   have hpr:=hHA.but.row HPR.out (by omega)
   have y0:=hpr.cell (i:=0) (by show 0 < 5; omega)
   have y2:=hpr.cell (i:=2) (by show 2 < 5; omega)
   have x1:=hrn.cell (i:=2) (by omega)
   have x3:=hrn.cell (i:=4) (by omega)
   have hfa2:=hfa.keep (Q:=fun b=>b < w3.heap.size ∧ b ≠ fb) (za0 hbn fun b hb=>Nat.lt_of_lt_of_le hb.1 hH.but.size) fun _ z=>z
   have HFA:=zaa hfa2
   have HF:=zaa hf
   have HFF:=zaa hff
   have HOL:=zaa hol
   have HWL:=zaa hwl
   have HFO:=zaa hfo
   have HFW:=zaa hfw
   have HX:=zaa hx
   have HEV:=zaa hev
   have HNX:=zaa hnx
   have HRN:=zaa hrn
   have HHA:=zaa hHA
   have hdf:fb < wr.heap.size:=hH.fbox.lt
   clear hx hf hff hcd hfa hfa2 hol hwl hfo hfw hfl hbn hrn hHA hpr hev hst hnx hfe hH
   go_wp2
   obtain ⟨WA,hWA⟩:∃ W,W = wr.alloc (.cells #[.int .i64 code,.bool d.ok,.slice o1 ns m1,.slice o2 d.points.length m2,.slice o3 nw m3] 42):=⟨_,rfl⟩
   obtain ⟨db,hdb⟩:∃ b,b = wr.heap.size:=⟨_,rfl⟩
   rw [← hWA] at HRN HHA HFA ⊢
   rw [← hdb] at HRN hdf ⊢
   clear hWA hdb y0 y2 x1 x3 g0 g1 g2 g3 g4
   go_loopw [73] (fun z wk=>∃ k:Nat,k ≤ nw ∧ z = .int .i64 (k:Int) ∧ Below WA.heap.size WA wk) (fun z _=>nw - (intOf z).toNat)
   case atStart=>exact ⟨0,by omega,rfl,Below.refl _ _⟩
   case round=>
    obtain ⟨k,hk,rfl,hbk⟩:=hrel
    rename World=>wk
    by_cases hltk:k < nw
    ·have hltki:decide ((k:Int) < (nw:Int)) = true:=decide_eq_true (by omega)
     have hkn:(k:Int) < (nw:Int):=by omega
     obtain ⟨h,hh⟩:=zac d.ways HWL hltk
     obtain ⟨was,hwas⟩:=zac f.ways HFW hltk
     obtain ⟨x,hx⟩:=zac p.ways (zaa HNW.out.symm) hltk
     have hHk:=HHA.out.call hbk
     have hfk:=HFA.out.keep (Q:=fun _=>True) (za0 hbk fun b hb=>Nat.lt_of_lt_of_le hb.1 HHA.out.but.size) fun _ _=>trivial
     obtain ⟨-,-,⟨af,kf,ef,h0 | ⟨bf,off,rfl,-,hcf⟩⟩⟩:=id hfk
     ·have:=HWL.out; omega
     cases ef
     obtain ⟨-,-,⟨ag,kg,eg,h0 | ⟨bg,ofg,rfl,-,hcg⟩⟩⟩:=id hHk.frame
     ·have:=HFW.out; omega
     cases eg
     obtain ⟨r2,hbe,q0,q1,q2,q3,q4⟩:=hcf k (by have:=HWL.out; omega) h hh
     obtain ⟨r3,hbw,z0,z1,z2,z3,z4⟩:=hcg k (by have:=HFW.out; omega) was hwas
     obtain ⟨ab,kb,rfl⟩:=hbe.size
     obtain ⟨aw,kw,rfl⟩:=hbw.size
     obtain ⟨-,⟨ap,kp,ep,h0 | ⟨bp,ofp,rfl,-,hcp⟩⟩,-⟩:=KP.out wk (KW.out _ hHk.but)
     ·have:=HNW.out; omega
     cases ep
     obtain ⟨v0,b1,b2,b3,v4,hWAY,e0,-,-,-,e4⟩:=hcp k (by have:=HNW.out; omega) x hx
     obtain ⟨a0,k0,rfl⟩:=hWAY.1.size
     obtain ⟨a4,k4,rfl⟩:=hWAY.2.2.2.2.size
     have hkd:=(HF.out.2.2.2.2.2.2.1 k (by have:=HWL.out; omega) x h hx hh).1
     have hkw:=(HFF.out.2.2.2.2.2.2.1 k (by have:=HFW.out; omega) x was hx hwas).1
     obtain ⟨n0,hn0⟩:∃ m,m = x.sections.length:=⟨_,rfl⟩
     rw [hkd.2.1,← hn0] at q2
     rw [hkw.2.1,← hn0] at z2
     rw [← hn0] at e0
     have hn30:n0 ≤ 30:=by rw [hn0]; exact (HR.out.way hx).2.1.2
     have hn1:1 ≤ n0:=by rw [hn0]; exact List.length_pos_iff.2 (HR.out.way hx).1
     have hbh:=zab wk (.cells #[.int .i64 h.state,.int .i64 h.gone,.slice ab n0 kb,.bool h.shown,.int .i64 h.timer] 44)
     have T5:=zbc wk 44 44 #[.int .i64 h.state,.int .i64 h.gone,.slice ab n0 kb,.bool h.shown,.int .i64 h.timer] #[.int .i64 was.state,.int .i64 was.gone,.slice aw n0 kw,.bool was.shown,.int .i64 was.timer]
     have g3:=(hHk.call hbh).fbox.cell (i:=3) (by omega)
     have z0':=ck z0 hbh
     have z1':=ck z1 hbh
     have z2':=ck z2 hbh
     have z3':=ck z3 hbh
     have z4':=ck z4 hbh
     have hHB:=hHk.call T5.below
     have y2:=(hHB.but.row HPR.out (by omega)).cell (i:=2) (by show 2 < 5; omega)
     have e0':=ck e0 T5.below
     have hb1:=T5.row 0 _ _ rfl
     rw [Nat.add_zero] at hb1
     have hb2:=T5.row 1 _ _ rfl
     have l2:=hb1.cell (i:=2) (by show 2 < 5; omega)
     have l0:=hb1.cell (i:=0) (by show 0 < 5; omega)
     have l1:=hb1.cell (i:=1) (by show 1 < 5; omega)
     have i2:=hb2.cell (i:=2) (by show 2 < 5; omega)
     have i0:=hb2.cell (i:=0) (by show 0 < 5; omega)
     have i1:=hb2.cell (i:=1) (by show 1 < 5; omega)
     have HST:Hid ((zdx p f ev).2.ways[k]? = some h):=by show (zdx p f ev).2.ways[k]? = some h; rw [← HX.out]; exact hh
     have hocc:d.occ = (zdx p f ev).2.occ:=by rw [← HX.out]
     have HOCC:=zaa hocc
     have hg0:=hkw.2.2.1.1
     have hkf:(k:Int) < (f.ways.length:Int):=by have:=HFW.out; omega
     have HWAS:=zaa hwas
     have HXW:=zaa hx
     have HN0:=zaa hn0
     have HWAY:=zaa hWAY
     have HBW:=zaa hbw
     have HBK:=zaa (hbk.trans (T5.below.mono hbk.size))
     have HHB:=zaa hHB
     have HB2:=zaa hb2
     have HRD:=zaa (zah (zah HRN.out hbk) T5.below)
     have HT5:=zaa T5.below
     have HFK:=zaa hfk
     clear hh hwas hx hHk hfk hcf hcg hbe hbw hcp hWAY hkd hkw hn0 hbh T5 hHB hb1 hb2 hocc hbk
     by_cases h4:was.state = 4
     ·as_aux_lemma=>
       have h4b:(was.state == 4) = true:=by simp [h4]
       have H4:=zaa h4
       clear h4
       go_upto_if 109 with fail
       obtain ⟨WB,hWB⟩:∃ W,W = (wk.alloc (.cells #[.int .i64 h.state,.int .i64 h.gone,.slice ab n0 kb,.bool h.shown,.int .i64 h.timer] 44)).alloc (.cells #[.int .i64 was.state,.int .i64 was.gone,.slice aw n0 kw,.bool was.shown,.int .i64 was.timer] 44):=⟨_,rfl⟩
       rw [← hWB] at HBK HHB HB2 HRD HT5 i1 ⊢
       obtain ⟨hb,hhb⟩:∃ b,b = wk.heap.size:=⟨_,rfl⟩
       rw [← hhb] at HB2 i1 ⊢
       clear hWB hhb g3 z0 z1 z2 z3 z4 z0' z1' z2' z3' z4' y2 e0' l0 l1 l2 i0 i2 q0 q1 q2 q3 q4 h4b
       go_cut [13] (fun v wc=>(∃ T:Int,v = .int .i64 T ∧ (h.state = 0 ∨ T = h.gone)) ∧ wc = WB)
       case first=>
        by_cases hh0:h.state = 0
        ·have hh0b:(h.state == 0) = true:=by simp [hh0]
         have HH0:=zaa hh0
         clear hh0
         go_wp2
         go_meet
         case rel=>exact ⟨⟨_,rfl,.inl HH0.out⟩,rfl⟩
        ·have hh0b:(h.state == 0) = false:=by simp [hh0]
         clear hh0
         go_wp2
         go_meet
         case rel=>exact ⟨⟨_,rfl,.inr rfl⟩,rfl⟩
       case rest=>
        obtain ⟨⟨T,rfl,hT⟩,hwc⟩:=hcut
        have hwc':=hwc.symm
        subst hwc'
        have HT:=zaa hT
        clear hwc hT
        go_wp2
        clear i1
        go_loopw [14] (fun z wx=>∃ j:Nat,was.gone ≤ (j:Int) ∧ z = .int .i64 (j:Int) ∧ Below WB.heap.size WB wx) (fun z _=>n0 - (intOf z).toNat)
        case atStart=>exact ⟨was.gone.toNat,by omega,by rw [Int.toNat_of_nonneg hg0],Below.refl _ _⟩
        case round=>
         as_aux_lemma=>
          obtain ⟨j,hj,rfl,hbx⟩:=hrel
          rename World=>wx
          have hbAx:=HBK.out.trans (hbx.mono HBK.out.size)
          by_cases c1:(j:Int) < T
          case neg=>
           have c1b:decide ((j:Int) < T) = false:=decide_eq_false c1
           go_wp2
           go_roundw
           case rel=>exact ⟨k + 1,by omega,by go_num,hbAx⟩
           case measure=>simp [intOf]; omega
          have c1b:decide ((j:Int) < T) = true:=decide_eq_true c1
          by_cases c2:j < n0
          case neg=>
           have c2b:decide ((j:Int) < (n0:Int)) = false:=decide_eq_false (by omega)
           go_wp2
           go_roundw
           case rel=>exact ⟨k + 1,by omega,by go_num,hbAx⟩
           case measure=>simp [intOf]; omega
          have c2b:decide ((j:Int) < (n0:Int)) = true:=decide_eq_true (by omega)
          have hjn:(j:Int) < (n0:Int):=by omega
          obtain ⟨s,hs⟩:=zac x.sections (zaa HN0.out.symm) c2
          obtain ⟨hfree,hbeen⟩:=zrk HFF.out HXW.out HWAS.out HST.out H4.out hs hj (HT.out.elim .inl fun z=>.inr (by rw [← z]; exact c1))
          have hbkx:=HT5.out.trans (hbx.mono HT5.out.size)
          obtain ⟨as1,ks1,es1,h0 | ⟨bs,os,rfl,-,hcs⟩⟩:=HWAY.out.1.keep (Q:=In wx) (In.keep hbkx).1 (In.keep hbkx).2
          ·have:=HN0.out; omega
          cases es1
          have hsr:=(HR.out.way HXW.out).2.1.mem (List.mem_of_getElem? hs)
          have hs0:0 ≤ s:=hsr.1
          have hs1:s < (ns:Int):=by have:=hsr.2; have:=HNS.out; omega
          obtain ⟨⟨ao,ko,eo,h0 | ⟨bo,oo,rfl,-,hco⟩⟩,-,-⟩:=id HFK.out
          ·have:=HOL.out; omega
          cases eo
          obtain ⟨o,ho⟩:∃ o,d.occ[s.toNat]? = some o:=⟨d.occ[s.toNat]'(by have:=HOL.out; omega),List.getElem?_eq_getElem _⟩
          rw [← HOCC.out,zc5 ho] at hfree
          subst hfree
          obtain ⟨ax,kx,ex,h0 | ⟨bx,ox,rfl,-,hcx⟩⟩:=HBW.out
          ·have:=(List.getElem?_eq_some_iff.1 hbeen).1; omega
          cases ex
          have x0:=hcs j (by have:=HN0.out; omega) s hs
          have oc:=ck (hco s.toNat (by have:=HOL.out; omega) _ ho) hbkx
          have bb:=ck (hcx j (List.getElem?_eq_some_iff.1 hbeen).1 _ hbeen) hbkx
          have y2:=((HHB.out.call hbx).but.row HPR.out (by omega)).cell (i:=2) (by show 2 < 5; omega)
          have e0':=ck e0 hbkx
          have xd:=(zah HRD.out hbx).cell (i:=2) (by omega)
          have xb:=(zah HB2.out hbx).cell (i:=2) (by show 2 < 5; omega)
          clear hs hbeen hcs hsr hco ho hcx hbAx hbkx c1 c2
          go_wp2
          go_roundw
          case rel=>exact ⟨j + 1,by omega,by go_num,hbx⟩
          case measure=>simp [intOf]; omega
     ·as_aux_lemma=>
       have h4b:(was.state == 4) = false:=by simp [h4]
       by_cases hw0:was.state = 0
       ·have w0b:(was.state != 0) = false:=by simp [hw0]
        have HW0:=zaa hw0
        clear hw0 h4
        go_wp2
        go_roundw
        case rel=>exact ⟨k + 1,by omega,by go_num,HBK.out⟩
        case measure=>simp [intOf]; omega
       have w0b:(was.state != 0) = true:=by simp [hw0]
       by_cases hh0:h.state = 0
       case neg=>
        have hh0b:(h.state == 0) = false:=by simp [hh0]
        clear hw0 h4 hh0
        go_wp2
        go_roundw
        case rel=>exact ⟨k + 1,by omega,by go_num,HBK.out⟩
        case measure=>simp [intOf]; omega
       have hh0b:(h.state == 0) = true:=by simp [hh0]
       obtain ⟨hop,hfst,hnear⟩:=zrj HFF.out HXW.out HWAS.out HST.out hw0 h4 hh0
       rw [← HOCC.out] at hfst
       have HNEAR:=zaa hnear
       have HFST:=zaa hfst
       clear hnear hfst hw0 h4 hh0
       obtain ⟨ax,kx,ex,h0 | ⟨be,oe,rfl,-,hce⟩⟩:=KE.out _ (KW.out _ HHB.out.but)
       ·have:=HNE.out; omega
       rw [← HNE.out] at ex
       cases ex
       have v0:=(hce i (by have:=HNE.out; omega) ev HEV.out).1
       obtain ⟨s,hs⟩:=zac x.sections (zaa HN0.out.symm) (show 0 < n0 by omega)
       obtain ⟨as1,ks1,es1,h0 | ⟨bs,os,rfl,-,hcs⟩⟩:=HWAY.out.1.keep (Q:=In ((wk.alloc (.cells #[.int .i64 h.state,.int .i64 h.gone,.slice ab n0 kb,.bool h.shown,.int .i64 h.timer] 44)).alloc (.cells #[.int .i64 was.state,.int .i64 was.gone,.slice aw n0 kw,.bool was.shown,.int .i64 was.timer] 44))) (In.keep HT5.out).1 (In.keep HT5.out).2
       ·have:=HN0.out; omega
       cases es1
       have hsr:=(HR.out.way HXW.out).2.1.mem (List.mem_of_getElem? hs)
       have hs0:0 ≤ s:=hsr.1
       have hs1:s < (ns:Int):=by have:=hsr.2; have:=HNS.out; omega
       obtain ⟨⟨ao,ko,eo,h0 | ⟨bo,oo,rfl,-,hco⟩⟩,-,-⟩:=id HFK.out
       ·have:=HOL.out; omega
       cases eo
       obtain ⟨o,ho⟩:∃ o,d.occ[s.toNat]? = some o:=⟨d.occ[s.toNat]'(by have:=HOL.out; omega),List.getElem?_eq_getElem _⟩
       have hfree:=HFST.out
       rw [List.getD_eq_getElem?_getD,hs] at hfree
       have hfree2:za1 d.occ s = false:=hfree
       rw [zc5 ho] at hfree2
       subst hfree2
       have x0:=hcs 0 (by have:=HN0.out; omega) s hs
       rw [Nat.add_zero] at x0
       have oc:=ck (hco s.toNat (by have:=HOL.out; omega) _ ho) HT5.out
       have xd:=HRD.out.cell (i:=2) (by omega)
       have h0n:(0:Int) < (n0:Int):=by omega
       clear hs hcs hsr hco ho hfree hce
       go_upto_region 31 with fail
       obtain ⟨WB,hWB⟩:∃ W,W = (wk.alloc (.cells #[.int .i64 h.state,.int .i64 h.gone,.slice ab n0 kb,.bool h.shown,.int .i64 h.timer] 44)).alloc (.cells #[.int .i64 was.state,.int .i64 was.gone,.slice aw n0 kw,.bool was.shown,.int .i64 was.timer] 44):=⟨_,rfl⟩
       rw [← hWB] at HBK HHB HB2 HRD HT5 y2 e0' v0 x0 oc xd ⊢
       obtain ⟨hb,hhb⟩:∃ b,b = wk.heap.size:=⟨_,rfl⟩
       rw [← hhb] at HB2 ⊢
       clear hWB hhb g3 z0 z1 z2 z3 z4 z0' z1' z2' z3' z4' l0 l1 l2 i0 i1 i2 q0 q1 q2 q3 q4
       go_cut [190] (fun v wc=>v = .bool false ∧ Below WB.heap.size WB wc)
       case first=>
        as_aux_lemma=>
         rcases hop with hop | hop
         ·have o2b:(ev.1 != 2) = false:=by simp [hop]
          have HOP:=zaa hop
          clear hop
          go_quiet (fail)
          go_wp2
          go_meet
          case rel=>exact ⟨rfl,zan _ _⟩
         ·have o2b:(ev.1 != 2) = true:=by simp [hop]
          have o7b:(ev.1 != 7) = false:=by simp [hop]
          have HOP:=zaa hop
          clear hop
          go_quiet (fail)
          go_wp2
          go_meet
          case rel=>exact ⟨rfl,zan _ _⟩
       case rest=>
        obtain ⟨rfl,hbc⟩:=hcut
        have hbkc:=HT5.out.trans (hbc.mono HT5.out.size)
        have y2':=((HHB.out.call hbc).but.row HPR.out (by omega)).cell (i:=2) (by show 2 < 5; omega)
        have e4':=ck e4 hbkc
        obtain ⟨n4,hn4⟩:∃ m,m = x.near.length:=⟨_,rfl⟩
        rw [← hn4] at e4'
        have HN4:=zaa hn4
        have hn40:n4 ≤ 30:=by rw [hn4]; exact (HR.out.way HXW.out).2.2.2.1.2
        have HBC:=zaa hbc
        have HKC:=zaa hbkc
        clear y2 e0' h4b hh0b w0b v0 x0 oc xd hn4 hbc hbkc
        go_wp2
        go_loopw [198] (fun z wx=>∃ j:Nat,j ≤ n4 ∧ z = .int .i64 (j:Int) ∧ Below wc.heap.size wc wx) (fun z _=>n4 - (intOf z).toNat)
        case atStart=>exact ⟨0,by omega,rfl,Below.refl _ _⟩
        case round=>
         as_aux_lemma=>
          obtain ⟨j,hj,rfl,hbx⟩:=hrel
          rename World=>wx
          have hBx:=HBC.out.trans (hbx.mono HBC.out.size)
          have hAx:=HBK.out.trans (hBx.mono HBK.out.size)
          by_cases hltj:j < n4
          ·have hltji:decide ((j:Int) < (n4:Int)) = true:=decide_eq_true (by omega)
           have hjn:(j:Int) < (n4:Int):=by omega
           have hkx:=HKC.out.trans (hbx.mono HKC.out.size)
           obtain ⟨s,hs⟩:=zac x.near (zaa HN4.out.symm) hltj
           obtain ⟨as1,ks1,es1,h0 | ⟨bs,os,rfl,-,hcs⟩⟩:=HWAY.out.2.2.2.2.keep (Q:=In wx) (In.keep hkx).1 (In.keep hkx).2
           ·have:=HN4.out; omega
           cases es1
           have hsr:=(HR.out.way HXW.out).2.2.2.1.mem (List.mem_of_getElem? hs)
           have hs0:0 ≤ s:=hsr.1
           have hs1:s < (f.occ.length:Int):=by have:=hsr.2; have:=HNS.out; have:=HFO.out; omega
           have hHx:=HHB.out.call hBx
           obtain ⟨⟨ao,ko,eo,h0 | ⟨bo,oo,rfl,-,hco⟩⟩,-,-⟩:=id hHx.frame
           ·omega
           cases eo
           obtain ⟨o,ho⟩:∃ o,f.occ[s.toNat]? = some o:=⟨f.occ[s.toNat]'(by omega),List.getElem?_eq_getElem _⟩
           obtain ⟨ax,kx,ex,h0 | ⟨be,oe,rfl,-,hce⟩⟩:=KE.out _ (KW.out _ hHx.but)
           ·have:=HNE.out; omega
           rw [← HNE.out] at ex
           cases ex
           have v0:=(hce i (by have:=HNE.out; omega) ev HEV.out).1
           have x0:=hcs j (by have:=HN4.out; omega) s hs
           have oc:=hco s.toNat (by omega) _ ho
           have fx:=hHx.fbox.cell (i:=1) (by omega)
           have b3:=(zah HB2.out hBx).cell (i:=3) (by show 3 < 5; omega)
           have hb3:wx.cell? ⟨hb + 1,3,none⟩ = some (.bool was.shown):=b3
           have hno:ev.1 = 2 → was.shown = true → o = false:=fun z1 z2=>by have:=HNEAR.out z1 z2 s (List.mem_of_getElem? hs); rw [zc5 ho] at this; exact this
           clear hcs hsr hco ho hce hs hHx b3
           by_cases hop2:ev.1 = 2
           ·have o2b:(ev.1 == 2) = true:=by simp [hop2]
            by_cases hsh:was.shown = true
            ·obtain rfl:=hno hop2 hsh
             rw [hsh] at hb3
             have HSH:=zaa hsh
             clear hop2 hsh hno
             go_wp2
             go_roundw
             case rel=>exact ⟨j + 1,by omega,by go_num,hbx⟩
             case measure=>simp [intOf]; omega
            ·have hsh2:was.shown = false:=by simpa using hsh
             rw [hsh2] at hb3
             clear hop2 hsh hno hsh2
             go_wp2
             go_roundw
             case rel=>exact ⟨j + 1,by omega,by go_num,hbx⟩
             case measure=>simp [intOf]; omega
           ·have o2b:(ev.1 == 2) = false:=by simp [hop2]
            clear hop2 hno
            go_wp2
            go_roundw
            case rel=>exact ⟨j + 1,by omega,by go_num,hbx⟩
            case measure=>simp [intOf]; omega
          ·have hltji:decide ((j:Int) < (n4:Int)) = false:=decide_eq_false (by omega)
           go_wp2
           go_roundw
           case rel=>exact ⟨k + 1,by omega,by go_num,hAx⟩
           case measure=>simp [intOf]; omega
    ·as_aux_lemma=>
      have hltki:decide ((k:Int) < (nw:Int)) = false:=decide_eq_false (by omega)
      have hHk:=HHA.out.call hbk
      have hrd:=zah HRN.out hbk
      have d1:=hrd.cell (i:=1) (by omega)
      have d2:=hrd.cell (i:=2) (by omega)
      have d3:=hrd.cell (i:=3) (by omega)
      have d4:=hrd.cell (i:=4) (by omega)
      have x0:=hHk.fbox.cell (i:=0) (by omega)
      have x1:=hHk.fbox.cell (i:=1) (by omega)
      have x2:=hHk.fbox.cell (i:=2) (by omega)
      have x3:=hHk.fbox.cell (i:=3) (by omega)
      have f0:=hHk.fbox.frozen 0
      have f1:=hHk.fbox.frozen 1
      have f2:=hHk.fbox.frozen 2
      have f3:=hHk.fbox.frozen 3
      have hfk:=HFA.out.keep (Q:=fun b=>b < w3.heap.size ∧ b ≠ fb) (za0 hbk fun b hb=>Nat.lt_of_lt_of_le hb.1 HHA.out.but.size) fun _ z=>z
      rw [HOL.out,HWL.out] at hfk
      have FIN:=zaa (hHk.put hfk)
      clear hHk hrd hfk
      go_wp2
      go_roundw
      case rel=>exact ⟨i + 1,_,_,_,by omega,by go_num,by rw [HNX.out]; exact FIN.out⟩
      case measure=>simp [intOf]; omega
  ·have hlti:decide ((i:Int) < (ne:Int)) = false:=decide_eq_false (by omega)
   go_wp2
   go_ret
   exact ⟨rfl,HB1.out.trans ((KW.out _ hH.but).mono HB1.out.size)⟩
end Go.Proofs.YtdhinkgjiapigaaGreatDoor

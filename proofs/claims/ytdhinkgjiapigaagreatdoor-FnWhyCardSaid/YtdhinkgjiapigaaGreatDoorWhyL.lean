import Derived.Test.YtdhinkgjiapigaaGreatDoorHeldG
import Derived.Test.YtdhinkgjiapigaaGreatDoorWhyF
import Derived.Test.YtdhinkgjiapigaaGreatDoorHpJ
import Derived.Test.YtdhinkgjiapigaaGreatDoorWhyW
import Derived.Test.YtdhinkgjiapigaaGreatDoorDltx
import Derived.Test.YtdhinkgjiapigaaGreatDoorDoL1
import Derived.Test.YtdhinkgjiapigaaGreatDoorRunSq
import Derived.Deep.DeepCutAuto
namespace Go.Proofs.YtdhinkgjiapigaaGreatDoor
open Go.RowKit Go.Deep
open Classical
set_option maxRecDepth 100000 in
set_option maxHeartbeats 16000000 in
theorem zwq (a:Option Addr) (n c:Nat) (w:World) (hv:Bys (In w) w (.slice a n c) n) (hn:n ≤ 9223372036854775807) (hg:w.cell? ⟨1,0,none⟩ = some zrv) :
  Calls Tryz.prog 10 #[.slice a n c] w fun e w'=>e = .returned (.bool true) ∧ Below w.heap.size w w':=by
 have HG:=zaa hg;have HB0:=zaa (Below.refl w.heap.size w);by_cases hs:n ≤ 1048576
 case neg=>
  have hgd:decide ((1048576:Int) < (n:Int)) = true:=decide_eq_true (by omega);go_enter Tryz.func10,Tryz.ntmps10;go_wp2;go_ret;exact ⟨rfl,HB0.out⟩
 have HDR:=zaa (zrf a n c w hv hs);clear hv hg;have hgd:decide ((1048576:Int) < (n:Int)) = false:=decide_eq_false (by omega);go_enter Tryz.func10,Tryz.ntmps10
 go_wp2_with fail
 refine HDR.out.mono ?_;clear HDR hgd hs hn HB0;rintro e w1 ⟨v1,v2,v3,ve,p,es,rfl,hR,hp,hwc,hes,hel,hb1⟩;obtain ⟨a1,c1,rfl⟩:=hp.1.size;obtain ⟨a2,c2,rfl⟩:=hp.2.1.size;obtain ⟨a3,c3,rfl⟩:=hp.2.2.size;obtain ⟨ae,ce,rfl⟩:=hes.size;have hpi:=hp.keep (zax _ _) (Q:=In w1) fun b hb=>hb.2;have hwi:=hwc.keep (zax _ _) (Q:=In w1) fun b hb=>hb.2;have hei:=hes.keep (zax _ _) (Q:=In w1) fun b hb=>hb.2;obtain ⟨nw,hnw⟩:∃ m,m = p.ways.length:=⟨_,rfl⟩;obtain ⟨ne,hne⟩:∃ m,m = es.length:=⟨_,rfl⟩;obtain ⟨ns,hns⟩:∃ m:Nat,p.sections = (m:Int):=⟨p.sections.toNat,by have:=hR.parts.1.1.1; omega⟩;rw [← hnw] at hpi hwi ⊢;rw [← hne] at hei hel ⊢
 have hn60:ns ≤ 60:=by have:=hR.parts.1.1.2; omega
 have hnw100:nw ≤ 100:=by rw [hnw]; exact hR.parts.1.2.2.1
 have KP:=zaa fun (W:World) (h:Below w1.heap.size w1 W)=>hpi.keep (Q:=In W) (In.keep h).1 (In.keep h).2;have KC:=zaa fun (W:World) (h:Below w1.heap.size w1 W)=>hwi.keep (Q:=In W) (In.keep h).1 (In.keep h).2;have KE:=zaa fun (W:World) (h:Below w1.heap.size w1 W)=>hei.keep (Q:=In W) (In.keep h).1 (In.keep h).2;have HR:=zaa hR;have HNW:=zaa hnw;have HNE:=zaa hne;have HNS:=zaa hns;have HB1:=zaa hb1;have HG1:=zaa (ck HG.out hb1);rw [hns];clear hp hwc hes hR hpi hwi hei hnw hne hns hb1 HG;have T2:=zaw w1 27 #[.int .i64 (ns:Int),.slice a1 p.switches.length c1,.slice a2 nw c2,.slice a3 p.bars.length c3,.int .i64 p.hold];have HBEG:=zaa (zjs _ _ _ p _ (KP.out _ T2.below) HR.out.small);rw [HNS.out] at HBEG;have HT2:=zaa T2;clear T2
 go_wp2_with fail
 refine HBEG.out.mono ?_;clear HBEG;rintro e w2 ⟨u1,u2,u3,rfl,hb2,hfm⟩;have hz:zdd p = zaq p:=if_pos HR.out;rw [hz] at hfm ⊢;obtain ⟨q1,s1,q2,s2,q3,s3,rfl,rfl,rfl⟩:=hfm.slices;obtain ⟨F,hF⟩:∃ F,F = zaq p:=⟨_,rfl⟩
 have HFR0:Hid (zas p F):=by show zas p F; rw [hF]; exact zdp HR.out
 have HF0:=zaa hF;rw [← hF] at hfm ⊢
 have hFw:F.ways.length = nw:=by rw [HFR0.out.2.2.2.2.1]; exact HNW.out.symm
 rw [hFw] at hfm ⊢;have hbn:=zab w2 (.cells #[.bool F.ok,.slice q1 F.occ.length s1,.slice q2 F.points.length s2,.slice q3 nw s3] 40);have hrn:(w2.alloc (.cells #[.bool F.ok,.slice q1 F.occ.length s1,.slice q2 F.points.length s2,.slice q3 nw s3] 40)).rowIs w2.heap.size 40 4 (fun i=>(#[.bool F.ok,.slice q1 F.occ.length s1,.slice q2 F.points.length s2,.slice q3 nw s3]:Array Value)[i]!):=zak w2 40 #[.bool F.ok,.slice q1 F.occ.length s1,.slice q2 F.points.length s2,.slice q3 nw s3];have T2b:=(HT2.out.call hb2).call hbn;have hfa:=hfm.read;have HFA0:=zaa hfa;have HRN0:=zaa hrn;have HBN0:=zaa hbn;have HTB:=zaa T2b;have hrp:=T2b.row 0 _ _ rfl;rw [Nat.add_zero] at hrp;have y0:=hrp.cell (i:=0) (by show 0 < 5; omega);have y1:=hrp.cell (i:=1) (by show 1 < 5; omega);have y2:=hrp.cell (i:=2) (by show 2 < 5; omega);have y3:=hrp.cell (i:=3) (by show 3 < 5; omega);have y4:=hrp.cell (i:=4) (by show 4 < 5; omega);have HRUN:=zaa (zwh _ _ _ _ p es _ (KP.out _ T2b.below) (KE.out _ T2b.below) HR.out.small (by rw [← HNE.out]; omega));rw [HNS.out] at HRUN;have hw12:w1.heap.size < w2.heap.size:=(HT2.out.call hb2).lt (j:=0) rfl;clear hz hF hfm hfa hbn hrn T2b hrp hb2 HT2 hFw
 go_wp2_with fail
 refine HRUN.out.mono ?_;clear HRUN y0 y1 y2 y3 y4;rintro e w3 ⟨vd,rfl,hb3,hdr⟩;obtain ⟨fb,hfb⟩:∃ b,b = w2.heap.size:=⟨_,rfl⟩;have hLr:zp2 p es = zdu p (zaq p) es:=if_pos ⟨HR.out,by rw [← HNE.out]; omega⟩;rw [hLr] at hdr;obtain ⟨L,hL⟩:∃ L,L = zdu p (zaq p) es:=⟨_,rfl⟩;rw [← hL] at hdr
 have hLn:L.length = ne:=by rw [hL,zq3,HNE.out]
 have HL:=zaa hL;have HLN:=zaa hLn;have hda:=hdr.read;obtain ⟨ad,cd,rfl⟩:=hda.size;rw [hLn] at hda ⊢;have T3:=HTB.out.call hb3;have hsz3:=hb3.size;have hszB:=HBN0.out.size;have hlt2:w2.heap.size < (w2.alloc (.cells #[.bool F.ok,.slice q1 F.occ.length s1,.slice q2 F.points.length s2,.slice q3 nw s3] 40)).heap.size:=HRN0.out.lt
 have hH0:HlB w3 fb w3 F (.slice q1 F.occ.length s1) (.slice q2 F.points.length s2) (.slice q3 nw s3):=by
  rw [hfb];exact ⟨But.refl _ _,zah HRN0.out hb3,HFA0.out.keep (za0 (HBN0.out.trans (hb3.mono HBN0.out.size)) fun b (hb:b < w2.heap.size)=>hb) fun b (hb:b < w2.heap.size)=>⟨by omega,by omega⟩⟩
 have HH0:=zaa hH0;have KD:=zaa fun (W:World) (h:But (fun c=>c ≠ fb) w3 W)=>hda.keep (Q:=fun b=>b < w3.heap.size ∧ b ≠ fb) (h.same fun b hb=>⟨hb.2,by omega⟩) fun b hb=>⟨hb.2,by omega⟩;have KW:=zaa fun (W:World) (h:But (fun c=>c ≠ fb) w3 W)=>T3.below.trans (h.below T3.below.size fun c hc=>by omega);have HPR:=zaa (T3.row 0 _ _ rfl);rw [Nat.add_zero] at HPR;have HG3:=zaa (ck HG1.out T3.below)
 have hw13:w1.heap.size < fb:=by omega
 rw [← hfb];clear hL hLr hLn hdr hda T3 hb3 hH0 HTB HRN0 HBN0 HFA0 hsz3 hszB hlt2 hfb hw12;go_wp2
 go_loopw [27] (fun z wr=>∃ (i:Nat) (u1 u2 u3:Value),i ≤ ne ∧ z = .int .i64 (i:Int) ∧ HlB w3 fb wr (zfu p es i) u1 u2 u3) (fun z _=>ne - (intOf z).toNat)
 case atStart=>exact ⟨0,_,_,_,by omega,rfl,by rw [zu7,← HF0.out]; exact HH0.out⟩
 case round=>
  obtain ⟨i,u1,u2,u3,hi,rfl,hH⟩:=hrel;rename World=>wr;clear HH0;by_cases hlt:i < ne
  ·as_aux_lemma=>
    have hlti:decide ((i:Int) < (ne:Int)) = true:=decide_eq_true (by omega)
    have hin:(i:Int) < (ne:Int):=by omega
    obtain ⟨ev,hev,hst⟩:=zrp (p:=p) (es:=es) (i:=i) (by have:=HNE.out; omega);rw [← HL.out] at hst;have hnx:=zqk (p:=p) hev;obtain ⟨f,hfe⟩:∃ f,f = zfu p es i:=⟨_,rfl⟩;rw [← hfe] at hH hst hnx;obtain ⟨⟨code,d⟩,hx⟩:∃ x,x = zdx p f ev:=⟨_,rfl⟩;rw [← hx] at hst hnx;obtain ⟨ad',cd',e,h0 | ⟨bd,od,rfl,-,hcd⟩⟩:=KD.out wr hH.but
    ·have:=HLN.out; omega
    rw [HLN.out] at e
    cases e
    obtain ⟨v1,v2,v3,hfa,g0,g1,g2,g3,g4⟩:=hcd i (by have:=HLN.out; omega) _ hst;simp only at g0 g1 hfa;obtain ⟨o1,m1,rfl⟩:=hfa.1.size;obtain ⟨o2,m2,rfl⟩:=hfa.2.1.size;obtain ⟨o3,m3,rfl⟩:=hfa.2.2.size;have hbn:=zab wr (.cells #[.int .i64 code,.bool d.ok,.slice o1 d.occ.length m1,.slice o2 d.points.length m2,.slice o3 d.ways.length m3] 42);have hrn:(wr.alloc (.cells #[.int .i64 code,.bool d.ok,.slice o1 d.occ.length m1,.slice o2 d.points.length m2,.slice o3 d.ways.length m3] 42)).rowIs wr.heap.size 42 5 (fun i=>(#[.int .i64 code,.bool d.ok,.slice o1 d.occ.length m1,.slice o2 d.points.length m2,.slice o3 d.ways.length m3]:Array Value)[i]!):=zak wr 42 #[.int .i64 code,.bool d.ok,.slice o1 d.occ.length m1,.slice o2 d.points.length m2,.slice o3 d.ways.length m3];have hHA:=hH.call hbn;have hfa2:=hfa.keep (Q:=fun b=>b < w3.heap.size ∧ b ≠ fb) (za0 hbn fun b hb=>Nat.lt_of_lt_of_le hb.1 hH.but.size) fun _ z=>z;have HFA:=zaa hfa2;have HNX:=zaa hnx;have HRN:=zaa hrn;have HHA:=zaa hHA;clear hx hcd hfa hfa2 hbn hrn hHA hev hst hnx hfe hH
    go_upto_region 8 with fail
    obtain ⟨WA,hWA⟩:∃ W,W = wr.alloc (.cells #[.int .i64 code,.bool d.ok,.slice o1 d.occ.length m1,.slice o2 d.points.length m2,.slice o3 d.ways.length m3] 42):=⟨_,rfl⟩;obtain ⟨db,hdb⟩:∃ b,b = wr.heap.size:=⟨_,rfl⟩;rw [← hWA] at HRN HHA HFA ⊢;rw [← hdb] at HRN ⊢;clear hWA hdb g0 g1 g2 g3 g4;have d1:=HRN.out.cell (i:=1) (by omega);have d2:=HRN.out.cell (i:=2) (by omega);have d3:=HRN.out.cell (i:=3) (by omega);have d4:=HRN.out.cell (i:=4) (by omega);have x0:=HHA.out.fbox.cell (i:=0) (by omega);have x1:=HHA.out.fbox.cell (i:=1) (by omega);have x2:=HHA.out.fbox.cell (i:=2) (by omega);have x3:=HHA.out.fbox.cell (i:=3) (by omega);have f0:=HHA.out.fbox.frozen 0;have f1:=HHA.out.fbox.frozen 1;have f2:=HHA.out.fbox.frozen 2;have f3:=HHA.out.fbox.frozen 3;have FIN:=zaa (HHA.out.put HFA.out);go_wp2;go_roundw
    case rel=>exact ⟨i + 1,_,_,_,by omega,by go_num,by rw [HNX.out]; exact FIN.out⟩
    case measure=>simp [intOf]; omega
  ·as_aux_lemma=>
    have hlti:decide ((i:Int) < (ne:Int)) = false:=decide_eq_false (by omega);have hff:zas p (zfu p es i):=zi8 HR.out es (by have:=HNE.out; omega);obtain ⟨f,hfe⟩:∃ f,f = zfu p es i:=⟨_,rfl⟩;rw [← hfe] at hH hff;clear hfe
    have hfw:f.ways.length = nw:=by rw [hff.2.2.2.2.1]; exact HNW.out.symm
    have hfl:=hH.frame;obtain ⟨j1,t1,rfl⟩:=hfl.1.size;obtain ⟨j2,t2,rfl⟩:=hfl.2.1.size;obtain ⟨j3,t3,rfl⟩:=hfl.2.2.size;have hfb0:w1.heap.size < wr.heap.size:=Nat.lt_of_lt_of_le hw13 (Nat.le_of_lt hH.fbox.lt);have KA:=fun (W:World) (h:Below wr.heap.size wr W)=>KW.out _ (hH.call h).but;have KFA:=fun (W:World) (h:Below wr.heap.size wr W)=>(hH.call h).frame.keep (Q:=In W) (zax _ _) fun b hb=>Nat.lt_of_lt_of_le hb.1 (hH.call h).but.size;have hy2:=(hH.but.row HPR.out (by omega)).cell (i:=2) (by show 2 < 5; omega);have CWN:=zaa fun (W:World) (k:Int) (h:Below wr.heap.size wr W)=>zwb _ _ _ _ _ _ p f k W (KP.out _ (KA W h)) (KC.out _ (KA W h)) (KFA W h) HR.out.small (zd1 hff) (ck HG1.out (KA W h));have CSW:=zaa fun (W:World) (k:Int) (h:Below wr.heap.size wr W)=>zwc _ _ _ _ _ _ p f k W (KP.out _ (KA W h)) (KFA W h) HR.out.small (zd1 hff);have CDO:=zaa fun (W:World) (k:Int) (h:Below wr.heap.size wr W)=>zwo _ _ _ _ _ _ p f 1 k 0 W (KP.out _ (KA W h)) (KC.out _ (KA W h)) (KFA W h) HR.out.small (zd1 hff) (ck HG1.out (KA W h));have CBL:=zaa fun (W:World) (k:Nat) (x:WayD) (hx:p.ways[k]? = some x) (h:Below wr.heap.size wr W)=>zv8 _ _ _ _ _ _ p f k x W (KP.out _ (KA W h)) (KC.out _ (KA W h)) (KFA W h) HR.out.small (zd1 hff) hff hx (ck HG1.out (KA W h));rw [HNS.out] at CWN CSW CBL;have HFF:=zaa hff;have HFW:=zaa hfw;have HHA:=zaa hH;have HKA:=zaa (KA wr (Below.refl _ _));clear hff hfw hfl KA KFA hH;go_wp2;clear hy2 hlti
    go_loopw [37] (fun z wk=>∃ k:Nat,k ≤ nw ∧ z = .int .i64 (k:Int) ∧ Below wr.heap.size wr wk) (fun z _=>nw - (intOf z).toNat)
    case atStart=>exact ⟨0,by omega,rfl,Below.refl _ _⟩
    case round=>
     obtain ⟨k,hk,rfl,hbk⟩:=hrel;rename World=>wk;by_cases hltk:k < nw
     ·have hltki:decide ((k:Int) < (nw:Int)) = true:=decide_eq_true (by omega)
      have hkn:(k:Int) < (nw:Int):=by omega
      obtain ⟨h,hh⟩:=zac f.ways HFW hltk;obtain ⟨x,hx⟩:=zac p.ways (zaa HNW.out.symm) hltk;have hE:za5 p.sections p.switches.length p.ways.length 1 (k:Int) 0:=(ev1 (.inl rfl)).2 ⟨⟨by omega,by have:=HNW.out; omega⟩,rfl⟩;have hDo:zq7 p f 1 (k:Int) 0 = doD p f 1 (k:Int) 0:=if_pos ⟨HFF.out,hE⟩;have hDf:zas p (doD p f 1 (k:Int) 0).2:=zly HFF.out hE
      have hDw:(doD p f 1 (k:Int) 0).2.ways.length = nw:=by rw [hDf.2.2.2.2.1]; exact HNW.out.symm
      obtain ⟨g,hg⟩:=zac (doD p f 1 (k:Int) 0).2.ways (zaa hDw) hltk;obtain ⟨hc1,hc2,hc3⟩:=zwp HFF.out hx hh hg;have hwo:zwi p f (k:Int) = zit p f k x h:=zwa HFF.out ⟨by omega,by have:=HNW.out; omega⟩ hx hh;have hall:=zwj p f k x h;have hbl:=CBL.out;have hwn:=CWN.out wk (k:Int) hbk;have hcd:=fun W h=>CDO.out W (k:Int) h;have hcs:=fun W h=>CSW.out W (k:Int) h;have hcb:=fun W h=>CBL.out W k x hx h;rw [hwo] at hwn hcs;rw [hDo,hc1] at hcd;rw [HNS.out] at hcd;obtain ⟨K,hK⟩:∃ K,K = zit p f k x h:=⟨_,rfl⟩;obtain ⟨D,hD⟩:∃ D,D = doD p f 1 (k:Int) 0:=⟨_,rfl⟩;obtain ⟨nb,hnb⟩:∃ m,m = (zcc p f k).length:=⟨_,rfl⟩;obtain ⟨nq,hnq⟩:∃ m,m = (zgc f.occ x).length:=⟨_,rfl⟩;obtain ⟨nh,hnh⟩:∃ m,m = (zv5 (zdb f.points x) (zew p f k) (zgd p f)).length:=⟨_,rfl⟩;rw [← hK] at hwn hcs hcd hall hc2 hc3;rw [← hD] at hcd hDw hg;rw [← hnb,← hnq,← hnh] at hall hcb
      have hsum:0 ≤ (nb:Int) ∧ (nb:Int) ≤ 1048576 ∧ 0 ≤ (nq:Int) ∧ (nq:Int) ≤ 1048576 ∧ 0 ≤ (nh:Int) ∧ (nh:Int) ≤ 1048576:=by
       have q1:nb ≤ 1048576:=by
        rw [hnb];refine Nat.le_trans (List.length_filter_le _ _) (Nat.le_trans (zwl _ _) ?_);have:=HFW.out;omega
       have hsm:=(HR.out.way hx)
       have q2:nq ≤ 1048576:=by
        rw [hnq];refine Nat.le_trans (List.length_filter_le _ _) ?_;rw [zgv];have:=hsm.2.1.2;have:=hsm.2.2.1.2;omega
       have q3:nh ≤ 1048576:=by
        rw [hnh];unfold zv5;rw [List.length_map];refine Nat.le_trans (List.length_filter_le _ _) (Nat.le_trans (List.length_filter_le _ _) ?_);rw [List.length_append];have:=hsm.2.2.2.2.1.2;have:=hsm.2.2.2.2.2.1.2;omega
       omega
      have HWN:=zaa hwn;have HCS:=zaa hcs;have HCD:=zaa hcd;have HCB:=zaa hcb;have HALL:=zaa hall;have HC2:=zaa hc2;have HC3:=zaa hc3;have HDW:=zaa hDw;have HGG:=zaa hg;have HH:=zaa hh;have HSUM:=zaa hsum;clear hE hDo hDf hc1 hwo hbl hwn hcd hcs hcb hK hD hnb hnq hnh hx hall hc2 hc3 hDw hg hh hsum;have hHq:=HHA.out.call hbk;have hpr:=hHq.but.row HPR.out (by omega);have y0:=hpr.cell (i:=0) (by show 0 < 5; omega);have y1:=hpr.cell (i:=1) (by show 1 < 5; omega);have y2:=hpr.cell (i:=2) (by show 2 < 5; omega);have y3:=hpr.cell (i:=3) (by show 3 < 5; omega);have y4:=hpr.cell (i:=4) (by show 4 < 5; omega);have x0:=hHq.fbox.cell (i:=0) (by show 0 < 4; omega);have x1:=hHq.fbox.cell (i:=1) (by show 1 < 4; omega);have x2:=hHq.fbox.cell (i:=2) (by show 2 < 4; omega);have x3:=hHq.fbox.cell (i:=3) (by show 3 < 4; omega);clear hHq hpr
      go_wp2_with fail
      refine HWN.out.mono ?_;clear y0 y1 y2 y3 y4 x0 x1 x2 x3;rintro e wA ⟨rfl,hbA⟩;have hkA:=hbk.trans (hbA.mono hbk.size);have hHq:=HHA.out.call hkA;have hpr:=hHq.but.row HPR.out (by omega);have y0:=hpr.cell (i:=0) (by show 0 < 5; omega);have y1:=hpr.cell (i:=1) (by show 1 < 5; omega);have y2:=hpr.cell (i:=2) (by show 2 < 5; omega);have y3:=hpr.cell (i:=3) (by show 3 < 5; omega);have y4:=hpr.cell (i:=4) (by show 4 < 5; omega);have x0:=hHq.fbox.cell (i:=0) (by show 0 < 4; omega);have x1:=hHq.fbox.cell (i:=1) (by show 1 < 4; omega);have x2:=hHq.fbox.cell (i:=2) (by show 2 < 4; omega);have x3:=hHq.fbox.cell (i:=3) (by show 3 < 4; omega);clear hHq hpr
      go_wp2_with fail
      refine (HCB.out wA hkA).mono ?_;clear y0 y1 y2 y3 y4 x0 x1 x2 x3 HWN hbA;rintro e wB ⟨b1,b2,b3,e1,e2,e3,rfl,hbB⟩;have hkB:=hkA.trans (hbB.mono hkA.size);have hbS:=zab wB (.cells #[.slice b1 nb e1,.slice b2 nq e2,.slice b3 nh e3] 63);have hrS:(wB.alloc (.cells #[.slice b1 nb e1,.slice b2 nq e2,.slice b3 nh e3] 63)).rowIs wB.heap.size 63 3 (fun i=>(#[.slice b1 nb e1,.slice b2 nq e2,.slice b3 nh e3]:Array Value)[i]!):=zak wB 63 #[.slice b1 nb e1,.slice b2 nq e2,.slice b3 nh e3];have hkS:=hkB.trans (hbS.mono hkB.size);have hHq:=HHA.out.call hkS;have hpr:=hHq.but.row HPR.out (by omega);have y0:=hpr.cell (i:=0) (by show 0 < 5; omega);have y1:=hpr.cell (i:=1) (by show 1 < 5; omega);have y2:=hpr.cell (i:=2) (by show 2 < 5; omega);have y3:=hpr.cell (i:=3) (by show 3 < 5; omega);have y4:=hpr.cell (i:=4) (by show 4 < 5; omega);have x0:=hHq.fbox.cell (i:=0) (by show 0 < 4; omega);have x1:=hHq.fbox.cell (i:=1) (by show 1 < 4; omega);have x2:=hHq.fbox.cell (i:=2) (by show 2 < 4; omega);have x3:=hHq.fbox.cell (i:=3) (by show 3 < 4; omega);clear hHq hpr;have HRS:=zaa hrS;have HKS:=zaa hkS;clear hrS hbS hkS hkB hbB HCB
      go_wp2_with fail
      refine (HCD.out _ HKS.out).mono ?_;clear y0 y1 y2 y3 y4 x0 x1 x2 x3;rintro e wC ⟨u1,u2,u3,rfl,hbC,hfm⟩;have hkC:=HKS.out.trans (hbC.mono HKS.out.size);have hrC:=zah HRS.out hbC;obtain ⟨sb,hsb⟩:∃ b,b = wB.heap.size:=⟨_,rfl⟩;rw [← hsb] at hrC ⊢;obtain ⟨q1,s1,q2,s2,q3,s3,rfl,rfl,rfl⟩:=hfm.slices;have hfa:=hfm.read;rw [HDW.out] at hfa ⊢;have hbD:=zab wC (.cells #[.int .i64 K,.bool D.2.ok,.slice q1 D.2.occ.length s1,.slice q2 D.2.points.length s2,.slice q3 nw s3] 42);have hrD:(wC.alloc (.cells #[.int .i64 K,.bool D.2.ok,.slice q1 D.2.occ.length s1,.slice q2 D.2.points.length s2,.slice q3 nw s3] 42)).rowIs wC.heap.size 42 5 (fun i=>(#[.int .i64 K,.bool D.2.ok,.slice q1 D.2.occ.length s1,.slice q2 D.2.points.length s2,.slice q3 nw s3]:Array Value)[i]!):=zak wC 42 #[.int .i64 K,.bool D.2.ok,.slice q1 D.2.occ.length s1,.slice q2 D.2.points.length s2,.slice q3 nw s3];have hkD:=hkC.trans (hbD.mono hkC.size);have l0:=hrD.cell (i:=0) (by show 0 < 5; omega);have hHq:=HHA.out.call hkD;have hpr:=hHq.but.row HPR.out (by omega);have y0:=hpr.cell (i:=0) (by show 0 < 5; omega);have y1:=hpr.cell (i:=1) (by show 1 < 5; omega);have y2:=hpr.cell (i:=2) (by show 2 < 5; omega);have y3:=hpr.cell (i:=3) (by show 3 < 5; omega);have y4:=hpr.cell (i:=4) (by show 4 < 5; omega);have x0:=hHq.fbox.cell (i:=0) (by show 0 < 4; omega);have x1:=hHq.fbox.cell (i:=1) (by show 1 < 4; omega);have x2:=hHq.fbox.cell (i:=2) (by show 2 < 4; omega);have x3:=hHq.fbox.cell (i:=3) (by show 3 < 4; omega)
      clear hHq hpr;have HRD:=zaa hrD;have HKD:=zaa hkD;have HRC:=zaa (zah hrC hbD);have HFA:=zaa (hfa.keep (Q:=In (wC.alloc (.cells #[.int .i64 K,.bool D.2.ok,.slice q1 D.2.occ.length s1,.slice q2 D.2.points.length s2,.slice q3 nw s3] 42))) (In.keep hbD).1 (In.keep hbD).2);clear hsb hrD hbD hkD hkC hrC hbC hfm hfa HRS HKS HCD
      go_wp2_with fail
      refine (HCS.out _ HKD.out).mono ?_;clear y0 y1 y2 y3 y4 x0 x1 x2 x3 l0;rintro e wE ⟨rfl,hbE⟩;have hkE:=HKD.out.trans (hbE.mono HKD.out.size);have hrS:=zah HRC.out hbE;have hrD:=zah HRD.out hbE;have hfE:=HFA.out.keep (Q:=In wE) (In.keep hbE).1 (In.keep hbE).2;obtain ⟨db,hdb⟩:∃ b,b = wC.heap.size:=⟨_,rfl⟩;rw [← hdb] at hrD ⊢;have hHq:=HHA.out.call hkE;have y2:=(hHq.but.row HPR.out (by omega)).cell (i:=2) (by show 2 < 5; omega);have x3:=hHq.fbox.cell (i:=3) (by show 3 < 4; omega);have s0:=hrS.cell (i:=0) (by show 0 < 3; omega);have s1':=hrS.cell (i:=1) (by show 1 < 3; omega);have s2':=hrS.cell (i:=2) (by show 2 < 3; omega);have l4:=hrD.cell (i:=4) (by show 4 < 5; omega);obtain ⟨-,-,⟨af,kf,ef,h0 | ⟨bf,off,rfl,-,hcf⟩⟩⟩:=id hfE
      ·have:=HDW.out; omega
      cases ef
      obtain ⟨-,-,⟨ag,kg,eg,h0 | ⟨bg,ofg,rfl,-,hcg⟩⟩⟩:=id hHq.frame
      ·have:=HFW.out; omega
      cases eg
      obtain ⟨r2,-,z0,-,-,-,-⟩:=hcf k (by have:=HDW.out; omega) g HGG.out;obtain ⟨r3,-,w0,-,-,-,-⟩:=hcg k (by have:=HFW.out; omega) h HH.out
      have hkf:(k:Int) < (f.ways.length:Int):=by have:=HFW.out; omega
      obtain ⟨hs1,hs2,hs3,hs4,hs5,hs6⟩:=HSUM.out;have HKE:=zaa hkE;clear hbE hrS hrD hfE hHq hcf hcg hdb HRC HRD HFA HKD HCS hbk hkE;rcases HALL.out with ⟨hK,hst⟩ | ⟨hK,hst,hn1,hn2,hn3⟩ | ⟨hK0,hK2,hst,hn⟩
      ·subst hK
       have hst0:(h.state == 0) = false:=by simp [hst]
       clear hst hs1 hs2 hs3 hs4 hs5 hs6;go_wp2;go_roundw
       case rel=>exact ⟨k + 1,by omega,by go_num,HKE.out⟩
       case measure=>simp [intOf]; omega
      ·subst hK hn1 hn2 hn3
       have hgs:(g.state != 0) = true:=by simpa using HC2.out rfl
       have hst0:(h.state == 0) = true:=by simp [hst]
       clear hst hs1 hs2 hs3 hs4 hs5 hs6;go_wp2;go_roundw
       case rel=>exact ⟨k + 1,by omega,by go_num,HKE.out⟩
       case measure=>simp [intOf]; omega
      ·have hgs:(g.state != 0) = false:=by rw [HC3.out hK0,hst]; rfl
       have hst0:(h.state == 0) = true:=by simp [hst]
       have k0:(K == 0) = false:=by simpa using hK0
       have k2:(K != 2) = true:=by simpa using hK2
       have hnn:((nb:Int) + (nq:Int) + (nh:Int) == 0) = false:=by
        rw [beq_eq_false_iff_ne];omega
       clear hst hK0 hK2 hn;go_wp2;go_roundw
       case rel=>exact ⟨k + 1,by omega,by go_num,HKE.out⟩
       case measure=>simp [intOf]; omega
     ·have hltki:decide ((k:Int) < (nw:Int)) = false:=decide_eq_false (by omega);go_wp2;go_ret;exact ⟨rfl,HB1.out.trans ((HKA.out.trans (hbk.mono HKA.out.size)).mono HB1.out.size)⟩
end Go.Proofs.YtdhinkgjiapigaaGreatDoor

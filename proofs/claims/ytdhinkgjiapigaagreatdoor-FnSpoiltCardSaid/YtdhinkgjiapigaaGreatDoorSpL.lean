import Derived.Test.YtdhinkgjiapigaaGreatDoorSpY
import Derived.Test.YtdhinkgjiapigaaGreatDoorAnsN
import Derived.Test.YtdhinkgjiapigaaGreatDoorEventJ
import Derived.Test.YtdhinkgjiapigaaGreatDoorHeldFp
import Derived.Deep.DeepCutAuto
import Derived.KernelRfl
namespace Go.Proofs.YtdhinkgjiapigaaGreatDoor
open Go.RowKit Go.Deep
open Classical
theorem zxw (W:World):Evs (In (W.alloc (.cells #[.int .i64 7,.int .i64 0,.int .i64 0] 55))) (W.alloc (.cells #[.int .i64 7,.int .i64 0,.int .i64 0] 55)) (.slice (some ⟨W.heap.size,0,none⟩) 1 1) [(7,0,0)]:=by
 refine ⟨_,1,rfl,.inr ⟨W.heap.size,0,rfl,by show W.heap.size < _; rw [World.size_alloc]; omega,fun i hi x hx=>?_⟩⟩
 obtain rfl:i = 0:=by have:i < 1:=hi; omega
 cases hx
 exact ⟨by simp,by simp,by simp⟩
theorem zxm (b:Bool) (x y z:Option Addr) (n1 c1 n2 c2 n3 c3:Nat) (W:World):(Instr.field 40 (.agg #[.bool b,.slice x n1 c1,.slice y n2 c2,.slice z n3 c3]) 0).run Tryz.prog W = .ok (.bool b) W:=by kernel_rfl
set_option maxRecDepth 100000 in
set_option maxHeartbeats 16000000 in
theorem zxh (a:Option Addr) (n c:Nat) (w:World) (hv:Bys (In w) w (.slice a n c) n) (hn:n ≤ 9223372036854775807) (hg:w.cell? ⟨1,0,none⟩ = some zrv) :
  Calls Tryz.prog 11 #[.slice a n c] w fun e w'=>e = .returned (.bool true) ∧ Below w.heap.size w w':=by
 have HG:=zaa hg;have HB0:=zaa (Below.refl w.heap.size w);by_cases hs:n ≤ 1048576
 case neg=>
  have hgd:decide ((1048576:Int) < (n:Int)) = true:=decide_eq_true (by omega);go_enter Tryz.func11,Tryz.ntmps11;go_wp2;go_ret;exact ⟨rfl,HB0.out⟩
 have HDR:=zaa (zw3 a n c w hv hs);clear hv hg;have hgd:decide ((1048576:Int) < (n:Int)) = false:=decide_eq_false (by omega);go_enter Tryz.func11,Tryz.ntmps11
 go_wp2_with fail
 refine HDR.out.mono ?_;clear HDR hgd hs hn HB0;rintro e w1 ⟨v1,v2,v3,p,rfl,hp,hwc,hsm,hb1⟩;obtain ⟨a1,c1,rfl⟩:=hp.1.size;obtain ⟨a2,c2,rfl⟩:=hp.2.1.size;obtain ⟨a3,c3,rfl⟩:=hp.2.2.size;have hpi:=hp.keep (zax _ _) (Q:=In w1) fun b hb=>hb.2;have hwi:=hwc.keep (zax _ _) (Q:=In w1) fun b hb=>hb.2;have KP:=zaa fun (W:World) (h:Below w1.heap.size w1 W)=>hpi.keep (Q:=In W) (In.keep h).1 (In.keep h).2;have KC:=zaa fun (W:World) (h:Below w1.heap.size w1 W)=>hwi.keep (Q:=In W) (In.keep h).1 (In.keep h).2;have HSM:=zaa hsm;have HB1:=zaa hb1;have HG1:=zaa (ck HG.out hb1);clear hp hwc hsm hpi hwi hb1 HG;have T2:=zaw w1 27 #[.int .i64 p.sections,.slice a1 p.switches.length c1,.slice a2 p.ways.length c2,.slice a3 p.bars.length c3,.int .i64 p.hold];have HPO:=zaa (zhv _ _ _ p _ (KP.out _ T2.below) HSM.out (ck HG1.out T2.below));have HT2:=zaa T2;clear T2
 go_wp2_with fail
 refine HPO.out.mono ?_;clear HPO;rintro e w2 ⟨fc,fa,rfl,hf,hb2⟩;have hf5:=zqj.2 hf;have HF5:=zaa hf5;have HRI:=zaa (zkn hf5);have hT3:=HT2.out.call hb2;have hbn:=zab w2 (.cells #[.int .i64 fc,.int .i64 fa] 68);have hrf:(w2.alloc (.cells #[.int .i64 fc,.int .i64 fa] 68)).rowIs w2.heap.size 68 2 (fun i=>(#[.int .i64 fc,.int .i64 fa]:Array Value)[i]!):=zak w2 68 #[.int .i64 fc,.int .i64 fa];have hrp:=zah (hT3.row 0 _ _ rfl) hbn;rw [Nat.add_zero] at hrp;have hb3:Below w1.heap.size w1 _:=(hT3.call hbn).below;obtain ⟨W3,hW3⟩:∃ W,W = w2.alloc (.cells #[.int .i64 fc,.int .i64 fa] 68):=⟨_,rfl⟩;obtain ⟨fb,hfb⟩:∃ b,b = w2.heap.size:=⟨_,rfl⟩;obtain ⟨pb,hpb⟩:∃ b,b = w1.heap.size:=⟨_,rfl⟩;rw [← hW3] at hrf hrp hb3;rw [← hfb] at hrf;rw [← hpb] at hrp;have HRP:=zaa hrp;have HRF:=zaa hrf;have HB3:=zaa hb3;clear hf hf5 hb2 hT3 hbn hrf hrp hb3 HT2
 go_upto_region 5 with fail
 rw [← hW3,← hfb,← hpb];clear hW3 hfb hpb;have hks:∀ W:World,Below W3.heap.size W3 W → (fun W:World=>W.cell? ⟨pb,0,none⟩ = some (.int .i64 p.sections) ∧ W.cell? ⟨pb,1,none⟩ = some (.slice a1 p.switches.length c1) ∧ W.cell? ⟨pb,2,none⟩ = some (.slice a2 p.ways.length c2) ∧ W.cell? ⟨pb,3,none⟩ = some (.slice a3 p.bars.length c3) ∧ W.cell? ⟨pb,4,none⟩ = some (.int .i64 p.hold) ∧ W.cell? ⟨fb,0,none⟩ = some (.int .i64 fc) ∧ W.cell? ⟨fb,1,none⟩ = some (.int .i64 fa)) W:=fun W h=>⟨(zah HRP.out h).cell (i:=0) (by show 0 < 5; omega),(zah HRP.out h).cell (i:=1) (by show 1 < 5; omega),(zah HRP.out h).cell (i:=2) (by show 2 < 5; omega),(zah HRP.out h).cell (i:=3) (by show 3 < 5; omega),(zah HRP.out h).cell (i:=4) (by show 4 < 5; omega),(zah HRF.out h).cell (i:=0) (by omega),(zah HRF.out h).cell (i:=1) (by omega)⟩;have KS:=zaa hks;clear hks
 have hso:∀ W,Below W3.heap.size W3 W → Calls Tryz.prog 33 #[.agg #[.int .i64 p.sections,.slice a1 p.switches.length c1,.slice a2 p.ways.length c2,.slice a3 p.bars.length c3,.int .i64 p.hold]] W fun e w'=>e = .returned (.agg #[.int .i64 fc,.int .i64 fa]) ∧ Below W.heap.size W w':=fun W hW=>by
  refine (zh1 _ _ _ p W (KP.out _ (HB3.out.trans (hW.mono HB3.out.size))) HSM.out).mono ?_;rintro e w' ⟨c',a',rfl,hf',hb'⟩;obtain ⟨rfl,rfl⟩:=FaultBy.uniq _ _ _ _ _ _ hf' HF5.out;exact ⟨rfl,hb'⟩
 have HSO:=zaa hso;clear hso
 go_cut [16] (fun v wc=>v = .bool false ∧ Below W3.heap.size W3 wc)
 case first=>
  refine zwt (S:=fun W:World=>W.cell? ⟨pb,0,none⟩ = some (.int .i64 p.sections) ∧ W.cell? ⟨pb,1,none⟩ = some (.slice a1 p.switches.length c1) ∧ W.cell? ⟨pb,2,none⟩ = some (.slice a2 p.ways.length c2) ∧ W.cell? ⟨pb,3,none⟩ = some (.slice a3 p.bars.length c3) ∧ W.cell? ⟨pb,4,none⟩ = some (.int .i64 p.hold) ∧ W.cell? ⟨fb,0,none⟩ = some (.int .i64 fc) ∧ W.cell? ⟨fb,1,none⟩ = some (.int .i64 fa)) 4 4 (by kernel_rfl) (by kernel_rfl) (KS.out _ (zaf _)) (fun hS=>?_);have hd0:=zaf W3;obtain ⟨wD,hwD⟩:∃ W,W = W3.drew:=⟨_,rfl⟩;rw [← hwD] at hS hd0 ⊢;clear hwD
  iterate 2
   refine tfI (by rfl) (by kernel_rfl) (by exact fun _ _ _ h=>h) (by kernel_rfl) (by intro _ s; (try dsimp only at s); go_simp; try with_reducible rfl) hS ?_
   try simp only [Act.put,sA,sB,sC]
  clear hS;refine zbk (i:=2) At.z.s.s (by kernel_rfl) (fun K1 hK1=>?_);go_simp;refine (HSO.out _ hd0).mono ?_;rintro e w5 ⟨rfl,hb5⟩;have hd5:=hd0.trans (hb5.mono hd0.size);have hS:=KS.out _ hd5;refine hK1.out _ _ hS ?_;clear hK1 K1 hb5
  try simp only [Act.put,sA,sB,sC]
  iterate 1
   refine tfI (by rfl) (by kernel_rfl) (by exact fun _ _ _ h=>h) (by kernel_rfl) (by intro _ s; (try dsimp only at s); go_simp; try with_reducible rfl) hS ?_
   try simp only [Act.put,sA,sB,sC]
  refine zlu (by kernel_rfl) ?_;go_wp2;go_meet
  case rel=>exact ⟨rfl,hd5⟩
 case rest=>
  obtain ⟨rfl,hbc⟩:=hcut;clear HSO KS;have hbe:=zab wc (.cells #[.int .i64 7,.int .i64 0,.int .i64 0] 55);have hre:(wc.alloc (.cells #[.int .i64 7,.int .i64 0,.int .i64 0] 55)).rowIs wc.heap.size 55 3 (fun i=>(#[.int .i64 7,.int .i64 0,.int .i64 0]:Array Value)[i]!):=zak wc 55 #[.int .i64 7,.int .i64 0,.int .i64 0];have hev:=zxw wc;have hrp:=zah (zah HRP.out hbc) hbe;have hrf:=zah (zah HRF.out hbc) hbe;have hb4:=HB3.out.trans ((hbc.trans (hbe.mono hbc.size)).mono HB3.out.size);obtain ⟨W4,hW4⟩:∃ W,W = wc.alloc (.cells #[.int .i64 7,.int .i64 0,.int .i64 0] 55):=⟨_,rfl⟩;obtain ⟨eb,heb⟩:∃ b,b = wc.heap.size:=⟨_,rfl⟩;rw [← hW4] at hre hev hrp hrf hb4;rw [← heb] at hre hev;have HRE:=zaa hre;have HRP4:=zaa hrp;have HB4:=zaa hb4;have KE:=zaa fun (W:World) (h:Below W4.heap.size W4 W)=>hev.keep (Q:=In W) (In.keep h).1 (In.keep h).2;have K1W:=zaa fun (W:World) (h:Below W4.heap.size W4 W)=>hb4.trans (h.mono hb4.size);have f0:=hrf.cell (i:=0) (by omega);clear hbe hre hev hrp hrf hb4 hbc HRP HRF HB3;have CRU:=zaa fun (W:World) (h:Below W4.heap.size W4 W)=>zqw _ _ _ _ p [(7,0,0)] W (KP.out _ (K1W.out W h)) (KC.out _ (K1W.out W h)) (KE.out W h) HSM.out (by show 1 ≤ 1048576; omega) (ck HG1.out (K1W.out W h));have CBE:=zaa fun (W:World) (h:Below W4.heap.size W4 W)=>zjd _ _ _ p W (KP.out _ (K1W.out W h)) HSM.out (ck HG1.out (K1W.out W h));have CEV:=zaa fun (W:World) (h:Below W4.heap.size W4 W)=>zw1 _ _ _ p 7 0 0 W (KP.out _ (K1W.out W h)) HSM.out (ck HG1.out (K1W.out W h))
  go_upto_region 8 with fail
  rw [← hW4,← heb];clear hW4 heb;have hfo:=zxm;by_cases hc0:fc = 0
  ·as_aux_lemma=>
    have hR:Right p:=HRI.out.1 hc0
    have hcb:(fc == 0) = true:=by simp [hc0]
    have HR:=zaa hR;clear hR hc0
    go_upto_region 9 with fail
    clear hcb f0;have y0:=HRP4.out.cell (i:=0) (by show 0 < 5; omega);have y1:=HRP4.out.cell (i:=1) (by show 1 < 5; omega);have y2:=HRP4.out.cell (i:=2) (by show 2 < 5; omega);have y3:=HRP4.out.cell (i:=3) (by show 3 < 5; omega);have y4:=HRP4.out.cell (i:=4) (by show 4 < 5; omega)
    go_wp2_with fail
    refine (CRU.out W4 (Below.refl _ _)).mono ?_;clear y0 y1 y2 y3 y4;rintro e w6 ⟨v,rfl,hb6,hd⟩;have hz:zp2 p [(7,0,0)] = zdu p (zaq p) [(7,0,0)]:=if_pos ⟨HR.out,by show 1 ≤ 1000; omega⟩;rw [hz] at hd;obtain ⟨xs,lo1,hown,-⟩:=hd;rw [zq3] at hown;obtain ⟨av,cv,rfl⟩:=zag hown;have hrp:=zah HRP4.out hb6;have y0:=hrp.cell (i:=0) (by show 0 < 5; omega);have y1:=hrp.cell (i:=1) (by show 1 < 5; omega);have y2:=hrp.cell (i:=2) (by show 2 < 5; omega);have y3:=hrp.cell (i:=3) (by show 3 < 5; omega);have y4:=hrp.cell (i:=4) (by show 4 < 5; omega);have HBG:=zaa (CBE.out w6 hb6);have HB6:=zaa hb6;clear hz hown hrp hb6
    go_wp2_with fail
    refine HBG.out.mono ?_;rintro e w7 ⟨u1,u2,u3,rfl,hb7,hfm⟩
    have hok:(zdd p).ok = true:=by rw [show zdd p = zaq p from if_pos HR.out]; rfl
    obtain ⟨q1,s1,q2,s2,q3,s3,rfl,rfl,rfl⟩:=hfm.slices;rw [hok];have HB7:=zaa (HB6.out.trans (hb7.mono HB6.out.size));clear y0 y1 y2 y3 y4 hfm hok hb7;go_wp2;go_ret;exact ⟨rfl,HB1.out.trans ((K1W.out _ HB7.out).mono HB1.out.size)⟩
  ·as_aux_lemma=>
    have hR:¬ Right p:=fun z=>hc0 (HRI.out.2 z)
    have hcb:(fc == 0) = false:=by simp [hc0]
    have HR:=zaa hR;have CAN:=zaa fun (W:World) (h:Below W4.heap.size W4 W)=>zw6 _ _ _ _ p [(7,0,0)] W (KP.out _ (K1W.out W h)) (KC.out _ (K1W.out W h)) (KE.out W h) HSM.out (by show 1 ≤ 1048576; omega) (ck HG1.out (K1W.out W h)) hR;clear hR hc0
    go_upto_region 10 with fail
    clear hcb f0;have hks:∀ W:World,Below W4.heap.size W4 W → (fun W:World=>W.cell? ⟨pb,0,none⟩ = some (.int .i64 p.sections) ∧ W.cell? ⟨pb,1,none⟩ = some (.slice a1 p.switches.length c1) ∧ W.cell? ⟨pb,2,none⟩ = some (.slice a2 p.ways.length c2) ∧ W.cell? ⟨pb,3,none⟩ = some (.slice a3 p.bars.length c3) ∧ W.cell? ⟨pb,4,none⟩ = some (.int .i64 p.hold) ∧ W.cell? ⟨eb,0,none⟩ = some (.int .i64 7) ∧ W.cell? ⟨eb,1,none⟩ = some (.int .i64 0) ∧ W.cell? ⟨eb,2,none⟩ = some (.int .i64 0)) W:=fun W h=>⟨(zah HRP4.out h).cell (i:=0) (by show 0 < 5; omega),(zah HRP4.out h).cell (i:=1) (by show 1 < 5; omega),(zah HRP4.out h).cell (i:=2) (by show 2 < 5; omega),(zah HRP4.out h).cell (i:=3) (by show 3 < 5; omega),(zah HRP4.out h).cell (i:=4) (by show 4 < 5; omega),(zah HRE.out h).cell (i:=0) (by omega),(zah HRE.out h).cell (i:=1) (by omega),(zah HRE.out h).cell (i:=2) (by omega)⟩;have KS:=zaa hks;clear hks;refine zwt (S:=fun W:World=>W.cell? ⟨pb,0,none⟩ = some (.int .i64 p.sections) ∧ W.cell? ⟨pb,1,none⟩ = some (.slice a1 p.switches.length c1) ∧ W.cell? ⟨pb,2,none⟩ = some (.slice a2 p.ways.length c2) ∧ W.cell? ⟨pb,3,none⟩ = some (.slice a3 p.bars.length c3) ∧ W.cell? ⟨pb,4,none⟩ = some (.int .i64 p.hold) ∧ W.cell? ⟨eb,0,none⟩ = some (.int .i64 7) ∧ W.cell? ⟨eb,1,none⟩ = some (.int .i64 0) ∧ W.cell? ⟨eb,2,none⟩ = some (.int .i64 0)) 26 26 (by kernel_rfl) (by kernel_rfl) (KS.out _ (zaf _)) (fun hS=>?_);have hd0:=zaf W4;obtain ⟨wD,hwD⟩:∃ W,W = W4.drew:=⟨_,rfl⟩;rw [← hwD] at hS hd0 ⊢;clear hwD
    iterate 2
     refine tfI (by rfl) (by kernel_rfl) (by exact fun _ _ _ h=>h) (by kernel_rfl) (by intro _ s; (try dsimp only at s); go_simp; try with_reducible rfl) hS ?_
     try simp only [Act.put,sA,sB,sC]
    clear hS;refine zbk (i:=2) At.z.s.s (by kernel_rfl) (fun K1 hK1=>?_);go_simp;refine (CRU.out _ hd0).mono ?_;rintro e w6 ⟨v,rfl,hb6,hd⟩;have hz:zp2 p [(7,0,0)] = []:=if_neg fun z=>HR.out z.1;rw [hz] at hd;obtain ⟨xs,lo1,hown,-⟩:=hd;obtain ⟨av,cv,rfl⟩:=zag hown;have hd6:=hd0.trans (hb6.mono hd0.size);have hS:=KS.out _ hd6;refine hK1.out _ _ hS ?_;clear hK1 K1 hb6 hown hz hd0
    try simp only [Act.put,sA,sB,sC]
    iterate 4
     refine tfI (by rfl) (by kernel_rfl) (by exact fun _ _ _ h=>h) (by kernel_rfl) (by intro _ s; (try dsimp only at s); go_simp; try with_reducible rfl) hS ?_
     try simp only [Act.put,sA,sB,sC]
    clear hS;refine zbk (i:=7) At.z.s.s.s.s.s.s.s (by kernel_rfl) (fun K1 hK1=>?_);rw [if_pos (by kernel_rfl)];go_simp;refine (CBE.out _ hd6).mono ?_;rintro e w7 ⟨u1,u2,u3,rfl,hb7,hfm⟩
    have hok:(zdd p).ok = false:=by rw [show zdd p = zex from if_neg HR.out]; rfl
    obtain ⟨q1,s1,q2,s2,q3,s3,rfl,rfl,rfl⟩:=hfm.slices;rw [hok];have hd7:=hd6.trans (hb7.mono hd6.size);have hS:=KS.out _ hd7;refine hK1.out _ _ hS ?_;clear hK1 K1 hb7 hfm hok hd6
    try simp only [Act.put,sA,sB,sC]
    iterate 8
     refine tfI (by rfl) (by kernel_rfl) (by exact fun _ _ _ h=>h) (by kernel_rfl) (by intro _ s; (try dsimp only at s); go_simp; try with_reducible rfl) hS ?_
     try simp only [Act.put,sA,sB,sC]
    clear hS;refine zbk (i:=16) At.z.s.s.s.s.s.s.s.s.s.s.s.s.s.s.s.s (by kernel_rfl) (fun K1 hK1=>?_);rw [if_pos (by kernel_rfl)];go_simp;refine (CEV.out _ hd7).mono ?_;rintro e w8 ⟨rfl,hb8⟩;rw [zae fun z=>HR.out z.1];have hd8:=hd7.trans (hb8.mono hd7.size);have hS:=KS.out _ hd8;refine hK1.out _ _ hS ?_;clear hK1 K1 hb8 hd7
    try simp only [Act.put,sA,sB,sC]
    iterate 5
     refine tfI (by rfl) (by kernel_rfl) (by exact fun _ _ _ h=>h) (by kernel_rfl) (by intro _ s; (try dsimp only at s); go_simp; try with_reducible rfl) hS ?_
     try simp only [Act.put,sA,sB,sC]
    clear hS;refine zbk (i:=22) At.z.s.s.s.s.s.s.s.s.s.s.s.s.s.s.s.s.s.s.s.s.s.s (by kernel_rfl) (fun K1 hK1=>?_);rw [if_pos (by kernel_rfl)];go_simp;refine (CAN.out _ hd8).mono ?_;rintro e w9 ⟨rfl,hb9⟩;have hd9:=hd8.trans (hb9.mono hd8.size);have hS:=KS.out _ hd9;refine hK1.out _ _ hS ?_;clear hK1 K1 hb9 hd8
    try simp only [Act.put,sA,sB,sC]
    iterate 3
     refine tfI (by rfl) (by kernel_rfl) (by exact fun _ _ _ h=>h) (by kernel_rfl) (by intro _ s; (try dsimp only at s); go_simp; try with_reducible rfl) hS ?_
     try simp only [Act.put,sA,sB,sC]
    refine zlu (by kernel_rfl) ?_;have HB9:=zaa hd9;clear hS hd9;go_wp2;go_ret;exact ⟨rfl,HB1.out.trans ((K1W.out _ HB9.out).mono HB1.out.size)⟩
end Go.Proofs.YtdhinkgjiapigaaGreatDoor

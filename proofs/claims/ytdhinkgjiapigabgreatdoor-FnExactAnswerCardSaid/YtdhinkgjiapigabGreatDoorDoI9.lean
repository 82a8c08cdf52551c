import Derived.Test.YtdhinkgjiapigabGreatDoorDoI4
import Derived.Test.YtdhinkgjiapigabGreatDoorWhyW
namespace Go.Proofs.YtdhinkgjiapigabGreatDoor
open Go.RowKit Go.Deep
open Classical
set_option maxRecDepth 100000 in
set_option maxHeartbeats 8000000 in
theorem zqt (P Q:Nat → Prop) (p1 p2 p3 v1 v2 v3:Value) (p:PlanD) (d:FrameD) (k:Nat) (x:WayD) (h:HeldD) (bo bp bw:Nat) (bb:Nat → Nat) (w:World)
  (hpl:PlanAt (In w) w p1 p2 p3 p) (hwc:WaysC (In w) w p2 p.ways) (hp:Ways Q w p2 p.ways) (hQ:∀ c,Q c → c < w.heap.size ∧ ¬ P c) (hf:OFrame P w v1 v2 v3 d bo bp bw bb) (hx:p.ways[k]? = some x) (hh:d.ways[k]? = some h) (hid:h.state = 0 → h = zao x.sections.length .idle) (hsm:x.Small 30) (hpos:0 < x.sections.length)
  (hy:∀ y,(y ∈ x.lies ∨ y ∈ x.flanks) → 0 ≤ y.1 ∧ y.1 < d.points.length) (hs:p.Small 1048576) (hd:d.Small 1048576) (hR:zas p d) (hPl:∀ c,P c → c < w.heap.size) :
  Calls Tryz.prog 187 #[.agg #[.int .i64 p.sections,p1,p2,p3,.int .i64 p.hold],.agg #[.bool d.ok,v1,v2,v3],.agg #[.int .i64 1,.int .i64 (k:Int),.int .i64 0]] w fun e w'=>EvR P w v1 v2 v3 bo bp bw (evD p d 1 (k:Int) 0) e w':=by
 have hil:k < p.ways.length:=(List.getElem?_eq_some_iff.1 hx).1;have hjl:k < d.ways.length:=(List.getElem?_eq_some_iff.1 hh).1;obtain ⟨a2,k2,rfl,hcw⟩:=id hp;obtain h0 | ⟨bq,oq,rfl,hb2,hcw⟩:=hcw
 ·omega
 obtain ⟨u0,u1,u2,u3,u4,hway,g0,g1,g2,g3,g4⟩:=hcw k hil x hx;obtain ⟨aa0,cc0,rfl⟩:=hway.1.size;obtain ⟨aa1,cc1,rfl⟩:=hway.2.1.size;obtain ⟨aa2,cc2,rfl⟩:=hway.2.2.1.size;obtain ⟨aa3,cc3,rfl⟩:=hway.2.2.2.1.size;obtain ⟨aa4,cc4,rfl⟩:=hway.2.2.2.2.size;obtain ⟨q3,f,N,rfl,hr,hiN,ho⟩:=hf.ways.cells hh;obtain ⟨g1',N1,q1,rfl,-⟩:=id hf.occ;obtain ⟨a4,q2,rfl,-⟩:=id hf.points;obtain ⟨capb,t0,t1,t2,t3,t4,-,-⟩:=ho.cells hr hiN;have T0:=zbs w 37 42 52 #[.int .i64 p.sections,p1,.slice (some ⟨bq,oq,none⟩) p.ways.length k2,p3,.int .i64 p.hold] #[.bool d.ok,.slice (some ⟨bo,0,none⟩) d.occ.length q1,.slice a4 d.points.length q2,.slice (some ⟨bw,0,none⟩) d.ways.length q3] #[.int .i64 1,.int .i64 (k:Int),.int .i64 0];have hwy:WayAt (In w) w (.slice aa0 x.sections.length cc0) (.slice aa1 x.lies.length cc1) (.slice aa2 x.flanks.length cc2) (.slice aa3 x.over.length cc3) (.slice aa4 x.near.length cc4) x:=hway.keep (zax _ _) fun c hc=>(hQ c hc).1;have hfr:=(hf.bound (Q:=In w) fun _ _ z=>z).read;have KW:=zaa fun (W:World) (hW:Below w.heap.size w W)=>hwy.keep (Q:=In W) (In.keep hW).1 (In.keep hW).2;have KF:=zaa fun (W:World) (hW:Below w.heap.size w W)=>hfr.keep (Q:=In W) (In.keep hW).1 (In.keep hW).2;have KO:=zaa fun (W:World) (hW:Below w.heap.size w W)=>hf.but (K:=fun _=>True) (Q:=P) (But.of_calls hW) (fun _ _=>trivial) fun _ z=>z
 have hst:∀ W' y,HeldStep w W' bw N k f (bb k) y → ∃ bb',OFrame (fun c=>P c ∨ New w W' c) W' (.slice (some ⟨bo,0,none⟩) d.occ.length q1) (.slice a4 d.points.length q2) (.slice (some ⟨bw,0,none⟩) d.ways.length q3) { d with ways:=d.ways.set k y } bo bp bw bb' ∧ But (fun c=>¬ P c) w W':=fun W' y hs=>by
  obtain ⟨bb',h1,h2⟩:=hf.step (Q:=fun c=>P c ∨ New w W' c) hjl (x:=y) (w':=W') (fun f' N' hr' _ _=>hs.from hr hr') (fun _ z=>.inl z) (fun b h1 h2=>.inr ⟨h1,h2⟩);exact ⟨bb',h1,h2.mono fun c _ hc=>⟨fun e=>hc (e ▸ hf.pw (by omega)),fun e=>hc (e ▸ hf.pb k hjl)⟩⟩
 have HST:=zaa hst;have HR:=zaa hr;have HID:=zaa hid;have HSM:=zaa hsm;have HYY:=zaa hy;have HPP:=zaa hf.pp;have HXA:=zaa hway;have HQQ:=zaa hQ;have HPL:=zaa hPl;have KP:=zaa fun (W:World) (hW:Below w.heap.size w W)=>hpl.keep (Q:=In W) (In.keep hW).1 (In.keep hW).2;have KC:=zaa fun (W:World) (hW:Below w.heap.size w W)=>hwc.keep (Q:=In W) (In.keep hW).1 (In.keep hW).2;have HSD:=zaa (And.intro hs (And.intro hd hR));have HXH:=zaa (And.intro hx hh);have hl1:p.ways.length ≤ 1048576:=hs.2.1;have hl2:d.ways.length ≤ 1048576:=hd.2.2.1;have hl3:d.points.length ≤ 1048576:=hd.2.1;have HEV:=zaa (show evD p d 1 (k:Int) 0 = zlx p d k x h by simp [evD,hx,hh]);have HG:=zaa (And.intro g0 (And.intro g1 (And.intro g2 (And.intro g3 g4))))
 have hk1:(k:Int) < (d.ways.length:Int):=by omega
 have hk2:(k:Int) < (p.ways.length:Int):=by omega
 clear hp hf hx hh hid hsm hy hcw hway g0 g1 g2 g3 g4 hr ho t0 t1 t2 t3 t4 hwy hfr hst hs hd hR hPl hpl hwc;have e0:=T0.cell (j:=1) (i:=0) rfl rfl;go_enter Tryz.func187,Tryz.ntmps187
 go_wp2_with fail
 refine (znq _ _ _ _ _ _ p d k x h _ (KP.out _ T0.below) (KC.out _ T0.below) (KF.out _ T0.below) HSD.out.1 HSD.out.2.1 HSD.out.2.2 HXH.out.1 HXH.out.2).mono ?_;rintro e w1 ⟨rfl,hb1⟩;have T1:=T0.call hb1;clear e0 hb1 T0;by_cases hwy0:zit p d k x h = 0
 case neg=>
  have hne:(zit p d k x h != 0) = true:=by simp [hwy0]
  have HE:=zaa (show evD p d 1 (k:Int) 0 = (zit p d k x h,d) by rw [HEV.out]; unfold zlx; rw [if_neg hwy0]);clear hwy0;obtain ⟨cd,hcd⟩:∃ cd,cd = zit p d k x h:=⟨_,rfl⟩;rw [← hcd] at hne HE ⊢;clear hcd;go_wp2;go_ret;exact EvR.of HE.out (KO.out _ T1.below) (But.of_calls T1.below)
 have hst0:h.state = 0:=by
  have e:=hwy0;unfold zit zph at e;by_cases z:h.state = 0
  ·exact z
  ·rw [if_pos (by simp [z])] at e
   cases e
 have hhi:=HID.out hst0
 have HE:Hid (evD p d 1 (k:Int) 0 = (0,{ d with points:=zav d.points (x.lies ++ x.flanks),ways:=d.ways.set k (zao x.sections.length (.set false)) })):=by
  show evD p d 1 (k:Int) 0 = _;rw [HEV.out];unfold zlx;rw [if_pos hwy0,hhi];rfl
 rw [hwy0];clear hwy0 hhi hst0;have pa2:=T1.cell (j:=0) (i:=2) rfl rfl;have ea1:=T1.cell (j:=2) (i:=1) rfl rfl;rw [Nat.add_zero] at pa2;have ra0:=ckb HG.out.1 T1.below;have ra1:=ckb HG.out.2.1 T1.below;have ra2:=ckb HG.out.2.2.1 T1.below;have ra3:=ckb HG.out.2.2.2.1 T1.below;have ra4:=ckb HG.out.2.2.2.2 T1.below;have Tb:=T1.call (zab w1 (.cells #[.slice aa0 x.sections.length cc0,.slice aa1 x.lies.length cc1,.slice aa2 x.flanks.length cc2,.slice aa3 x.over.length cc3,.slice aa4 x.near.length cc4] 122));have TY:=zaw w1 122 #[.slice aa0 x.sections.length cc0,.slice aa1 x.lies.length cc1,.slice aa2 x.flanks.length cc2,.slice aa3 x.over.length cc3,.slice aa4 x.near.length cc4]
 go_wp2_with fail
 obtain ⟨WB,hWB⟩:∃ WB,WB = w1.alloc (.cells #[.slice aa0 x.sections.length cc0,.slice aa1 x.lies.length cc1,.slice aa2 x.flanks.length cc2,.slice aa3 x.over.length cc3,.slice aa4 x.near.length cc4] 122):=⟨_,rfl⟩;rw [← hWB] at Tb TY ⊢
 have hks:∀ W,Below WB.heap.size WB W → Below WB.heap.size WB W ∧ W.cell? ⟨w.heap.size + 1,3,none⟩ = some (.slice (some ⟨bw,0,none⟩) d.ways.length q3) ∧ W.cell? ⟨w.heap.size + 1 + 1,1,none⟩ = some (.int .i64 (k:Int)) ∧
     (W.cell? ⟨w1.heap.size,0,none⟩ = some (.slice aa0 x.sections.length cc0) ∧ W.cell? ⟨w1.heap.size,1,none⟩ = some (.slice aa1 x.lies.length cc1) ∧ W.cell? ⟨w1.heap.size,2,none⟩ = some (.slice aa2 x.flanks.length cc2) ∧ W.cell? ⟨w1.heap.size,3,none⟩ = some (.slice aa3 x.over.length cc3) ∧ W.cell? ⟨w1.heap.size,4,none⟩ = some (.slice aa4 x.near.length cc4)) ∧ W.cell? ⟨w.heap.size + 1,2,none⟩ = some (.slice a4 d.points.length q2):=fun W hW=>by
  have hT:=Tb.call hW;have hY:=TY.call hW;exact ⟨hW,hT.cell (j:=1) (i:=3) rfl rfl,hT.cell (j:=2) (i:=1) rfl rfl,⟨hY.cell (j:=0) (i:=0) rfl rfl,hY.cell (j:=0) (i:=1) rfl rfl,hY.cell (j:=0) (i:=2) rfl rfl,hY.cell (j:=0) (i:=3) rfl rfl,hY.cell (j:=0) (i:=4) rfl rfl⟩,hT.cell (j:=1) (i:=2) rfl rfl⟩
 have KS:=zaa hks;have HBW:=zaa Tb.below;have hw1s:=T1.below.size;clear hks Tb TY T1 pa2 ea1 ra0 ra1 ra2 ra3 ra4 hWB
 refine zct (S:=fun W=>Below WB.heap.size WB W ∧ W.cell? ⟨w.heap.size + 1,3,none⟩ = some (.slice (some ⟨bw,0,none⟩) d.ways.length q3) ∧ W.cell? ⟨w.heap.size + 1 + 1,1,none⟩ = some (.int .i64 (k:Int)) ∧
     (W.cell? ⟨w1.heap.size,0,none⟩ = some (.slice aa0 x.sections.length cc0) ∧ W.cell? ⟨w1.heap.size,1,none⟩ = some (.slice aa1 x.lies.length cc1) ∧ W.cell? ⟨w1.heap.size,2,none⟩ = some (.slice aa2 x.flanks.length cc2) ∧ W.cell? ⟨w1.heap.size,3,none⟩ = some (.slice aa3 x.over.length cc3) ∧ W.cell? ⟨w1.heap.size,4,none⟩ = some (.slice aa4 x.near.length cc4)) ∧ W.cell? ⟨w.heap.size + 1,2,none⟩ = some (.slice a4 d.points.length q2)) 8 (by kernel_rfl) (KS.out _ (zaf _)) (fun hS=>?_)
 refine tkL (v:=?v0) At.z (by kernel_rfl) (fun _ _ _ h=>h) rfl ?h0 hS ?_
 case h0=>intro _ s;(try dsimp only at s);go_simp;try with_reducible rfl
 try simp only [Act.put,sA,sB,sC]
 refine tkL (v:=?v1) At.z.s (by kernel_rfl) (fun _ _ _ h=>h) rfl ?h1 hS ?_
 case h1=>intro _ s;(try dsimp only at s);go_simp;try with_reducible rfl
 try simp only [Act.put,sA,sB,sC]
 refine tkL (v:=?v2) At.z.s.s (by kernel_rfl) (fun _ _ _ h=>h) rfl ?h2 hS ?_
 case h2=>intro _ s;(try dsimp only at s);go_simp;try with_reducible rfl
 try simp only [Act.put,sA,sB,sC]
 refine tkL (v:=?v3) At.z.s.s.s (by kernel_rfl) (fun _ _ _ h=>h) rfl ?h3 hS ?_
 case h3=>intro _ s;(try dsimp only at s);go_simp;try with_reducible rfl
 try simp only [Act.put,sA,sB,sC]
 refine tkL (v:=?v4) At.z.s.s.s.s (by kernel_rfl) (fun _ _ _ h=>h) rfl ?h4 hS ?_
 case h4=>intro _ s;(try dsimp only at s);go_simp;try with_reducible rfl
 try simp only [Act.put,sA,sB,sC]
 refine tkL (v:=?v5) At.z.s.s.s.s.s (by kernel_rfl) (fun _ _ _ h=>h) rfl ?h5 hS ?_
 case h5=>intro _ s;(try dsimp only at s);go_simp;try with_reducible rfl
 try simp only [Act.put,sA,sB,sC]
 have hD:=hS.1;have hw2:=HBW.out.trans (hD.mono HBW.out.size);refine zbk (i:=6) At.z.s.s.s.s.s.s (by kernel_rfl) (fun K hK=>?_);go_simp;refine (zhg false _ _ _ _ _ x.sections _ (KW.out _ hw2).1 hpos HSM.out.1).mono ?_;rintro e w3 ⟨vb,bq3,rfl,hO3,hq3,hb3⟩;obtain ⟨y,hy⟩:∃ y,y = zao x.sections.length (.set false):=⟨_,rfl⟩;rw [← hy] at hO3 HE ⊢;have hD3:=hD.trans (hb3.mono hD.size);have hw3:=HBW.out.trans (hD3.mono HBW.out.size);have hS3:=KS.out _ hD3;have hq3':w.heap.size ≤ bq3:=Nat.le_trans hw2.size hq3;obtain ⟨fb,Nb,cb,rfl,-⟩:=id hO3;refine hK.out _ _ hS3 ?_;clear hK K hb3 hS hD hw2 hy
 try simp only [Act.put,sA,sB,sC]
 refine ze0 (i:=7) (v:=?vv7) At.z.s.s.s.s.s.s.s (by kernel_rfl) (by kernel_rfl) (by kernel_rfl) (by kernel_rfl) (fun _ _ _ h=>h) rfl ?hy7 hS3 ?rest7
 case hy7=>(intro w' hSw; (try dsimp only at hSw); go_simp; try with_reducible rfl)
 try simp only [Act.put,sA,sB,sC]
 have hr3:=zah HR.out hw3;have t0:=hr3.cell (i:=k * 5) (by omega);have t1:=hr3.cell (i:=k * 5 + 1) (by omega);have t2:=hr3.cell (i:=k * 5 + 2) (by omega);have t3:=hr3.cell (i:=k * 5 + 3) (by omega);have t4:=hr3.cell (i:=k * 5 + 4) (by omega);have z0:=hr3.frozen (k * 5);have z1:=hr3.frozen (k * 5 + 1);have z2:=hr3.frozen (k * 5 + 2);have z3:=hr3.frozen (k * 5 + 3);have z4:=hr3.frozen (k * 5 + 4);have HH:=zaa (HST.out _ _ (zbw (i:=k) (b:=bb k) HR.out hw3 hO3 hq3'));have hbwl:=HR.out.lt;have hj:∀ o:Nat,¬ ((fun c=>c ≠ bw) (⟨bw,o,none⟩:Addr).block):=fun o z=>z rfl;have hB5:=((((((But.refl (fun c=>c ≠ bw) w3).setCell (hj (k * 5)) (.int .i64 y.state)).setCell (hj (k * 5 + 1)) (.int .i64 y.gone)).setCell (hj (k * 5 + 2)) (.slice (some ⟨bq3,0,none⟩) y.been.length cb)).setCell (hj (k * 5 + 3)) (.bool y.shown)).setCell (hj (k * 5 + 4)) (.int .i64 y.timer));have s1:=hB5.cell hS3.2.2.2.1.2.1 (by show w1.heap.size ≠ bw; omega);have s2:=hB5.cell hS3.2.2.2.1.2.2.1 (by show w1.heap.size ≠ bw; omega);have s5:=hB5.cell hS3.2.2.2.2 (by show w.heap.size + 1 ≠ bw; omega);clear hO3 hw3 hq3 hq3' hD3 hr3 hS3 hB5;refine zf1 (m:=8) At.z.s.s.s.s.s.s.s.s (by kernel_rfl) (by kernel_rfl) (fun K hK=>?_);go_simp;refine hK.out _ _ ?_;clear hK K t0 t1 t2 t3 t4 z0 z1 z2 z3 z4;obtain ⟨WS,hWS⟩:∃ WS,WS = ((((w3.setCell ⟨bw,k * 5,none⟩ (.int .i64 y.state)).setCell ⟨bw,k * 5 + 1,none⟩ (.int .i64 y.gone)).setCell ⟨bw,k * 5 + 2,none⟩ (.slice (some ⟨bq3,0,none⟩) y.been.length cb)).setCell ⟨bw,k * 5 + 3,none⟩ (.bool y.shown)).setCell ⟨bw,k * 5 + 4,none⟩ (.int .i64 y.timer):=⟨_,rfl⟩;rw [← hWS] at HH s1 s2 s5 ⊢;clear hWS;obtain ⟨bb1,hfS,hbS⟩:=HH.out;have hBL:=zab WS (.cells #[.slice aa1 x.lies.length cc1,.slice aa2 x.flanks.length cc2] 120);have TL:=zaw WS 120 #[.slice aa1 x.lies.length cc1,.slice aa2 x.flanks.length cc2];go_wp2;obtain ⟨WL,hWL⟩:∃ WL,WL = WS.alloc (.cells #[.slice aa1 x.lies.length cc1,.slice aa2 x.flanks.length cc2] 120):=⟨_,rfl⟩;rw [← hWL] at hBL TL ⊢;clear hWL;have HL0:=zaa (show WL.cell? ⟨WS.heap.size,0,none⟩ = some (.slice aa1 x.lies.length cc1) from TL.cell (j:=0) (i:=0) rfl rfl);have HL1:=zaa (show WL.cell? ⟨WS.heap.size,1,none⟩ = some (.slice aa2 x.flanks.length cc2) from TL.cell (j:=0) (i:=1) rfl rfl);have HPN:Hid (∀ c,w.heap.size ≤ c → ¬ P c):=fun c hc z=>absurd (HPL.out c z) (by omega);have hszS:=hbS.size;have HF3:=zaa (hfS.but (K:=fun _=>True) (Q:=(fun c=>P c ∨ New w WS c)) (But.of_calls hBL) (fun _ _=>trivial) fun _ z=>z);have HB3:=zaa (hbS.call hBL);have HC2:=zaa (ckb s5 hBL)
 have HXW:Hid (∀ W,But (fun c=>¬ P c) WL W → Lies (In W) W (.slice aa1 x.lies.length cc1) x.lies ∧ Lies (In W) W (.slice aa2 x.flanks.length cc2) x.flanks ∧ W.cell? ⟨w.heap.size + 1,2,none⟩ = some (.slice a4 d.points.length q2)):=fun W hW=>by
  have hwW:=HB3.out.trans hW;have hsame:Same Q w W:=hwW.same fun c hc=>HQQ.out c hc;have hin:∀ c,Q c → In W c:=fun c hc=>Nat.lt_of_lt_of_le (HQQ.out c hc).1 hwW.size;exact ⟨HXA.out.2.1.keep hsame hin,HXA.out.2.2.1.keep hsame hin,hW.cell HC2.out (HPN.out _ (by omega))⟩
 have hsl:=HSM.out.2.1;have hsf:=HSM.out.2.2.1;clear hBL TL s1 s2 s5 hfS hbS HH
 go_loopw [41] (fun z wr=>∃ (a:Nat) (bb':Nat → Nat),a ≤ 2 ∧ z = .int .i64 a ∧ OFrame (fun c=>P c ∨ New w WS c) wr (.slice (some ⟨bo,0,none⟩) d.occ.length q1) (.slice a4 d.points.length q2) (.slice (some ⟨bw,0,none⟩) d.ways.length q3) { d with points:=zav d.points (([x.lies,x.flanks].take a).flatten),ways:=d.ways.set k y } bo bp bw bb' ∧ But (fun c=>¬ P c) WL wr) (fun z _=>2 - (intOf z).toNat)
 case atStart=>exact ⟨0,bb1,by omega,rfl,HF3.out,But.refl _ _⟩
 case round=>
  obtain ⟨a,bbA,ha,rfl,hfA,hbA⟩:=hrel;rename World=>wA;have HFA:=zaa hfA;have HBA:=zaa hbA;clear hfA hbA HF3;by_cases ha2:a < 2
  ·obtain ⟨l,hl⟩:∃ l,[x.lies,x.flanks][a]? = some l:=zac _ (zaa rfl) ha2
   obtain ⟨sl,cl,hcl,hll,hly⟩:∃ sl cl,wA.cell? ⟨WS.heap.size,a,none⟩ = some (.slice sl l.length cl) ∧ (∀ W,But (fun c=>¬ P c) WL W → Lies (In W) W (.slice sl l.length cl) l) ∧ ∀ y ∈ l,0 ≤ y.1 ∧ y.1 < d.points.length:=by
    rcases a with _ | _ | a
    ·cases hl
     exact ⟨_,_,HBA.out.cell HL0.out (HPN.out _ hszS),fun W hW=>(HXW.out W hW).1,fun y hy=>HYY.out y (.inl hy)⟩
    ·cases hl
     exact ⟨_,_,HBA.out.cell HL1.out (HPN.out _ hszS),fun W hW=>(HXW.out W hW).2.1,fun y hy=>HYY.out y (.inr hy)⟩
    ·omega
   have hl30:l.length ≤ 30:=by
    rcases a with _ | _ | a
    ·cases hl; exact hsl
    ·cases hl; exact hsf
    ·omega
   have hfl:(([x.lies,x.flanks].take (a + 1)).flatten) = (([x.lies,x.flanks].take a).flatten) ++ l:=by
    rw [List.take_add_one,hl]; simp
   have HFL:=zaa hfl;have HLL:=zaa hll;have HLY:=zaa hly
   have ha2':(a:Int) < 2:=by omega
   clear hl hll hly hfl;go_wp2;clear hcl;obtain ⟨P0,hP0⟩:∃ q,q = zav d.points (([x.lies,x.flanks].take a).flatten):=⟨_,rfl⟩;have HP0:=zaa hP0
   have hP0l:P0.length = d.points.length:=by rw [hP0]; exact zbo _ _
   rw [← hP0] at HFA;clear hP0
   go_loopw [47] (fun z wr=>∃ (m:Nat) (bb':Nat → Nat),m ≤ l.length ∧ z = .int .i64 m ∧ OFrame (fun c=>P c ∨ New w WS c) wr (.slice (some ⟨bo,0,none⟩) d.occ.length q1) (.slice a4 d.points.length q2) (.slice (some ⟨bw,0,none⟩) d.ways.length q3) { d with points:=zav P0 (l.take m),ways:=d.ways.set k y } bo bp bw bb' ∧ But (fun c=>¬ P c) WL wr) (fun z _=>l.length - (intOf z).toNat)
   case atStart=>exact ⟨0,bbA,by omega,rfl,HFA.out,HBA.out⟩
   case round=>
    obtain ⟨m,bbB,hm,rfl,hfB,hbB⟩:=hrel;rename World=>wB;by_cases hlt:m < l.length
    ·obtain ⟨yy,hyy⟩:=zac l (zaa rfl) hlt;obtain ⟨ya,yb⟩:=yy;obtain ⟨hya,hyb⟩:=HLY.out _ (List.mem_of_getElem? hyy);simp only at hya hyb;obtain ⟨ky,rfl⟩:∃ ky:Nat,ya = ky:=⟨ya.toNat,by omega⟩;have hPk:(zav P0 (l.take m)).length = d.points.length:=(zbo _ _).trans hP0l;obtain ⟨pt,hpt⟩:=zac (zav P0 (l.take m)) (zaa hPk) (show ky < d.points.length by omega);obtain ⟨cp',ecp,g0,-,z0,-⟩:=hfB.points.cells hpt;have ecp2:(Value.slice a4 d.points.length q2) = .slice (some ⟨bp,0,none⟩) d.points.length cp':=ecp.trans (by rw [hPk])
     cases ecp2
     obtain ⟨al,cl',e4,h0 | ⟨bl,ol,e5,hbl,hcl⟩⟩:=HLL.out wB hbB
     ·omega
     cases e4
     cases e5
     obtain ⟨qa,qb⟩:=hcl m hlt _ hyy;simp only at qa qb;have c2:=(HXW.out wB hbB).2.2;have hbn:=zab wB (.cells #[.int .i64 (ky:Int),.int .i64 yb] 175);have c2':=zns c2 hbn;have g0':=zns g0 hbn;have z0':(wB.alloc (.cells #[.int .i64 (ky:Int),.int .i64 yb] 175)).frozen? ⟨bp,ky * 2,none⟩ = false:=(hbn.frozen (p:=⟨bp,ky * 2,none⟩) (World.block_lt_of_cell? _ _ g0)).trans z0;have hPbp:P bp:=HPP.out (by omega);have hkd:(ky:Int) < (d.points.length:Int):=hyb;have hk0:(0:Int) ≤ (ky:Int):=hya;have hf4:=(hfB.but (K:=fun _=>True) (Q:=(fun c=>P c ∨ New w WS c)) (But.of_calls hbn) (fun _ _=>trivial) fun _ z=>z).put hpt 0 (by omega) yb
     have hf5:OFrame (fun c=>P c ∨ New w WS c) ((wB.alloc (.cells #[.int .i64 (ky:Int),.int .i64 yb] 175)).setCell ⟨bp,ky * 2,none⟩ (.int .i64 yb)) (.slice (some ⟨bo,0,none⟩) d.occ.length q1) (.slice (some ⟨bp,0,none⟩) d.points.length q2) (.slice (some ⟨bw,0,none⟩) d.ways.length q3) { d with points:=zav P0 (l.take (m + 1)),ways:=d.ways.set k y } bo bp bw bbB:=by
      have e:zav P0 (l.take (m + 1)) = (zav P0 (l.take m)).set ky (yb,pt.2):=by
       rw [List.take_add_one,hyy];show zav P0 (l.take m ++ [((ky:Int),yb)]) = _;rw [zfm];exact zc7 _ hpt
      rw [e];exact hf4.1
     have HFIN:=zaa (And.intro hf5 ((hbB.call hbn).setCell (p:=⟨bp,ky * 2,none⟩) (fun z=>z hPbp) (.int .i64 yb)));clear hf4 hf5 hfB hbB hcl hyy hpt hPk hPbp HFA HBA hbn c2 g0 z0 ecp;go_wp2;go_roundw
     case rel=>exact ⟨m + 1,bbB,by omega,by go_num,HFIN.out⟩
     case measure=>simp [intOf]; omega
    ·obtain rfl:m = l.length:=by omega
     rw [List.take_length] at hfB;have HFB:=zaa hfB;have HBB:=zaa hbB;clear hfB hbB HFA;go_wp2;go_roundw
     case rel=>exact ⟨a + 1,bbB,by omega,by go_num,by rw [HFL.out,zgh,← HP0.out]; exact HFB.out,HBB.out⟩
     case measure=>simp [intOf]; omega
  ·obtain rfl:a = 2:=by omega
   have hfin:(([x.lies,x.flanks].take 2).flatten) = x.lies ++ x.flanks:=by simp
   rw [hfin] at HFA;go_wp2;go_ret;rw [HE.out];refine ⟨rfl,bbA,HFA.out.bound fun c hc hl=>?_,HB3.out.trans HBA.out⟩;exact hc.imp id fun z=>⟨z.1,hl⟩
end Go.Proofs.YtdhinkgjiapigabGreatDoor

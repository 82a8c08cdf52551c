import Derived.Test.YtdhinkgjiapigabGreatDoorDoI4
namespace Go.Proofs.YtdhinkgjiapigabGreatDoor
open Go.RowKit Go.Deep
open Classical
set_option maxRecDepth 100000 in
set_option maxHeartbeats 8000000 in
theorem zp7 (P Q:Nat → Prop) (n hd ok p1 p2 p3 v1 v2 v3:Value) (p:PlanD) (d:FrameD) (bo bp bw:Nat) (bb:Nat → Nat) (w:World)
  (hp:Ways Q w p2 p.ways) (hQ:∀ c,Q c → c < w.heap.size ∧ ¬ P c) (hf:OFrame P w v1 v2 v3 d bo bp bw bb) (hfit:Fits p.ways d) (hstd:Stand p.ways d) (hPl:∀ c,P c → c < w.heap.size) (htm:∀ (i:Nat) h,d.ways[i]? = some h → h.state = 3 → 1 ≤ h.timer ∧ h.timer ≤ 1048576) :
  Calls Tryz.prog 193 #[.agg #[n,p1,p2,p3,hd],.agg #[ok,v1,v2,v3],.agg #[.int .i64 7,.int .i64 0,.int .i64 0]] w fun e w'=>EvR P w v1 v2 v3 bo bp bw (evD p d 7 0 0) e w':=by
 obtain ⟨hlen,h100,hol,hpl,hfit⟩:=hfit;have HFIT:=zaa hfit;have HLEN:=zaa hlen;have HTM:=zaa htm;clear hlen;have HSTD:=zaa hstd;obtain ⟨a2,k2,rfl,-⟩:=id hp;have HP:=zaa hp;have HQ:=zaa hQ;obtain ⟨g1,N1,q1,rfl,-⟩:=id hf.occ;obtain ⟨a4,q2,rfl,-⟩:=id hf.points;obtain ⟨a3,q3,rfl,-⟩:=id hf.ways;have T0:=zbs w 37 42 52 #[n,p1,.slice a2 p.ways.length k2,p3,hd] #[ok,.slice (some ⟨bo,0,none⟩) d.occ.length q1,.slice a4 d.points.length q2,.slice a3 d.ways.length q3] #[.int .i64 7,.int .i64 0,.int .i64 0]
 have start:MapR za7 P (((w.alloc (.cells #[n,p1,.slice a2 p.ways.length k2,p3,hd] 37)).alloc (.cells #[ok,.slice (some ⟨bo,0,none⟩) d.occ.length q1,.slice a4 d.points.length q2,.slice a3 d.ways.length q3] 42)).alloc (.cells #[.int .i64 7,.int .i64 0,.int .i64 0] 52)) (.slice (some ⟨bo,0,none⟩) d.occ.length q1) (.slice a4 d.points.length q2) (.slice a3 d.ways.length q3) d bo bp bw 0 (((w.alloc (.cells #[n,p1,.slice a2 p.ways.length k2,p3,hd] 37)).alloc (.cells #[ok,.slice (some ⟨bo,0,none⟩) d.occ.length q1,.slice a4 d.points.length q2,.slice a3 d.ways.length q3] 42)).alloc (.cells #[.int .i64 7,.int .i64 0,.int .i64 0] 52)):=
  ⟨d.ways,bb,rfl,fun j _ hj=>by omega,fun _ _=>rfl,hf.but (K:=fun _=>True) (But.of_calls T0.below) (fun _ _=>trivial) fun _ z=>.inl z,But.refl _ _⟩
 have HST:=zaa start;have HF:=zaa hf;have HPL:=zaa hPl;clear hfit hp hQ start hf hstd hPl htm;go_enter Tryz.func193,Tryz.ntmps193;go_wp2;obtain ⟨W0,hW0⟩:∃ W0,W0 = ((w.alloc (.cells #[n,p1,.slice a2 p.ways.length k2,p3,hd] 37)).alloc (.cells #[ok,.slice (some ⟨bo,0,none⟩) d.occ.length q1,.slice a4 d.points.length q2,.slice a3 d.ways.length q3] 42)).alloc (.cells #[.int .i64 7,.int .i64 0,.int .i64 0] 52):=⟨_,rfl⟩
 have hz:W0.heap.size = w.heap.size + 3:=by rw [hW0]; simp
 have HZ:=zaa hz;rw [← hW0] at HST T0 ⊢;have HT0:=zaa T0;have HNP:Hid (∀ c,w.heap.size ≤ c → ¬ P c):=fun c hc z=>absurd (HPL.out _ z) (by omega);clear hW0 hz T0
 go_loopw [14] (fun z wr=>∃ (i:Nat),i ≤ p.ways.length ∧ z = .int .i64 i ∧ MapR za7 P W0 (.slice (some ⟨bo,0,none⟩) d.occ.length q1) (.slice a4 d.points.length q2) (.slice a3 d.ways.length q3) d bo bp bw i wr) (fun z _=>p.ways.length - (intOf z).toNat)
 case atStart=>exact ⟨0,by omega,rfl,HST.out⟩
 case round=>
  obtain ⟨i,hi,rfl,hset⟩:=hrel;by_cases hlt:i < p.ways.length
  ·obtain ⟨x,hx⟩:=zac p.ways (zaa rfl) hlt;obtain ⟨h,hh⟩:=zac d.ways (zaa HLEN.out) hlt;obtain ⟨cur,bb2,hl2,hs1,hs2,hf2,hb2⟩:=hset
   have hjl:i < d.ways.length:=by have:=HLEN.out; omega
   have hlt3:(i:Int) < (d.ways.length:Int):=by omega
   have hlt4:(i:Int) < (p.ways.length:Int):=by omega
   obtain ⟨hbe,hpos,hsm,hg0,hg1,hly,hsc⟩:=HFIT.out i x h hx hh;obtain ⟨s,hso,hsf,hsh⟩:=HSTD.out i x h hx hh;have HTI:=zaa (HTM.out i h hh);have hcur:cur[i]? = some h:=(hs2 i (Nat.le_refl _)).trans hh
   obtain ⟨f,N,ha3,hr,hN,hHO⟩:∃ f N,a3 = some ⟨bw,0,none⟩ ∧ wr.rowIs bw 93 N f ∧ cur.length * 5 ≤ N ∧ ∀ (j:Nat) y,cur[j]? = some y → HeldO wr f j y (bb2 j):=by
    obtain ⟨a,cap,hv,h0 | ⟨ha,f,N,hr,hN,hHO⟩⟩:=hf2.ways
    ·have h0':cur.length = 0:=h0;omega
    ·injection hv with ea _ _;exact ⟨f,N,ea.trans ha,hr,hN,hHO⟩
   subst ha3;have ho:=hHO i h hcur
   have hiN:i * 5 + 5 ≤ N:=by omega
   have hsQ:Same Q w wr:=fun c hc o=>by
    have h1:=HQ.out c hc;exact (World.cell?_of_block (w:=W0) (hb2.block c (by have:=HZ.out; omega) h1.2)).trans (HT0.out.below.cell (p:=⟨c,o,none⟩) h1.1)
   obtain ⟨v0,v1,v2,v3,v4,bq,oq,hway,ha2,r0,r1,r2,r3,r4⟩:∃ v0 v1 v2 v3 v4 bq oq,WayAt Q wr v0 v1 v2 v3 v4 x ∧ a2 = some ⟨bq,oq,none⟩ ∧ wr.cell? ⟨bq,oq + i * 5,none⟩ = some v0 ∧ wr.cell? ⟨bq,oq + i * 5 + 1,none⟩ = some v1 ∧ wr.cell? ⟨bq,oq + i * 5 + 2,none⟩ = some v2 ∧ wr.cell? ⟨bq,oq + i * 5 + 3,none⟩ = some v3 ∧ wr.cell? ⟨bq,oq + i * 5 + 4,none⟩ = some v4:=by
    obtain ⟨a,cap,hv,h0 | ⟨bq,oq,ha,hQb,hcw⟩⟩:=HP.out.keep hsQ fun _ z=>z
    ·omega
    ·cases hv
     obtain ⟨v0,v1,v2,v3,v4,hw,hc⟩:=hcw i hlt x hx;exact ⟨v0,v1,v2,v3,v4,bq,oq,hw,ha,hc⟩
   subst ha2;obtain ⟨aa0,cc0,rfl⟩:=hway.1.size;obtain ⟨aa1,cc1,rfl⟩:=hway.2.1.size;obtain ⟨aa2,cc2,rfl⟩:=hway.2.2.1.size;obtain ⟨aa3,cc3,rfl⟩:=hway.2.2.2.1.size;obtain ⟨aa4,cc4,rfl⟩:=hway.2.2.2.2.size;obtain ⟨capb,t0,t1,t2,t3,t4,-,-⟩:=ho.cells hr hiN
   have hfin:∀ W',HeldStep wr W' bw N i f (bb2 i) (za7 h) → MapR za7 P W0 (.slice (some ⟨bo,0,none⟩) d.occ.length q1) (.slice a4 d.points.length q2) (.slice (some ⟨bw,0,none⟩) d.ways.length q3) d bo bp bw (i + 1) W':=
    fun W' hs=>MapR.next hl2 hs1 hs2 hf2 hb2 hh hr hs
   have hstay:∀ W',za7 h = h → Below wr.heap.size wr W' → MapR za7 P W0 (.slice (some ⟨bo,0,none⟩) d.occ.length q1) (.slice a4 d.points.length q2) (.slice (some ⟨bw,0,none⟩) d.ways.length q3) d bo bp bw (i + 1) W':=
    fun W' hg hB=>MapR.stay hl2 hs1 hs2 hf2 hb2 hh hg hB
   have FIN:=zaa (And.intro hfin hstay)
   have hwy:WayAt (In wr) wr (.slice aa0 x.sections.length cc0) (.slice aa1 x.lies.length cc1) (.slice aa2 x.flanks.length cc2) (.slice aa3 x.over.length cc3) (.slice aa4 x.near.length cc4) x:=hway.keep (zax _ _) fun c hc=>by have:=(HQ.out c hc).1; have:=hb2.size; have:=HZ.out; show c < wr.heap.size; omega
   have hbn:=ho.2.2.1
   have hbn':OBools wr (.slice (some ⟨bb2 i,0,none⟩) h.been.length capb) h.been (bb2 i):=by
    have e:=(hr.cell (i:=i * 5 + 2) (by omega)).symm.trans t2;rw [← Option.some.inj e];exact hbn
   have KB:=zaa fun (W:World) (hW:Below wr.heap.size wr W)=>(hbn'.read (P:=In wr) hbn'.lt).keep (Q:=In W) (In.keep hW).1 (In.keep hW).2;have KW:=zaa fun (W:World) (hW:Below wr.heap.size wr W)=>hwy.keep (Q:=In W) (In.keep hW).1 (In.keep hW).2;have HR:=zaa hr;have HSO:=zaa (And.intro hso (And.intro hsf hsh));have HBE:=zaa hbe;have HSM:=zaa hsm;have hc3:=hb2.cell (HT0.out.cell (j:=1) (i:=3) rfl rfl) (HNP.out _ (by omega));have HC3:=zaa hc3;have BW:=zab wr (.cells #[.slice aa0 x.sections.length cc0,.slice aa1 x.lies.length cc1,.slice aa2 x.flanks.length cc2,.slice aa3 x.over.length cc3,.slice aa4 x.near.length cc4] 122);have TW:=zaw wr 122 #[.slice aa0 x.sections.length cc0,.slice aa1 x.lies.length cc1,.slice aa2 x.flanks.length cc2,.slice aa3 x.over.length cc3,.slice aa4 x.near.length cc4];have y0:=ckb t0 BW;have y1:=ckb t1 BW;have y2:=ckb t2 BW;have y3:=ckb t3 BW;have y4:=ckb t4 BW;have y5:=ckb hc3 BW;clear hs1 hs2 hx hh hcur hHO hfin hstay hway hwy hbn hbn' hf2 hb2 hso hsf hsh hr ho hly hsc hsQ hbe hsm t0 t1 t2 t3 t4 hc3
   go_wp2_with fail
   refine (zdh h _ _ (KB.out _ BW) (by have:=HBE.out; have:=HSM.out.1; omega) (by have:=HBE.out; omega)).mono ?_;rintro e w1 ⟨rfl,hb1⟩;rw [HSO.out.1];have hw1:=BW.trans (hb1.mono BW.size);have TW1:=TW.call hb1;clear y0 y1 y2 y3 y4 y5 r0 r1 r2 r3 r4 BW TW hb1;simp only [zrr]
   cases s using StD.by with
   | idle=>
    simp only [stV];have ta:=Tryz.ta_idle_taking (.agg #[])
    have hst:h.state = 0:=by rw [← HSO.out.2.2]; rfl
    have HB:=zaa (hw1.trans ((zab w1 (.cells #[.int .i64 0] 258)).mono hw1.size));have HTH:=zaa (show za7 h = h by unfold za7; rw [if_neg (by rw [hst]; decide)]);clear hst hw1 TW1;go_wp2;go_roundw
    case rel=>exact ⟨i + 1,by omega,by go_num,FIN.out.2 _ HTH.out HB.out⟩
    case measure=>simp [intOf]; omega
   | set b=>
    simp only [stV];have ta:=Tryz.ta_set_taking (.agg #[.bool b])
    have hst:h.state = 1:=by rw [← HSO.out.2.2]; rfl
    have HB:=zaa (hw1.trans ((zab w1 (.cells #[.int .i64 0] 258)).mono hw1.size));have HTH:=zaa (show za7 h = h by unfold za7; rw [if_neg (by rw [hst]; decide)]);clear hst hw1 TW1;go_wp2;go_roundw
    case rel=>exact ⟨i + 1,by omega,by go_num,FIN.out.2 _ HTH.out HB.out⟩
    case measure=>simp [intOf]; omega
   | clear=>
    simp only [stV];have ta:=Tryz.ta_clear_taking (.agg #[])
    have hst:h.state = 2:=by rw [← HSO.out.2.2]; rfl
    have HB:=zaa (hw1.trans ((zab w1 (.cells #[.int .i64 0] 258)).mono hw1.size));have HTH:=zaa (show za7 h = h by unfold za7; rw [if_neg (by rw [hst]; decide)]);clear hst hw1 TW1;go_wp2;go_roundw
    case rel=>exact ⟨i + 1,by omega,by go_num,FIN.out.2 _ HTH.out HB.out⟩
    case measure=>simp [intOf]; omega
   | used g l b=>
    simp only [stV];have ta:=Tryz.ta_used_taking (.agg (zbl g l b))
    have hst:h.state = 4:=by rw [← HSO.out.2.2]; rfl
    have HB:=zaa (hw1.trans ((zab w1 (.cells #[.int .i64 0] 258)).mono hw1.size));have HTH:=zaa (show za7 h = h by unfold za7; rw [if_neg (by rw [hst]; decide)]);clear hst hw1 TW1;go_wp2;go_roundw
    case rel=>exact ⟨i + 1,by omega,by go_num,FIN.out.2 _ HTH.out HB.out⟩
    case measure=>simp [intOf]; omega
   | taking t=>
    simp only [stV];have ta:=Tryz.ta_taking_taking (.agg #[.int .i64 t])
    have hst:h.state = 3:=by rw [← HSO.out.2.2]; rfl
    have htt:h.timer = t:=by rw [← HSO.out.2.2]; rfl
    have hti:=HTI.out hst;rw [htt] at hti
    have HTH:Hid (zao x.sections.length (zhm t) = za7 h):=by
     unfold za7 zhm;rw [if_pos hst,htt];by_cases e:t ≤ 1
     ·rw [if_pos e,if_pos (by omega),HBE.out]; rfl
     ·rw [if_neg e,if_neg (by omega),← HSO.out.2.2]; rfl
    clear hst htt;have BS:=zab w1 (.cells #[.int .i64 t] 258);have TS:=zaw w1 258 #[.int .i64 t]
    go_wp2_with fail
    obtain ⟨WB,hWB⟩:∃ WB,WB = w1.alloc (.cells #[.int .i64 t] 258):=⟨_,rfl⟩;rw [← hWB] at BS TS ⊢;have HBW:=zaa (hw1.trans (BS.mono hw1.size))
    have hks:∀ W,Below WB.heap.size WB W → Below WB.heap.size WB W ∧ W.cell? ⟨w.heap.size + 1,3,none⟩ = some (.slice (some ⟨bw,0,none⟩) d.ways.length q3) ∧ W.cell? ⟨w1.heap.size,0,none⟩ = some (.int .i64 t) ∧
     (W.cell? ⟨wr.heap.size,0,none⟩ = some (.slice aa0 x.sections.length cc0) ∧ W.cell? ⟨wr.heap.size,1,none⟩ = some (.slice aa1 x.lies.length cc1) ∧ W.cell? ⟨wr.heap.size,2,none⟩ = some (.slice aa2 x.flanks.length cc2) ∧ W.cell? ⟨wr.heap.size,3,none⟩ = some (.slice aa3 x.over.length cc3) ∧ W.cell? ⟨wr.heap.size,4,none⟩ = some (.slice aa4 x.near.length cc4)):=fun W hW=>by
     have hwr:=HBW.out.trans (hW.mono HBW.out.size);have hTW:=TW1.call (BS.trans (hW.mono BS.size));have hTS:=TS.call hW;exact ⟨hW,ckb HC3.out hwr,hTS.cell (j:=0) (i:=0) rfl rfl,hTW.cell (j:=0) (i:=0) rfl rfl,hTW.cell (j:=0) (i:=1) rfl rfl,hTW.cell (j:=0) (i:=2) rfl rfl,hTW.cell (j:=0) (i:=3) rfl rfl,hTW.cell (j:=0) (i:=4) rfl rfl⟩
    have KS:=zaa hks;clear hks BS TS TW1 hWB hw1
    refine zct (S:=fun W=>Below WB.heap.size WB W ∧ W.cell? ⟨w.heap.size + 1,3,none⟩ = some (.slice (some ⟨bw,0,none⟩) d.ways.length q3) ∧ W.cell? ⟨w1.heap.size,0,none⟩ = some (.int .i64 t) ∧
     (W.cell? ⟨wr.heap.size,0,none⟩ = some (.slice aa0 x.sections.length cc0) ∧ W.cell? ⟨wr.heap.size,1,none⟩ = some (.slice aa1 x.lies.length cc1) ∧ W.cell? ⟨wr.heap.size,2,none⟩ = some (.slice aa2 x.flanks.length cc2) ∧ W.cell? ⟨wr.heap.size,3,none⟩ = some (.slice aa3 x.over.length cc3) ∧ W.cell? ⟨wr.heap.size,4,none⟩ = some (.slice aa4 x.near.length cc4))) 8 (by kernel_rfl) (KS.out _ (zaf _)) (fun hS=>?_)
    refine tkL (v:=?v0) At.z (by kernel_rfl) (fun _ _ _ h=>h) rfl ?h0 hS ?_
    case h0=>intro _ s;(try dsimp only at s);go_simp;try with_reducible rfl
    try simp only [Act.put,sA,sB,sC]
    refine tkL (v:=?v1) At.z.s (by kernel_rfl) (fun _ _ _ h=>h) rfl ?h1 hS ?_
    case h1=>intro _ s;(try dsimp only at s);go_simp;try with_reducible rfl
    try simp only [Act.put,sA,sB,sC]
    refine tkL (v:=?v2) At.z.s.s (by kernel_rfl) (fun _ _ _ h=>h) rfl ?h2 hS ?_
    case h2=>intro _ s;(try dsimp only at s);go_simp;try with_reducible rfl
    try simp only [Act.put,sA,sB,sC]
    refine tkL (v:=?v3) At.z.s.s.s (by kernel_rfl) (fun _ _ _ h=>h) rfl ?h3 hS ?_
    case h3=>intro _ s;(try dsimp only at s);go_simp;try with_reducible rfl
    try simp only [Act.put,sA,sB,sC]
    refine tkL (v:=?v5) At.z.s.s.s.s.s (by kernel_rfl) (fun _ _ _ h=>h) rfl ?h5 hS ?_
    case h5=>intro _ s;(try dsimp only at s);go_simp;try with_reducible rfl
    try simp only [Act.put,sA,sB,sC]
    have hD:=hS.1;refine zbk (i:=4) At.z.s.s.s.s (by kernel_rfl) (fun K hK=>?_);go_simp;refine (znl t _ hti.1 hti.2).mono ?_;rintro e w2 ⟨rfl,hb2⟩;have hD2:=hD.trans (hb2.mono hD.size);have hw2:=HBW.out.trans (hD2.mono HBW.out.size);have hS2:=KS.out _ hD2;refine hK.out _ _ hS2 ?_;clear hK K hb2 hS hD hti
    try simp only [Act.put,sA,sB,sC]
    unfold zhm at HTH ⊢;by_cases e1:t ≤ 1
    ·rw [if_pos e1] at HTH ⊢;have HE:=HTH;clear HTH;simp only [stV];have m2:=Tryz.inv_idle_held (.agg #[]);refine zbk (i:=6) At.z.s.s.s.s.s.s (by kernel_rfl) (fun K hK=>?_);go_simp;refine (zb8 _ _ _ _ _ x.sections _ (KW.out _ hw2).1 hpos HSM.out.1).mono ?_;rintro e w3 ⟨vb,bq3,rfl,hO3,hq3,hb3⟩;obtain ⟨y,hy⟩:∃ y,y = zao x.sections.length (.idle):=⟨_,rfl⟩;have HY:=zaa (hy.trans HE.out);rw [← hy] at hO3 ⊢;have hD3:=hD2.trans (hb3.mono hD2.size);have hw3:=HBW.out.trans (hD3.mono HBW.out.size);have hS3:=KS.out _ hD3;have hq3':wr.heap.size ≤ bq3:=Nat.le_trans hw2.size hq3;obtain ⟨fb,Nb,cb,rfl,-⟩:=id hO3;refine hK.out _ _ hS3 ?_;clear hK K hb3 hS2 hD2 hw2 hy m2
     try simp only [Act.put,sA,sB,sC]
     refine ze0 (i:=7) (v:=?vv101) At.z.s.s.s.s.s.s.s (by kernel_rfl) (by kernel_rfl) (by kernel_rfl) (by kernel_rfl) (fun _ _ _ h=>h) rfl ?hy101 hS3 ?rest101
     case hy101=>(intro w' hSw; (try dsimp only at hSw); go_simp; try with_reducible rfl)
     try simp only [Act.put,sA,sB,sC]
     have hr3:=zah HR.out hw3;have t0:=hr3.cell (i:=i * 5) (by omega);have t1:=hr3.cell (i:=i * 5 + 1) (by omega);have t2:=hr3.cell (i:=i * 5 + 2) (by omega);have t3:=hr3.cell (i:=i * 5 + 3) (by omega);have t4:=hr3.cell (i:=i * 5 + 4) (by omega);have z0:=hr3.frozen (i * 5);have z1:=hr3.frozen (i * 5 + 1);have z2:=hr3.frozen (i * 5 + 2);have z3:=hr3.frozen (i * 5 + 3);have z4:=hr3.frozen (i * 5 + 4);have HH:=zaa (zbw (i:=i) (b:=bb2 i) HR.out hw3 hO3 hq3');clear hO3 hw3 hq3 hq3' hD3 hr3 hS3;refine zf1 (m:=8) At.z.s.s.s.s.s.s.s.s (by kernel_rfl) (by kernel_rfl) (fun K hK=>?_);go_simp;refine hK.out _ _ ?_;clear hK K t0 t1 t2 t3 t4 z0 z1 z2 z3 z4;go_wp2;go_roundw
     case rel=>exact ⟨i + 1,by omega,by go_num,FIN.out.1 _ (by rw [← HY.out]; exact HH.out)⟩
     case measure=>simp [intOf]; omega
    ·rw [if_neg e1] at HTH ⊢;have HE:=HTH;clear HTH;simp only [stV];have m2:=Tryz.inv_taking_held (.agg #[.int .i64 (t - 1)]);refine zbk (i:=6) At.z.s.s.s.s.s.s (by kernel_rfl) (fun K hK=>?_);go_simp;refine (zcm (t - 1) _ _ _ _ _ x.sections _ (KW.out _ hw2).1 hpos HSM.out.1).mono ?_;rintro e w3 ⟨vb,bq3,rfl,hO3,hq3,hb3⟩;obtain ⟨y,hy⟩:∃ y,y = zao x.sections.length (.taking (t - 1)):=⟨_,rfl⟩;have HY:=zaa (hy.trans HE.out);rw [← hy] at hO3 ⊢;have hD3:=hD2.trans (hb3.mono hD2.size);have hw3:=HBW.out.trans (hD3.mono HBW.out.size);have hS3:=KS.out _ hD3;have hq3':wr.heap.size ≤ bq3:=Nat.le_trans hw2.size hq3;obtain ⟨fb,Nb,cb,rfl,-⟩:=id hO3;refine hK.out _ _ hS3 ?_;clear hK K hb3 hS2 hD2 hw2 hy m2
     try simp only [Act.put,sA,sB,sC]
     refine ze0 (i:=7) (v:=?vv102) At.z.s.s.s.s.s.s.s (by kernel_rfl) (by kernel_rfl) (by kernel_rfl) (by kernel_rfl) (fun _ _ _ h=>h) rfl ?hy102 hS3 ?rest102
     case hy102=>(intro w' hSw; (try dsimp only at hSw); go_simp; try with_reducible rfl)
     try simp only [Act.put,sA,sB,sC]
     have hr3:=zah HR.out hw3;have t0:=hr3.cell (i:=i * 5) (by omega);have t1:=hr3.cell (i:=i * 5 + 1) (by omega);have t2:=hr3.cell (i:=i * 5 + 2) (by omega);have t3:=hr3.cell (i:=i * 5 + 3) (by omega);have t4:=hr3.cell (i:=i * 5 + 4) (by omega);have z0:=hr3.frozen (i * 5);have z1:=hr3.frozen (i * 5 + 1);have z2:=hr3.frozen (i * 5 + 2);have z3:=hr3.frozen (i * 5 + 3);have z4:=hr3.frozen (i * 5 + 4);have HH:=zaa (zbw (i:=i) (b:=bb2 i) HR.out hw3 hO3 hq3');clear hO3 hw3 hq3 hq3' hD3 hr3 hS3;refine zf1 (m:=8) At.z.s.s.s.s.s.s.s.s (by kernel_rfl) (by kernel_rfl) (fun K hK=>?_);go_simp;refine hK.out _ _ ?_;clear hK K t0 t1 t2 t3 t4 z0 z1 z2 z3 z4;go_wp2;go_roundw
     case rel=>exact ⟨i + 1,by omega,by go_num,FIN.out.1 _ (by rw [← HY.out]; exact HH.out)⟩
     case measure=>simp [intOf]; omega
  ·have hfin:∃ bb',OFrame (fun c=>P c ∨ New w wr c) wr (.slice (some ⟨bo,0,none⟩) d.occ.length q1) (.slice a4 d.points.length q2) (.slice a3 d.ways.length q3) { d with ways:=d.ways.map za7 } bo bp bw bb' ∧ But (fun c=>¬ P c) w wr:=by
    obtain ⟨bb',hf',hb'⟩:=hset.end (by have:=HLEN.out; omega);exact ⟨bb',hf'.bound fun c hc hl=>hc.imp id fun z=>⟨by have:=HZ.out; omega,hl⟩,(But.of_calls HT0.out.below).trans hb'⟩
   have HFI:=zaa hfin;have HE:=zaa (show evD p d 7 0 0 = (0,{ d with ways:=d.ways.map za7 }) by simp [evD]);clear hfin hset;go_wp2;go_ret;rw [HE.out];exact ⟨rfl,HFI.out⟩
end Go.Proofs.YtdhinkgjiapigabGreatDoor
namespace Go.Proofs.YtdhinkgjiapigabGreatDoor
open Go.RowKit Go.Deep
open Classical
theorem zl7 (occ:List Bool) (x:WayD) (hn:∀ s ∈ x.near,0 ≤ s ∧ s < occ.length):(!(x.near.all (zdr occ))) = zkg occ x:=by
 unfold zkg
 revert hn
 generalize x.near = l;intro hn
 induction l with
 | nil=>rfl
 | cons s l ih=>
  have hs:=hn s List.mem_cons_self
  have hfo:zdr occ s = !za1 occ s:=by
   obtain ⟨o,ho⟩:∃ o,occ[s.toNat]? = some o:=⟨occ[s.toNat]'(by omega),List.getElem?_eq_getElem _⟩;unfold zdr za1;rw [ho]
  rw [List.all_cons,List.any_cons,← ih fun t ht=>hn t (List.mem_cons_of_mem _ ht),hfo]
  cases za1 occ s <;> simp
set_option maxRecDepth 100000 in
set_option maxHeartbeats 8000000 in
theorem zks (P Q:Nat → Prop) (n ok p1 p2 p3 v1 v2 v3:Value) (p:PlanD) (d:FrameD) (k:Nat) (x:WayD) (h:HeldD) (s:StD) (bo bp bw:Nat) (bb:Nat → Nat) (w:World)
  (hp:Ways Q w p2 p.ways) (hQ:∀ c,Q c → c < w.heap.size ∧ ¬ P c) (hf:OFrame P w v1 v2 v3 d bo bp bw bb) (hx:p.ways[k]? = some x) (hh:d.ways[k]? = some h) (hso:zp3 h = some s) (hsh:zao x.sections.length s = h) (hbe:h.been.length = x.sections.length) (hsm:x.Small 30) (hpos:0 < x.sections.length)
  (hnear:∀ s ∈ x.near,0 ≤ s ∧ s < d.occ.length) (_hl1:p.ways.length ≤ 1048576) (_hl2:d.ways.length ≤ 1048576) (hl3:d.occ.length ≤ 1048576) :
  Calls Tryz.prog 188 #[.agg #[n,p1,p2,p3,.int .i64 p.hold],.agg #[ok,v1,v2,v3],.agg #[.int .i64 2,.int .i64 (k:Int),.int .i64 0]] w fun e w'=>EvR P w v1 v2 v3 bo bp bw (evD p d 2 (k:Int) 0) e w':=by
 have hil:k < p.ways.length:=(List.getElem?_eq_some_iff.1 hx).1;have hjl:k < d.ways.length:=(List.getElem?_eq_some_iff.1 hh).1;obtain ⟨a2,k2,rfl,hcw⟩:=id hp;obtain h0 | ⟨bq,oq,rfl,hb2,hcw⟩:=hcw
 ·omega
 obtain ⟨u0,u1,u2,u3,u4,hway,g0,g1,g2,g3,g4⟩:=hcw k hil x hx;obtain ⟨aa0,cc0,rfl⟩:=hway.1.size;obtain ⟨aa1,cc1,rfl⟩:=hway.2.1.size;obtain ⟨aa2,cc2,rfl⟩:=hway.2.2.1.size;obtain ⟨aa3,cc3,rfl⟩:=hway.2.2.2.1.size;obtain ⟨aa4,cc4,rfl⟩:=hway.2.2.2.2.size;obtain ⟨q3,f,N,rfl,hr,hiN,ho⟩:=hf.ways.cells hh;obtain ⟨g1',N1,q1,rfl,-⟩:=id hf.occ;obtain ⟨a4,q2,rfl,-⟩:=id hf.points;obtain ⟨capb,t0,t1,t2,t3,t4,-,-⟩:=ho.cells hr hiN;have T0:=zbs w 37 42 52 #[n,p1,.slice (some ⟨bq,oq,none⟩) p.ways.length k2,p3,.int .i64 p.hold] #[ok,.slice (some ⟨bo,0,none⟩) d.occ.length q1,.slice a4 d.points.length q2,.slice (some ⟨bw,0,none⟩) d.ways.length q3] #[.int .i64 2,.int .i64 (k:Int),.int .i64 0]
 have hbn':OBools w (.slice (some ⟨bb k,0,none⟩) h.been.length capb) h.been (bb k):=by
  have e:=(hr.cell (i:=k * 5 + 2) (by omega)).symm.trans t2;rw [← Option.some.inj e];exact ho.2.2.1
 have hwy:WayAt (In w) w (.slice aa0 x.sections.length cc0) (.slice aa1 x.lies.length cc1) (.slice aa2 x.flanks.length cc2) (.slice aa3 x.over.length cc3) (.slice aa4 x.near.length cc4) x:=hway.keep (zax _ _) fun c hc=>(hQ c hc).1;have hfr:=(hf.bound (Q:=In w) fun _ _ z=>z).read;have KB:=zaa fun (W:World) (hW:Below w.heap.size w W)=>(hbn'.read (P:=In w) hbn'.lt).keep (Q:=In W) (In.keep hW).1 (In.keep hW).2;have KW:=zaa fun (W:World) (hW:Below w.heap.size w W)=>hwy.keep (Q:=In W) (In.keep hW).1 (In.keep hW).2;have KF:=zaa fun (W:World) (hW:Below w.heap.size w W)=>hfr.keep (Q:=In W) (In.keep hW).1 (In.keep hW).2;have KO:=zaa fun (W:World) (hW:Below w.heap.size w W)=>hf.but (K:=fun _=>True) (Q:=P) (But.of_calls hW) (fun _ _=>trivial) fun _ z=>z
 have hst:∀ W' y,HeldStep w W' bw N k f (bb k) y → ∃ bb',OFrame (fun c=>P c ∨ New w W' c) W' (.slice (some ⟨bo,0,none⟩) d.occ.length q1) (.slice a4 d.points.length q2) (.slice (some ⟨bw,0,none⟩) d.ways.length q3) { d with ways:=d.ways.set k y } bo bp bw bb' ∧ But (fun c=>¬ P c) w W':=fun W' y hs=>by
  obtain ⟨bb',h1,h2⟩:=hf.step (Q:=fun c=>P c ∨ New w W' c) hjl (x:=y) (w':=W') (fun f' N' hr' _ _=>hs.from hr hr') (fun _ z=>.inl z) (fun b h1 h2=>.inr ⟨h1,h2⟩);exact ⟨bb',h1,h2.mono fun c _ hc=>⟨fun e=>hc (e ▸ hf.pw (by omega)),fun e=>hc (e ▸ hf.pb k hjl)⟩⟩
 have HST:=zaa hst;have HR:=zaa hr;have HSO:=zaa (And.intro hso hsh);have HBE:=zaa hbe;have HSM:=zaa hsm;have HNR:=zaa hnear;have HEV:=zaa (show evD p d 2 (k:Int) 0 = zc0 p d k x h by simp [evD,hx,hh]);have HG:=zaa (And.intro g0 (And.intro g1 (And.intro g2 (And.intro g3 g4))));have y0:=ckb t0 T0.below;have y1:=ckb t1 T0.below;have y2:=ckb t2 T0.below;have y3:=ckb t3 T0.below;have y4:=ckb t4 T0.below
 have hk1:(k:Int) < (d.ways.length:Int):=by omega
 have hk2:(k:Int) < (p.ways.length:Int):=by omega
 clear hp hQ hf hx hh hso hsh hbe hsm hnear hcw hway g0 g1 g2 g3 g4 hr ho t0 t1 t2 t3 t4 hbn' hwy hfr hst;go_enter Tryz.func188,Tryz.ntmps188
 go_wp2_with fail
 refine (zdh h _ _ (KB.out _ T0.below) (by have:=HBE.out; have:=HSM.out.1; omega) (by have:=HBE.out; omega)).mono ?_;rintro e w1 ⟨rfl,hb1⟩;rw [HSO.out.1];have T1:=T0.call hb1;clear y0 y1 y2 y3 y4 hb1 T0;simp only [zrr]
 cases s using StD.by with
 | idle=>
  simp only [stV];have ta:=Tryz.ta_idle_set (.agg #[]);have tb:=Tryz.ta_idle_clear (.agg #[])
  have hst:h.state = 0:=by rw [← HSO.out.2]; rfl
  have HE:=zaa (show evD p d 2 (k:Int) 0 = (2,d) by rw [HEV.out]; unfold zc0; rw [if_neg (by rw [hst]; decide)]);clear hst;go_wp2;go_ret;exact EvR.of HE.out (KO.out _ T1.below) (But.of_calls T1.below)
 | taking t=>
  simp only [stV];have ta:=Tryz.ta_taking_set (.agg #[.int .i64 t]);have tb:=Tryz.ta_taking_clear (.agg #[.int .i64 t])
  have hst:h.state = 3:=by rw [← HSO.out.2]; rfl
  have HE:=zaa (show evD p d 2 (k:Int) 0 = (2,d) by rw [HEV.out]; unfold zc0; rw [if_neg (by rw [hst]; decide)]);clear hst;go_wp2;go_ret;exact EvR.of HE.out (KO.out _ T1.below) (But.of_calls T1.below)
 | used g l b=>
  simp only [stV];have ta:=Tryz.ta_used_set (.agg (zbl g l b));have tb:=Tryz.ta_used_clear (.agg (zbl g l b))
  have hst:h.state = 4:=by rw [← HSO.out.2]; rfl
  have HE:=zaa (show evD p d 2 (k:Int) 0 = (2,d) by rw [HEV.out]; unfold zc0; rw [if_neg (by rw [hst]; decide)]);clear hst;go_wp2;go_ret;exact EvR.of HE.out (KO.out _ T1.below) (But.of_calls T1.below)
 | clear=>
  simp only [stV];have ta:=Tryz.ta_clear_set (.agg #[]);have tb:=Tryz.ta_clear_clear (.agg #[])
  have hst:h.state = 2:=by rw [← HSO.out.2]; rfl
  have hsn:h.shown = true:=by rw [← HSO.out.2]; rfl
  have HBK:=zaa (show evD p d 2 (k:Int) 0 = (0,{ d with ways:=d.ways.set k (zb3 p.hold d.occ x h) }) by rw [HEV.out]; unfold zc0; rw [if_pos (by rw [hst]; decide)]);have Ta:=T1.call (zab w1 (.cells #[] 214))
  have hza:(w1.alloc (.cells #[] 214)).heap.size = w1.heap.size + 1:=by simp
  have pa2:=Ta.cell (j:=0) (i:=2) rfl rfl;have ea1:=Ta.cell (j:=2) (i:=1) rfl rfl;rw [Nat.add_zero] at pa2;have ra0:=ckb HG.out.1 Ta.below;have ra1:=ckb HG.out.2.1 Ta.below;have ra2:=ckb HG.out.2.2.1 Ta.below;have ra3:=ckb HG.out.2.2.2.1 Ta.below;have ra4:=ckb HG.out.2.2.2.2 Ta.below;have Tb:=Ta.call (zab (w1.alloc (.cells #[] 214)) (.cells #[.slice aa0 x.sections.length cc0,.slice aa1 x.lies.length cc1,.slice aa2 x.flanks.length cc2,.slice aa3 x.over.length cc3,.slice aa4 x.near.length cc4] 122));have TY:=zaw (w1.alloc (.cells #[] 214)) 122 #[.slice aa0 x.sections.length cc0,.slice aa1 x.lies.length cc1,.slice aa2 x.flanks.length cc2,.slice aa3 x.over.length cc3,.slice aa4 x.near.length cc4];have fb0:=Tb.cell (j:=1) (i:=0) rfl rfl;have fb1:=Tb.cell (j:=1) (i:=1) rfl rfl;have fb2:=Tb.cell (j:=1) (i:=2) rfl rfl;have fb3:=Tb.cell (j:=1) (i:=3) rfl rfl;clear hst
  go_wp2_with fail
  refine (zcl _ _ _ _ _ d.occ x.near _ (KF.out _ Tb.below).1 (KW.out _ Tb.below).2.2.2.2 (by have:=HSM.out.2.2.2.2; omega) hl3 HNR.out).mono ?_;rintro e WB ⟨rfl,hb4⟩;rw [zl7 d.occ x HNR.out];have T4:=Tb.call hb4;replace TY:=TY.call hb4;clear pa2 ea1 ra0 ra1 ra2 ra3 ra4 fb0 fb1 fb2 fb3 Ta Tb T1 hb4
  cases hnb:zkg d.occ x with
  | true=>
   have HE:Hid (zao x.sections.length (.taking p.hold) = zb3 p.hold d.occ x h):=by
    unfold zb3;rw [hsn,hnb,if_pos (show (true && true) = true from rfl),← HSO.out.2];rfl
   clear hsn hnb;have ph:=T4.cell (j:=0) (i:=4) rfl rfl;rw [Nat.add_zero] at ph
   go_wp2_with fail
   have hks:∀ W,Below WB.heap.size WB W → Below WB.heap.size WB W ∧ W.cell? ⟨w.heap.size + 1,3,none⟩ = some (.slice (some ⟨bw,0,none⟩) d.ways.length q3) ∧ W.cell? ⟨w.heap.size + 1 + 1,1,none⟩ = some (.int .i64 (k:Int)) ∧
        (W.cell? ⟨w1.heap.size + 1,0,none⟩ = some (.slice aa0 x.sections.length cc0) ∧ W.cell? ⟨w1.heap.size + 1,1,none⟩ = some (.slice aa1 x.lies.length cc1) ∧ W.cell? ⟨w1.heap.size + 1,2,none⟩ = some (.slice aa2 x.flanks.length cc2) ∧ W.cell? ⟨w1.heap.size + 1,3,none⟩ = some (.slice aa3 x.over.length cc3) ∧ W.cell? ⟨w1.heap.size + 1,4,none⟩ = some (.slice aa4 x.near.length cc4)):=fun W hW=>by
    have hT:=T4.call hW;have hY:=TY.call hW;rw [← hza];exact ⟨hW,hT.cell (j:=1) (i:=3) rfl rfl,hT.cell (j:=2) (i:=1) rfl rfl,hY.cell (j:=0) (i:=0) rfl rfl,hY.cell (j:=0) (i:=1) rfl rfl,hY.cell (j:=0) (i:=2) rfl rfl,hY.cell (j:=0) (i:=3) rfl rfl,hY.cell (j:=0) (i:=4) rfl rfl⟩
   have KS:=zaa hks;have HBW:=zaa T4.below;clear hks;clear T4 TY hza ph
   refine zct (S:=fun W=>Below WB.heap.size WB W ∧ W.cell? ⟨w.heap.size + 1,3,none⟩ = some (.slice (some ⟨bw,0,none⟩) d.ways.length q3) ∧ W.cell? ⟨w.heap.size + 1 + 1,1,none⟩ = some (.int .i64 (k:Int)) ∧
        (W.cell? ⟨w1.heap.size + 1,0,none⟩ = some (.slice aa0 x.sections.length cc0) ∧ W.cell? ⟨w1.heap.size + 1,1,none⟩ = some (.slice aa1 x.lies.length cc1) ∧ W.cell? ⟨w1.heap.size + 1,2,none⟩ = some (.slice aa2 x.flanks.length cc2) ∧ W.cell? ⟨w1.heap.size + 1,3,none⟩ = some (.slice aa3 x.over.length cc3) ∧ W.cell? ⟨w1.heap.size + 1,4,none⟩ = some (.slice aa4 x.near.length cc4))) 8 (by kernel_rfl) (KS.out _ (zaf _)) (fun hS=>?_)
   refine tkL (v:=?v101x0) At.z (by kernel_rfl) (fun _ _ _ h=>h) rfl ?h101x0 hS ?_
   case h101x0=>intro _ s;(try dsimp only at s);go_simp;try with_reducible rfl
   try simp only [Act.put,sA,sB,sC]
   refine tkL (v:=?v101x1) At.z.s (by kernel_rfl) (fun _ _ _ h=>h) rfl ?h101x1 hS ?_
   case h101x1=>intro _ s;(try dsimp only at s);go_simp;try with_reducible rfl
   try simp only [Act.put,sA,sB,sC]
   refine tkL (v:=?v101x2) At.z.s.s (by kernel_rfl) (fun _ _ _ h=>h) rfl ?h101x2 hS ?_
   case h101x2=>intro _ s;(try dsimp only at s);go_simp;try with_reducible rfl
   try simp only [Act.put,sA,sB,sC]
   refine tkL (v:=?v101x3) At.z.s.s.s (by kernel_rfl) (fun _ _ _ h=>h) rfl ?h101x3 hS ?_
   case h101x3=>intro _ s;(try dsimp only at s);go_simp;try with_reducible rfl
   try simp only [Act.put,sA,sB,sC]
   refine tkL (v:=?v101x4) At.z.s.s.s.s (by kernel_rfl) (fun _ _ _ h=>h) rfl ?h101x4 hS ?_
   case h101x4=>intro _ s;(try dsimp only at s);go_simp;try with_reducible rfl
   try simp only [Act.put,sA,sB,sC]
   refine tkL (v:=?v101x5) At.z.s.s.s.s.s (by kernel_rfl) (fun _ _ _ h=>h) rfl ?h101x5 hS ?_
   case h101x5=>intro _ s;(try dsimp only at s);go_simp;try with_reducible rfl
   try simp only [Act.put,sA,sB,sC]
   have hD:=hS.1;have hw2:=HBW.out.trans (hD.mono HBW.out.size);have m2:=Tryz.inv_taking_held (.agg #[.int .i64 p.hold]);refine zbk (i:=6) At.z.s.s.s.s.s.s (by kernel_rfl) (fun K hK=>?_);go_simp;refine (zcm p.hold _ _ _ _ _ x.sections _ (KW.out _ hw2).1 hpos HSM.out.1).mono ?_;rintro e w3 ⟨vb,bq3,rfl,hO3,hq3,hb3⟩;obtain ⟨y,hy⟩:∃ y,y = zao x.sections.length (.taking p.hold):=⟨_,rfl⟩;have HY:=zaa (hy.trans HE.out);rw [← hy] at hO3 ⊢;have hD3:=hD.trans (hb3.mono hD.size);have hw3:=HBW.out.trans (hD3.mono HBW.out.size);have hS3:=KS.out _ hD3;have hq3':w.heap.size ≤ bq3:=Nat.le_trans hw2.size hq3;obtain ⟨fb,Nb,cb,rfl,-⟩:=id hO3;refine hK.out _ _ hS3 ?_;clear hK K hb3 hS hD hw2 hy m2
   try simp only [Act.put,sA,sB,sC]
   refine ze0 (i:=7) (v:=?vv101x7) At.z.s.s.s.s.s.s.s (by kernel_rfl) (by kernel_rfl) (by kernel_rfl) (by kernel_rfl) (fun _ _ _ h=>h) rfl ?hy101x7 hS3 ?rest101x7
   case hy101x7=>(intro w' hSw; (try dsimp only at hSw); go_simp; try with_reducible rfl)
   try simp only [Act.put,sA,sB,sC]
   have hr3:=zah HR.out hw3;have t0:=hr3.cell (i:=k * 5) (by omega);have t1:=hr3.cell (i:=k * 5 + 1) (by omega);have t2:=hr3.cell (i:=k * 5 + 2) (by omega);have t3:=hr3.cell (i:=k * 5 + 3) (by omega);have t4:=hr3.cell (i:=k * 5 + 4) (by omega);have z0:=hr3.frozen (k * 5);have z1:=hr3.frozen (k * 5 + 1);have z2:=hr3.frozen (k * 5 + 2);have z3:=hr3.frozen (k * 5 + 3);have z4:=hr3.frozen (k * 5 + 4);have HH:=zaa (HST.out _ _ (zbw (i:=k) (b:=bb k) HR.out hw3 hO3 hq3'));clear hO3 hw3 hq3 hq3' hD3 hr3 hS3;refine zf1 (m:=8) At.z.s.s.s.s.s.s.s.s (by kernel_rfl) (by kernel_rfl) (fun K hK=>?_);go_simp;refine hK.out _ _ ?_;clear hK K t0 t1 t2 t3 t4 z0 z1 z2 z3 z4;go_wp2;go_ret;rw [HBK.out,← HY.out];exact ⟨rfl,HH.out⟩
  | false=>
   have HE:Hid (zao x.sections.length .idle = zb3 p.hold d.occ x h):=by
    unfold zb3;rw [hnb,Bool.and_false,if_neg (by decide),HBE.out];rfl
   clear hsn hnb
   go_wp2_with fail
   have hks:∀ W,Below WB.heap.size WB W → Below WB.heap.size WB W ∧ W.cell? ⟨w.heap.size + 1,3,none⟩ = some (.slice (some ⟨bw,0,none⟩) d.ways.length q3) ∧ W.cell? ⟨w.heap.size + 1 + 1,1,none⟩ = some (.int .i64 (k:Int)) ∧
        (W.cell? ⟨w1.heap.size + 1,0,none⟩ = some (.slice aa0 x.sections.length cc0) ∧ W.cell? ⟨w1.heap.size + 1,1,none⟩ = some (.slice aa1 x.lies.length cc1) ∧ W.cell? ⟨w1.heap.size + 1,2,none⟩ = some (.slice aa2 x.flanks.length cc2) ∧ W.cell? ⟨w1.heap.size + 1,3,none⟩ = some (.slice aa3 x.over.length cc3) ∧ W.cell? ⟨w1.heap.size + 1,4,none⟩ = some (.slice aa4 x.near.length cc4)):=fun W hW=>by
    have hT:=T4.call hW;have hY:=TY.call hW;rw [← hza];exact ⟨hW,hT.cell (j:=1) (i:=3) rfl rfl,hT.cell (j:=2) (i:=1) rfl rfl,hY.cell (j:=0) (i:=0) rfl rfl,hY.cell (j:=0) (i:=1) rfl rfl,hY.cell (j:=0) (i:=2) rfl rfl,hY.cell (j:=0) (i:=3) rfl rfl,hY.cell (j:=0) (i:=4) rfl rfl⟩
   have KS:=zaa hks;have HBW:=zaa T4.below;clear hks;clear T4 TY hza
   refine zct (S:=fun W=>Below WB.heap.size WB W ∧ W.cell? ⟨w.heap.size + 1,3,none⟩ = some (.slice (some ⟨bw,0,none⟩) d.ways.length q3) ∧ W.cell? ⟨w.heap.size + 1 + 1,1,none⟩ = some (.int .i64 (k:Int)) ∧
        (W.cell? ⟨w1.heap.size + 1,0,none⟩ = some (.slice aa0 x.sections.length cc0) ∧ W.cell? ⟨w1.heap.size + 1,1,none⟩ = some (.slice aa1 x.lies.length cc1) ∧ W.cell? ⟨w1.heap.size + 1,2,none⟩ = some (.slice aa2 x.flanks.length cc2) ∧ W.cell? ⟨w1.heap.size + 1,3,none⟩ = some (.slice aa3 x.over.length cc3) ∧ W.cell? ⟨w1.heap.size + 1,4,none⟩ = some (.slice aa4 x.near.length cc4))) 8 (by kernel_rfl) (KS.out _ (zaf _)) (fun hS=>?_)
   refine tkL (v:=?v102x0) At.z (by kernel_rfl) (fun _ _ _ h=>h) rfl ?h102x0 hS ?_
   case h102x0=>intro _ s;(try dsimp only at s);go_simp;try with_reducible rfl
   try simp only [Act.put,sA,sB,sC]
   refine tkL (v:=?v102x1) At.z.s (by kernel_rfl) (fun _ _ _ h=>h) rfl ?h102x1 hS ?_
   case h102x1=>intro _ s;(try dsimp only at s);go_simp;try with_reducible rfl
   try simp only [Act.put,sA,sB,sC]
   refine tkL (v:=?v102x2) At.z.s.s (by kernel_rfl) (fun _ _ _ h=>h) rfl ?h102x2 hS ?_
   case h102x2=>intro _ s;(try dsimp only at s);go_simp;try with_reducible rfl
   try simp only [Act.put,sA,sB,sC]
   refine tkL (v:=?v102x3) At.z.s.s.s (by kernel_rfl) (fun _ _ _ h=>h) rfl ?h102x3 hS ?_
   case h102x3=>intro _ s;(try dsimp only at s);go_simp;try with_reducible rfl
   try simp only [Act.put,sA,sB,sC]
   refine tkL (v:=?v102x4) At.z.s.s.s.s (by kernel_rfl) (fun _ _ _ h=>h) rfl ?h102x4 hS ?_
   case h102x4=>intro _ s;(try dsimp only at s);go_simp;try with_reducible rfl
   try simp only [Act.put,sA,sB,sC]
   refine tkL (v:=?v102x5) At.z.s.s.s.s.s (by kernel_rfl) (fun _ _ _ h=>h) rfl ?h102x5 hS ?_
   case h102x5=>intro _ s;(try dsimp only at s);go_simp;try with_reducible rfl
   try simp only [Act.put,sA,sB,sC]
   have hD:=hS.1;have hw2:=HBW.out.trans (hD.mono HBW.out.size);have m2:=Tryz.inv_idle_held (.agg #[]);refine zbk (i:=6) At.z.s.s.s.s.s.s (by kernel_rfl) (fun K hK=>?_);go_simp;refine (zb8 _ _ _ _ _ x.sections _ (KW.out _ hw2).1 hpos HSM.out.1).mono ?_;rintro e w3 ⟨vb,bq3,rfl,hO3,hq3,hb3⟩;obtain ⟨y,hy⟩:∃ y,y = zao x.sections.length (.idle):=⟨_,rfl⟩;have HY:=zaa (hy.trans HE.out);rw [← hy] at hO3 ⊢;have hD3:=hD.trans (hb3.mono hD.size);have hw3:=HBW.out.trans (hD3.mono HBW.out.size);have hS3:=KS.out _ hD3;have hq3':w.heap.size ≤ bq3:=Nat.le_trans hw2.size hq3;obtain ⟨fb,Nb,cb,rfl,-⟩:=id hO3;refine hK.out _ _ hS3 ?_;clear hK K hb3 hS hD hw2 hy m2
   try simp only [Act.put,sA,sB,sC]
   refine ze0 (i:=7) (v:=?vv102x7) At.z.s.s.s.s.s.s.s (by kernel_rfl) (by kernel_rfl) (by kernel_rfl) (by kernel_rfl) (fun _ _ _ h=>h) rfl ?hy102x7 hS3 ?rest102x7
   case hy102x7=>(intro w' hSw; (try dsimp only at hSw); go_simp; try with_reducible rfl)
   try simp only [Act.put,sA,sB,sC]
   have hr3:=zah HR.out hw3;have t0:=hr3.cell (i:=k * 5) (by omega);have t1:=hr3.cell (i:=k * 5 + 1) (by omega);have t2:=hr3.cell (i:=k * 5 + 2) (by omega);have t3:=hr3.cell (i:=k * 5 + 3) (by omega);have t4:=hr3.cell (i:=k * 5 + 4) (by omega);have z0:=hr3.frozen (k * 5);have z1:=hr3.frozen (k * 5 + 1);have z2:=hr3.frozen (k * 5 + 2);have z3:=hr3.frozen (k * 5 + 3);have z4:=hr3.frozen (k * 5 + 4);have HH:=zaa (HST.out _ _ (zbw (i:=k) (b:=bb k) HR.out hw3 hO3 hq3'));clear hO3 hw3 hq3 hq3' hD3 hr3 hS3;refine zf1 (m:=8) At.z.s.s.s.s.s.s.s.s (by kernel_rfl) (by kernel_rfl) (fun K hK=>?_);go_simp;refine hK.out _ _ ?_;clear hK K t0 t1 t2 t3 t4 z0 z1 z2 z3 z4;go_wp2;go_ret;rw [HBK.out,← HY.out];exact ⟨rfl,HH.out⟩
 | set b=>
  cases b with
  | true=>
   simp only [stV];have ta:=Tryz.ta_set_set (.agg #[.bool true])
   have hst:h.state = 1:=by rw [← HSO.out.2]; rfl
   have hsn:h.shown = true:=by rw [← HSO.out.2]; rfl
   have HBK:=zaa (show evD p d 2 (k:Int) 0 = (0,{ d with ways:=d.ways.set k (zb3 p.hold d.occ x h) }) by rw [HEV.out]; unfold zc0; rw [if_pos (by rw [hst]; decide)]);have Ta:=T1.call (zab w1 (.cells #[.bool true] 212))
   have hza:(w1.alloc (.cells #[.bool true] 212)).heap.size = w1.heap.size + 1:=by simp
   have pa2:=Ta.cell (j:=0) (i:=2) rfl rfl;have ea1:=Ta.cell (j:=2) (i:=1) rfl rfl;rw [Nat.add_zero] at pa2;have ra0:=ckb HG.out.1 Ta.below;have ra1:=ckb HG.out.2.1 Ta.below;have ra2:=ckb HG.out.2.2.1 Ta.below;have ra3:=ckb HG.out.2.2.2.1 Ta.below;have ra4:=ckb HG.out.2.2.2.2 Ta.below;have Tb:=Ta.call (zab (w1.alloc (.cells #[.bool true] 212)) (.cells #[.slice aa0 x.sections.length cc0,.slice aa1 x.lies.length cc1,.slice aa2 x.flanks.length cc2,.slice aa3 x.over.length cc3,.slice aa4 x.near.length cc4] 122));have TY:=zaw (w1.alloc (.cells #[.bool true] 212)) 122 #[.slice aa0 x.sections.length cc0,.slice aa1 x.lies.length cc1,.slice aa2 x.flanks.length cc2,.slice aa3 x.over.length cc3,.slice aa4 x.near.length cc4];have fb0:=Tb.cell (j:=1) (i:=0) rfl rfl;have fb1:=Tb.cell (j:=1) (i:=1) rfl rfl;have fb2:=Tb.cell (j:=1) (i:=2) rfl rfl;have fb3:=Tb.cell (j:=1) (i:=3) rfl rfl;clear hst
   go_wp2_with fail
   refine (zcl _ _ _ _ _ d.occ x.near _ (KF.out _ Tb.below).1 (KW.out _ Tb.below).2.2.2.2 (by have:=HSM.out.2.2.2.2; omega) hl3 HNR.out).mono ?_;rintro e WB ⟨rfl,hb4⟩;rw [zl7 d.occ x HNR.out];have T4:=Tb.call hb4;replace TY:=TY.call hb4;clear pa2 ea1 ra0 ra1 ra2 ra3 ra4 fb0 fb1 fb2 fb3 Ta Tb T1 hb4
   cases hnb:zkg d.occ x with
   | true=>
    have HE:Hid (zao x.sections.length (.taking p.hold) = zb3 p.hold d.occ x h):=by
     unfold zb3;rw [hsn,hnb,if_pos (show (true && true) = true from rfl),← HSO.out.2];rfl
    clear hsn hnb;have ph:=T4.cell (j:=0) (i:=4) rfl rfl;rw [Nat.add_zero] at ph
    go_wp2_with fail
    have hks:∀ W,Below WB.heap.size WB W → Below WB.heap.size WB W ∧ W.cell? ⟨w.heap.size + 1,3,none⟩ = some (.slice (some ⟨bw,0,none⟩) d.ways.length q3) ∧ W.cell? ⟨w.heap.size + 1 + 1,1,none⟩ = some (.int .i64 (k:Int)) ∧
         (W.cell? ⟨w1.heap.size + 1,0,none⟩ = some (.slice aa0 x.sections.length cc0) ∧ W.cell? ⟨w1.heap.size + 1,1,none⟩ = some (.slice aa1 x.lies.length cc1) ∧ W.cell? ⟨w1.heap.size + 1,2,none⟩ = some (.slice aa2 x.flanks.length cc2) ∧ W.cell? ⟨w1.heap.size + 1,3,none⟩ = some (.slice aa3 x.over.length cc3) ∧ W.cell? ⟨w1.heap.size + 1,4,none⟩ = some (.slice aa4 x.near.length cc4)):=fun W hW=>by
     have hT:=T4.call hW;have hY:=TY.call hW;rw [← hza];exact ⟨hW,hT.cell (j:=1) (i:=3) rfl rfl,hT.cell (j:=2) (i:=1) rfl rfl,hY.cell (j:=0) (i:=0) rfl rfl,hY.cell (j:=0) (i:=1) rfl rfl,hY.cell (j:=0) (i:=2) rfl rfl,hY.cell (j:=0) (i:=3) rfl rfl,hY.cell (j:=0) (i:=4) rfl rfl⟩
    have KS:=zaa hks;have HBW:=zaa T4.below;clear hks;clear T4 TY hza ph
    refine zct (S:=fun W=>Below WB.heap.size WB W ∧ W.cell? ⟨w.heap.size + 1,3,none⟩ = some (.slice (some ⟨bw,0,none⟩) d.ways.length q3) ∧ W.cell? ⟨w.heap.size + 1 + 1,1,none⟩ = some (.int .i64 (k:Int)) ∧
         (W.cell? ⟨w1.heap.size + 1,0,none⟩ = some (.slice aa0 x.sections.length cc0) ∧ W.cell? ⟨w1.heap.size + 1,1,none⟩ = some (.slice aa1 x.lies.length cc1) ∧ W.cell? ⟨w1.heap.size + 1,2,none⟩ = some (.slice aa2 x.flanks.length cc2) ∧ W.cell? ⟨w1.heap.size + 1,3,none⟩ = some (.slice aa3 x.over.length cc3) ∧ W.cell? ⟨w1.heap.size + 1,4,none⟩ = some (.slice aa4 x.near.length cc4))) 8 (by kernel_rfl) (KS.out _ (zaf _)) (fun hS=>?_)
    refine tkL (v:=?v103x0) At.z (by kernel_rfl) (fun _ _ _ h=>h) rfl ?h103x0 hS ?_
    case h103x0=>intro _ s;(try dsimp only at s);go_simp;try with_reducible rfl
    try simp only [Act.put,sA,sB,sC]
    refine tkL (v:=?v103x1) At.z.s (by kernel_rfl) (fun _ _ _ h=>h) rfl ?h103x1 hS ?_
    case h103x1=>intro _ s;(try dsimp only at s);go_simp;try with_reducible rfl
    try simp only [Act.put,sA,sB,sC]
    refine tkL (v:=?v103x2) At.z.s.s (by kernel_rfl) (fun _ _ _ h=>h) rfl ?h103x2 hS ?_
    case h103x2=>intro _ s;(try dsimp only at s);go_simp;try with_reducible rfl
    try simp only [Act.put,sA,sB,sC]
    refine tkL (v:=?v103x3) At.z.s.s.s (by kernel_rfl) (fun _ _ _ h=>h) rfl ?h103x3 hS ?_
    case h103x3=>intro _ s;(try dsimp only at s);go_simp;try with_reducible rfl
    try simp only [Act.put,sA,sB,sC]
    refine tkL (v:=?v103x4) At.z.s.s.s.s (by kernel_rfl) (fun _ _ _ h=>h) rfl ?h103x4 hS ?_
    case h103x4=>intro _ s;(try dsimp only at s);go_simp;try with_reducible rfl
    try simp only [Act.put,sA,sB,sC]
    refine tkL (v:=?v103x5) At.z.s.s.s.s.s (by kernel_rfl) (fun _ _ _ h=>h) rfl ?h103x5 hS ?_
    case h103x5=>intro _ s;(try dsimp only at s);go_simp;try with_reducible rfl
    try simp only [Act.put,sA,sB,sC]
    have hD:=hS.1;have hw2:=HBW.out.trans (hD.mono HBW.out.size);have m2:=Tryz.inv_taking_held (.agg #[.int .i64 p.hold]);refine zbk (i:=6) At.z.s.s.s.s.s.s (by kernel_rfl) (fun K hK=>?_);go_simp;refine (zcm p.hold _ _ _ _ _ x.sections _ (KW.out _ hw2).1 hpos HSM.out.1).mono ?_;rintro e w3 ⟨vb,bq3,rfl,hO3,hq3,hb3⟩;obtain ⟨y,hy⟩:∃ y,y = zao x.sections.length (.taking p.hold):=⟨_,rfl⟩;have HY:=zaa (hy.trans HE.out);rw [← hy] at hO3 ⊢;have hD3:=hD.trans (hb3.mono hD.size);have hw3:=HBW.out.trans (hD3.mono HBW.out.size);have hS3:=KS.out _ hD3;have hq3':w.heap.size ≤ bq3:=Nat.le_trans hw2.size hq3;obtain ⟨fb,Nb,cb,rfl,-⟩:=id hO3;refine hK.out _ _ hS3 ?_;clear hK K hb3 hS hD hw2 hy m2
    try simp only [Act.put,sA,sB,sC]
    refine ze0 (i:=7) (v:=?vv103x7) At.z.s.s.s.s.s.s.s (by kernel_rfl) (by kernel_rfl) (by kernel_rfl) (by kernel_rfl) (fun _ _ _ h=>h) rfl ?hy103x7 hS3 ?rest103x7
    case hy103x7=>(intro w' hSw; (try dsimp only at hSw); go_simp; try with_reducible rfl)
    try simp only [Act.put,sA,sB,sC]
    have hr3:=zah HR.out hw3;have t0:=hr3.cell (i:=k * 5) (by omega);have t1:=hr3.cell (i:=k * 5 + 1) (by omega);have t2:=hr3.cell (i:=k * 5 + 2) (by omega);have t3:=hr3.cell (i:=k * 5 + 3) (by omega);have t4:=hr3.cell (i:=k * 5 + 4) (by omega);have z0:=hr3.frozen (k * 5);have z1:=hr3.frozen (k * 5 + 1);have z2:=hr3.frozen (k * 5 + 2);have z3:=hr3.frozen (k * 5 + 3);have z4:=hr3.frozen (k * 5 + 4);have HH:=zaa (HST.out _ _ (zbw (i:=k) (b:=bb k) HR.out hw3 hO3 hq3'));clear hO3 hw3 hq3 hq3' hD3 hr3 hS3;refine zf1 (m:=8) At.z.s.s.s.s.s.s.s.s (by kernel_rfl) (by kernel_rfl) (fun K hK=>?_);go_simp;refine hK.out _ _ ?_;clear hK K t0 t1 t2 t3 t4 z0 z1 z2 z3 z4;go_wp2;go_ret;rw [HBK.out,← HY.out];exact ⟨rfl,HH.out⟩
   | false=>
    have HE:Hid (zao x.sections.length .idle = zb3 p.hold d.occ x h):=by
     unfold zb3;rw [hnb,Bool.and_false,if_neg (by decide),HBE.out];rfl
    clear hsn hnb
    go_wp2_with fail
    have hks:∀ W,Below WB.heap.size WB W → Below WB.heap.size WB W ∧ W.cell? ⟨w.heap.size + 1,3,none⟩ = some (.slice (some ⟨bw,0,none⟩) d.ways.length q3) ∧ W.cell? ⟨w.heap.size + 1 + 1,1,none⟩ = some (.int .i64 (k:Int)) ∧
         (W.cell? ⟨w1.heap.size + 1,0,none⟩ = some (.slice aa0 x.sections.length cc0) ∧ W.cell? ⟨w1.heap.size + 1,1,none⟩ = some (.slice aa1 x.lies.length cc1) ∧ W.cell? ⟨w1.heap.size + 1,2,none⟩ = some (.slice aa2 x.flanks.length cc2) ∧ W.cell? ⟨w1.heap.size + 1,3,none⟩ = some (.slice aa3 x.over.length cc3) ∧ W.cell? ⟨w1.heap.size + 1,4,none⟩ = some (.slice aa4 x.near.length cc4)):=fun W hW=>by
     have hT:=T4.call hW;have hY:=TY.call hW;rw [← hza];exact ⟨hW,hT.cell (j:=1) (i:=3) rfl rfl,hT.cell (j:=2) (i:=1) rfl rfl,hY.cell (j:=0) (i:=0) rfl rfl,hY.cell (j:=0) (i:=1) rfl rfl,hY.cell (j:=0) (i:=2) rfl rfl,hY.cell (j:=0) (i:=3) rfl rfl,hY.cell (j:=0) (i:=4) rfl rfl⟩
    have KS:=zaa hks;have HBW:=zaa T4.below;clear hks;clear T4 TY hza
    refine zct (S:=fun W=>Below WB.heap.size WB W ∧ W.cell? ⟨w.heap.size + 1,3,none⟩ = some (.slice (some ⟨bw,0,none⟩) d.ways.length q3) ∧ W.cell? ⟨w.heap.size + 1 + 1,1,none⟩ = some (.int .i64 (k:Int)) ∧
         (W.cell? ⟨w1.heap.size + 1,0,none⟩ = some (.slice aa0 x.sections.length cc0) ∧ W.cell? ⟨w1.heap.size + 1,1,none⟩ = some (.slice aa1 x.lies.length cc1) ∧ W.cell? ⟨w1.heap.size + 1,2,none⟩ = some (.slice aa2 x.flanks.length cc2) ∧ W.cell? ⟨w1.heap.size + 1,3,none⟩ = some (.slice aa3 x.over.length cc3) ∧ W.cell? ⟨w1.heap.size + 1,4,none⟩ = some (.slice aa4 x.near.length cc4))) 8 (by kernel_rfl) (KS.out _ (zaf _)) (fun hS=>?_)
    refine tkL (v:=?v104x0) At.z (by kernel_rfl) (fun _ _ _ h=>h) rfl ?h104x0 hS ?_
    case h104x0=>intro _ s;(try dsimp only at s);go_simp;try with_reducible rfl
    try simp only [Act.put,sA,sB,sC]
    refine tkL (v:=?v104x1) At.z.s (by kernel_rfl) (fun _ _ _ h=>h) rfl ?h104x1 hS ?_
    case h104x1=>intro _ s;(try dsimp only at s);go_simp;try with_reducible rfl
    try simp only [Act.put,sA,sB,sC]
    refine tkL (v:=?v104x2) At.z.s.s (by kernel_rfl) (fun _ _ _ h=>h) rfl ?h104x2 hS ?_
    case h104x2=>intro _ s;(try dsimp only at s);go_simp;try with_reducible rfl
    try simp only [Act.put,sA,sB,sC]
    refine tkL (v:=?v104x3) At.z.s.s.s (by kernel_rfl) (fun _ _ _ h=>h) rfl ?h104x3 hS ?_
    case h104x3=>intro _ s;(try dsimp only at s);go_simp;try with_reducible rfl
    try simp only [Act.put,sA,sB,sC]
    refine tkL (v:=?v104x4) At.z.s.s.s.s (by kernel_rfl) (fun _ _ _ h=>h) rfl ?h104x4 hS ?_
    case h104x4=>intro _ s;(try dsimp only at s);go_simp;try with_reducible rfl
    try simp only [Act.put,sA,sB,sC]
    refine tkL (v:=?v104x5) At.z.s.s.s.s.s (by kernel_rfl) (fun _ _ _ h=>h) rfl ?h104x5 hS ?_
    case h104x5=>intro _ s;(try dsimp only at s);go_simp;try with_reducible rfl
    try simp only [Act.put,sA,sB,sC]
    have hD:=hS.1;have hw2:=HBW.out.trans (hD.mono HBW.out.size);have m2:=Tryz.inv_idle_held (.agg #[]);refine zbk (i:=6) At.z.s.s.s.s.s.s (by kernel_rfl) (fun K hK=>?_);go_simp;refine (zb8 _ _ _ _ _ x.sections _ (KW.out _ hw2).1 hpos HSM.out.1).mono ?_;rintro e w3 ⟨vb,bq3,rfl,hO3,hq3,hb3⟩;obtain ⟨y,hy⟩:∃ y,y = zao x.sections.length (.idle):=⟨_,rfl⟩;have HY:=zaa (hy.trans HE.out);rw [← hy] at hO3 ⊢;have hD3:=hD.trans (hb3.mono hD.size);have hw3:=HBW.out.trans (hD3.mono HBW.out.size);have hS3:=KS.out _ hD3;have hq3':w.heap.size ≤ bq3:=Nat.le_trans hw2.size hq3;obtain ⟨fb,Nb,cb,rfl,-⟩:=id hO3;refine hK.out _ _ hS3 ?_;clear hK K hb3 hS hD hw2 hy m2
    try simp only [Act.put,sA,sB,sC]
    refine ze0 (i:=7) (v:=?vv104x7) At.z.s.s.s.s.s.s.s (by kernel_rfl) (by kernel_rfl) (by kernel_rfl) (by kernel_rfl) (fun _ _ _ h=>h) rfl ?hy104x7 hS3 ?rest104x7
    case hy104x7=>(intro w' hSw; (try dsimp only at hSw); go_simp; try with_reducible rfl)
    try simp only [Act.put,sA,sB,sC]
    have hr3:=zah HR.out hw3;have t0:=hr3.cell (i:=k * 5) (by omega);have t1:=hr3.cell (i:=k * 5 + 1) (by omega);have t2:=hr3.cell (i:=k * 5 + 2) (by omega);have t3:=hr3.cell (i:=k * 5 + 3) (by omega);have t4:=hr3.cell (i:=k * 5 + 4) (by omega);have z0:=hr3.frozen (k * 5);have z1:=hr3.frozen (k * 5 + 1);have z2:=hr3.frozen (k * 5 + 2);have z3:=hr3.frozen (k * 5 + 3);have z4:=hr3.frozen (k * 5 + 4);have HH:=zaa (HST.out _ _ (zbw (i:=k) (b:=bb k) HR.out hw3 hO3 hq3'));clear hO3 hw3 hq3 hq3' hD3 hr3 hS3;refine zf1 (m:=8) At.z.s.s.s.s.s.s.s.s (by kernel_rfl) (by kernel_rfl) (fun K hK=>?_);go_simp;refine hK.out _ _ ?_;clear hK K t0 t1 t2 t3 t4 z0 z1 z2 z3 z4;go_wp2;go_ret;rw [HBK.out,← HY.out];exact ⟨rfl,HH.out⟩
  | false=>
   simp only [stV];have ta:=Tryz.ta_set_set (.agg #[.bool false])
   have hst:h.state = 1:=by rw [← HSO.out.2]; rfl
   have hsn:h.shown = false:=by rw [← HSO.out.2]; rfl
   have HBK:=zaa (show evD p d 2 (k:Int) 0 = (0,{ d with ways:=d.ways.set k (zb3 p.hold d.occ x h) }) by rw [HEV.out]; unfold zc0; rw [if_pos (by rw [hst]; decide)]);have Ta:=T1.call (zab w1 (.cells #[.bool false] 212))
   have hza:(w1.alloc (.cells #[.bool false] 212)).heap.size = w1.heap.size + 1:=by simp
   have pa2:=Ta.cell (j:=0) (i:=2) rfl rfl;have ea1:=Ta.cell (j:=2) (i:=1) rfl rfl;rw [Nat.add_zero] at pa2;have ra0:=ckb HG.out.1 Ta.below;have ra1:=ckb HG.out.2.1 Ta.below;have ra2:=ckb HG.out.2.2.1 Ta.below;have ra3:=ckb HG.out.2.2.2.1 Ta.below;have ra4:=ckb HG.out.2.2.2.2 Ta.below;have Tb:=Ta.call (zab (w1.alloc (.cells #[.bool false] 212)) (.cells #[.slice aa0 x.sections.length cc0,.slice aa1 x.lies.length cc1,.slice aa2 x.flanks.length cc2,.slice aa3 x.over.length cc3,.slice aa4 x.near.length cc4] 122));have TY:=zaw (w1.alloc (.cells #[.bool false] 212)) 122 #[.slice aa0 x.sections.length cc0,.slice aa1 x.lies.length cc1,.slice aa2 x.flanks.length cc2,.slice aa3 x.over.length cc3,.slice aa4 x.near.length cc4]
   have HE:Hid (zao x.sections.length .idle = zb3 p.hold d.occ x h):=by
    unfold zb3;rw [hsn,Bool.false_and,if_neg (by decide),HBE.out];rfl
   clear hst hsn
   go_wp2_with fail
   obtain ⟨WB,hWB⟩:∃ WB,WB = (w1.alloc (.cells #[.bool false] 212)).alloc (.cells #[.slice aa0 x.sections.length cc0,.slice aa1 x.lies.length cc1,.slice aa2 x.flanks.length cc2,.slice aa3 x.over.length cc3,.slice aa4 x.near.length cc4] 122):=⟨_,rfl⟩;rw [← hWB] at Tb TY ⊢
   have hks:∀ W,Below WB.heap.size WB W → Below WB.heap.size WB W ∧ W.cell? ⟨w.heap.size + 1,3,none⟩ = some (.slice (some ⟨bw,0,none⟩) d.ways.length q3) ∧ W.cell? ⟨w.heap.size + 1 + 1,1,none⟩ = some (.int .i64 (k:Int)) ∧
        (W.cell? ⟨w1.heap.size + 1,0,none⟩ = some (.slice aa0 x.sections.length cc0) ∧ W.cell? ⟨w1.heap.size + 1,1,none⟩ = some (.slice aa1 x.lies.length cc1) ∧ W.cell? ⟨w1.heap.size + 1,2,none⟩ = some (.slice aa2 x.flanks.length cc2) ∧ W.cell? ⟨w1.heap.size + 1,3,none⟩ = some (.slice aa3 x.over.length cc3) ∧ W.cell? ⟨w1.heap.size + 1,4,none⟩ = some (.slice aa4 x.near.length cc4)):=fun W hW=>by
    have hT:=Tb.call hW;have hY:=TY.call hW;rw [← hza];exact ⟨hW,hT.cell (j:=1) (i:=3) rfl rfl,hT.cell (j:=2) (i:=1) rfl rfl,hY.cell (j:=0) (i:=0) rfl rfl,hY.cell (j:=0) (i:=1) rfl rfl,hY.cell (j:=0) (i:=2) rfl rfl,hY.cell (j:=0) (i:=3) rfl rfl,hY.cell (j:=0) (i:=4) rfl rfl⟩
   have KS:=zaa hks;have HBW:=zaa Tb.below;clear hks;clear Tb TY Ta T1 pa2 ea1 ra0 ra1 ra2 ra3 ra4 hWB hza
   refine zct (S:=fun W=>Below WB.heap.size WB W ∧ W.cell? ⟨w.heap.size + 1,3,none⟩ = some (.slice (some ⟨bw,0,none⟩) d.ways.length q3) ∧ W.cell? ⟨w.heap.size + 1 + 1,1,none⟩ = some (.int .i64 (k:Int)) ∧
        (W.cell? ⟨w1.heap.size + 1,0,none⟩ = some (.slice aa0 x.sections.length cc0) ∧ W.cell? ⟨w1.heap.size + 1,1,none⟩ = some (.slice aa1 x.lies.length cc1) ∧ W.cell? ⟨w1.heap.size + 1,2,none⟩ = some (.slice aa2 x.flanks.length cc2) ∧ W.cell? ⟨w1.heap.size + 1,3,none⟩ = some (.slice aa3 x.over.length cc3) ∧ W.cell? ⟨w1.heap.size + 1,4,none⟩ = some (.slice aa4 x.near.length cc4))) 8 (by kernel_rfl) (KS.out _ (zaf _)) (fun hS=>?_)
   refine tkL (v:=?v105x0) At.z (by kernel_rfl) (fun _ _ _ h=>h) rfl ?h105x0 hS ?_
   case h105x0=>intro _ s;(try dsimp only at s);go_simp;try with_reducible rfl
   try simp only [Act.put,sA,sB,sC]
   refine tkL (v:=?v105x1) At.z.s (by kernel_rfl) (fun _ _ _ h=>h) rfl ?h105x1 hS ?_
   case h105x1=>intro _ s;(try dsimp only at s);go_simp;try with_reducible rfl
   try simp only [Act.put,sA,sB,sC]
   refine tkL (v:=?v105x2) At.z.s.s (by kernel_rfl) (fun _ _ _ h=>h) rfl ?h105x2 hS ?_
   case h105x2=>intro _ s;(try dsimp only at s);go_simp;try with_reducible rfl
   try simp only [Act.put,sA,sB,sC]
   refine tkL (v:=?v105x3) At.z.s.s.s (by kernel_rfl) (fun _ _ _ h=>h) rfl ?h105x3 hS ?_
   case h105x3=>intro _ s;(try dsimp only at s);go_simp;try with_reducible rfl
   try simp only [Act.put,sA,sB,sC]
   refine tkL (v:=?v105x4) At.z.s.s.s.s (by kernel_rfl) (fun _ _ _ h=>h) rfl ?h105x4 hS ?_
   case h105x4=>intro _ s;(try dsimp only at s);go_simp;try with_reducible rfl
   try simp only [Act.put,sA,sB,sC]
   refine tkL (v:=?v105x5) At.z.s.s.s.s.s (by kernel_rfl) (fun _ _ _ h=>h) rfl ?h105x5 hS ?_
   case h105x5=>intro _ s;(try dsimp only at s);go_simp;try with_reducible rfl
   try simp only [Act.put,sA,sB,sC]
   have hD:=hS.1;have hw2:=HBW.out.trans (hD.mono HBW.out.size);have m2:=Tryz.inv_idle_held (.agg #[]);refine zbk (i:=6) At.z.s.s.s.s.s.s (by kernel_rfl) (fun K hK=>?_);go_simp;refine (zb8 _ _ _ _ _ x.sections _ (KW.out _ hw2).1 hpos HSM.out.1).mono ?_;rintro e w3 ⟨vb,bq3,rfl,hO3,hq3,hb3⟩;obtain ⟨y,hy⟩:∃ y,y = zao x.sections.length (.idle):=⟨_,rfl⟩;have HY:=zaa (hy.trans HE.out);rw [← hy] at hO3 ⊢;have hD3:=hD.trans (hb3.mono hD.size);have hw3:=HBW.out.trans (hD3.mono HBW.out.size);have hS3:=KS.out _ hD3;have hq3':w.heap.size ≤ bq3:=Nat.le_trans hw2.size hq3;obtain ⟨fb,Nb,cb,rfl,-⟩:=id hO3;refine hK.out _ _ hS3 ?_;clear hK K hb3 hS hD hw2 hy m2
   try simp only [Act.put,sA,sB,sC]
   refine ze0 (i:=7) (v:=?vv105x7) At.z.s.s.s.s.s.s.s (by kernel_rfl) (by kernel_rfl) (by kernel_rfl) (by kernel_rfl) (fun _ _ _ h=>h) rfl ?hy105x7 hS3 ?rest105x7
   case hy105x7=>(intro w' hSw; (try dsimp only at hSw); go_simp; try with_reducible rfl)
   try simp only [Act.put,sA,sB,sC]
   have hr3:=zah HR.out hw3;have t0:=hr3.cell (i:=k * 5) (by omega);have t1:=hr3.cell (i:=k * 5 + 1) (by omega);have t2:=hr3.cell (i:=k * 5 + 2) (by omega);have t3:=hr3.cell (i:=k * 5 + 3) (by omega);have t4:=hr3.cell (i:=k * 5 + 4) (by omega);have z0:=hr3.frozen (k * 5);have z1:=hr3.frozen (k * 5 + 1);have z2:=hr3.frozen (k * 5 + 2);have z3:=hr3.frozen (k * 5 + 3);have z4:=hr3.frozen (k * 5 + 4);have HH:=zaa (HST.out _ _ (zbw (i:=k) (b:=bb k) HR.out hw3 hO3 hq3'));clear hO3 hw3 hq3 hq3' hD3 hr3 hS3;refine zf1 (m:=8) At.z.s.s.s.s.s.s.s.s (by kernel_rfl) (by kernel_rfl) (fun K hK=>?_);go_simp;refine hK.out _ _ ?_;clear hK K t0 t1 t2 t3 t4 z0 z1 z2 z3 z4;go_wp2;go_ret;rw [HBK.out,← HY.out];exact ⟨rfl,HH.out⟩
end Go.Proofs.YtdhinkgjiapigabGreatDoor

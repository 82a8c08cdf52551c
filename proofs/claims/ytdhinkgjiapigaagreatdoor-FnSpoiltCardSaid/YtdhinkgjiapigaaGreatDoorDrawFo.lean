import Derived.Test.YtdhinkgjiapigaaGreatDoorDrawFp
namespace Go.Proofs.YtdhinkgjiapigaaGreatDoor
open Go.RowKit Go.Deep
open Classical
set_option maxRecDepth 100000 in
set_option maxHeartbeats 16000000 in
theorem zw8 (cb K:Nat) (w:World) (hc:Cur w cb K) (hK:K ≤ 1000) :
  Calls Tryz.prog 35 #[.pointer (some ⟨cb,0,none⟩)] w fun e w'=>∃ v1 v2 v3 ns hold l ws rs,e = .returned (.agg #[.int .i64 ns,v1,v2,v3,.int .i64 hold]) ∧ Right ⟨ns,l,ws.map Prod.snd,rs.map Prod.snd,hold⟩ ∧ w'.ownsRow w.heap.size 3 1 v1 l.length (zcg l) ∧ WaysO w' w.heap.size v2 ws ∧ RowsO w' w.heap.size v3 rs ∧ Cur w' cb (K + 1000) ∧ But (fun c=>c ≠ cb) w w':=by
 have hcb:=hc.lt;have hb0:=zab w (.cells #[.int .i64 0,.slice none 0 0,.slice none 0 0,.slice none 0 0,.int .i64 0] 27);have hr0:(w.alloc (.cells #[.int .i64 0,.slice none 0 0,.slice none 0 0,.slice none 0 0,.int .i64 0] 27)).rowIs w.heap.size 27 5 (fun i=>(#[.int .i64 0,.slice none 0 0,.slice none 0 0,.slice none 0 0,.int .i64 0]:Array Value)[i]!):=zak w 27 #[.int .i64 0,.slice none 0 0,.slice none 0 0,.slice none 0 0,.int .i64 0];have hc0:=hc.but (Q:=fun _=>True) (But.of_calls hb0) fun _ _=>trivial;go_enter Tryz.func35,Tryz.ntmps35
 go_wp2_with fail
 refine (zap cb K 6 _ hc0 (by omega) (by omega)).mono ?_;rintro e w1 ⟨x,rfl,hx,hc1,hB1⟩
 have hx6:x < 6:=by omega
 clear hx
 go_wp2_with fail
 refine (zap cb (K + 2) 6 _ hc1 (by omega) (by omega)).mono ?_;rintro e w2 ⟨y,rfl,hy,hc2,hB2⟩
 have hy6:y < 6:=by omega
 obtain ⟨n,hn⟩:∃ n,n = 2 + x:=⟨_,rfl⟩
 have hnx:2 + (x:Int) = (n:Int):=by omega
 rw [hnx];obtain ⟨ho,hho⟩:∃ n,n = 1 + y:=⟨_,rfl⟩
 have hoy:Hid (1 + (y:Int) = (ho:Int)):=by show 1 + (y:Int) = (ho:Int); omega
 have hn2:2 ≤ n:=by omega
 have hn7:n ≤ 7:=by omega
 clear hnx hy hn hx6 hc1;have hbw:=(But.of_calls (K:=fun c=>c ≠ cb) hb0).trans (hB1.trans hB2);have hr2:=(hB1.trans hB2).row hr0 (by omega);have hlt2:=hr2.lt;have hb3:=zab w2 (.cells #[.int .i64 (n:Int),.slice none 0 0,.slice none 0 0,.slice none 0 0,.int .i64 (ho:Int)] 27);have hr3:(w2.alloc (.cells #[.int .i64 (n:Int),.slice none 0 0,.slice none 0 0,.slice none 0 0,.int .i64 (ho:Int)] 27)).rowIs w2.heap.size 27 5 (fun i=>(#[.int .i64 (n:Int),.slice none 0 0,.slice none 0 0,.slice none 0 0,.int .i64 (ho:Int)]:Array Value)[i]!):=zak w2 27 #[.int .i64 (n:Int),.slice none 0 0,.slice none 0 0,.slice none 0 0,.int .i64 (ho:Int)];have hP3:PlB w cb w2.heap.size (K + 4) (n:Int) (ho:Int) (w2.alloc (.cells #[.int .i64 (n:Int),.slice none 0 0,.slice none 0 0,.slice none 0 0,.int .i64 (ho:Int)] 27)) (.slice none 0 0) (.slice none 0 0) (.slice none 0 0):=⟨hbw.call hb3,hc2.but (Q:=fun _=>True) (But.of_calls hb3) fun _ _=>trivial,⟨_,zah hr2 hb3⟩,hcb,hlt2,hr3⟩;have HP3:=zaa hP3;have HC3:=zaa hP3.cur;clear hb0 hr0 hc0 hB1 hB2 hbw hr2 hb3 hr3 hP3 hc2
 have hho6:ho ≤ 6:=by omega
 have hho1:1 ≤ ho:=by omega
 clear hho
 go_wp2_with fail
 rw [hoy.out];clear hoy;refine (zap cb (K + 4) 4 _ HC3.out (by omega) (by omega)).mono ?_;rintro e w4 ⟨k0,rfl,hk0,hc4,hB4⟩;have HP4:=zaa (HP3.out.pick hB4 hc4)
 have hk4:k0 < 4:=by omega
 obtain ⟨pb,hpb⟩:∃ b,b = w2.heap.size:=⟨_,rfl⟩;rw [← hpb] at HP4 ⊢;clear HP3 HC3 hB4 hc4 hk0 hpb hlt2 hc w1 w2;go_wp2
 go_loopw [4] (fun z wr=>∃ (k:Nat) (s:Value) (l:List Int),l.length + k ≤ 3 ∧ z = .int .i64 (k:Int) ∧ PlB w cb pb (K + 6 + 2 * (3 - k)) (n:Int) (ho:Int) wr s (.slice none 0 0) (.slice none 0 0) ∧ wr.ownsRow (pb + 1) 3 1 s l.length (zcg l) ∧ ∀ x ∈ l,InR x 0 ((n:Int) - 1)) (fun z _=>(intOf z).toNat)
 case atStart=>exact ⟨k0,_,[],by show 0 + k0 ≤ 3; omega,rfl,HP4.out.mono (by omega),World.ownsRow_nil _ _ _ _,fun _ h=>by cases h⟩
 case round=>
  obtain ⟨k,s,l,hlk,rfl,hP,hown,hin⟩:=hrel;rename World=>wr;clear HP4;obtain ⟨al,ca,e⟩:=zag hown;subst e;obtain ⟨nn,hnn⟩:∃ nn,nn = l.length:=⟨_,rfl⟩;rw [← hnn] at hlk hown hP;have HNN:=zaa hnn;have HIN:=zaa hin;clear hnn hin;by_cases hz:0 < k
  ·have hzi:decide ((0:Int) < (k:Int)) = true:=decide_eq_true (by omega);have HP:=zaa hP;have HOW:=zaa hown;clear hP hown
   go_upto_region 5 with fail
   have hks:∀ W K' ,PlB w cb pb K' (n:Int) (ho:Int) W (.slice al nn ca) (.slice none 0 0) (.slice none 0 0) → W.cell? ⟨pb,0,none⟩ = some (.int .i64 (n:Int)) ∧ W.cell? ⟨pb,1,none⟩ = some (.slice al nn ca):=fun W K' hW=>⟨hW.plan.cell (i:=0) (by omega),hW.plan.cell (i:=1) (by omega)⟩;have KS:=zaa hks;clear hks;refine zct (S:=fun W=>W.cell? ⟨pb,0,none⟩ = some (.int .i64 (n:Int)) ∧ W.cell? ⟨pb,1,none⟩ = some (.slice al nn ca)) 9 (by kernel_rfl) (KS.out _ _ (HP.out.far (Q:=fun _=>True) (But.of_calls (zaf _)) fun _ _=>trivial)) (fun hS=>?_);have hPA:=HP.out.far (Q:=fun _=>True) (But.of_calls (zaf wr)) fun _ _=>trivial;have hOA:=za3 (K:=fun _=>True) HOW.out (But.of_calls (zaf wr)) fun _ _=>trivial;obtain ⟨wA,hwA⟩:∃ W,W = wr.drew:=⟨_,rfl⟩;rw [← hwA] at hS hPA hOA ⊢;have HPA:=zaa hPA;have HOA:=zaa hOA;have HCA:=zaa hPA.cur;clear hwA HP HOW hPA hOA;refine tkL (v:=?v0) At.z (by kernel_rfl) (fun _ _ _ h=>h) rfl ?h0 hS ?_
   case h0=>intro _ s;(try dsimp only at s);go_simp;try with_reducible rfl
   try simp only [Act.put,sA,sB,sC]
   refine tkL (v:=?v1) At.z.s (by kernel_rfl) (fun _ _ _ h=>h) rfl ?h1 hS ?_
   case h1=>intro _ s;(try dsimp only at s);go_simp;try with_reducible rfl
   try simp only [Act.put,sA,sB,sC]
   refine tkL (v:=?v2) At.z.s.s (by kernel_rfl) (fun _ _ _ h=>h) rfl ?h2 hS ?_
   case h2=>intro _ s;(try dsimp only at s);go_simp;try with_reducible rfl
   try simp only [Act.put,sA,sB,sC]
   refine tkL (v:=?v3) At.z.s.s.s (by kernel_rfl) (fun _ _ _ h=>h) rfl ?h3 hS ?_
   case h3=>intro _ s;(try dsimp only at s);go_simp;try with_reducible rfl
   try simp only [Act.put,sA,sB,sC]
   refine tkL (v:=?v4) At.z.s.s.s.s (by kernel_rfl) (fun _ _ _ h=>h) rfl ?h4 hS ?_
   case h4=>intro _ s;(try dsimp only at s);go_simp;try with_reducible rfl
   try simp only [Act.put,sA,sB,sC]
   clear hS;refine zbk (i:=5) At.z.s.s.s.s.s (by kernel_rfl) (fun K1 hK1=>?_);go_simp;refine (zap cb _ n _ HCA.out (by omega) (by omega)).mono ?_;rintro e wB ⟨x,rfl,hx,hcB,hB⟩
   have hxn:x < n:=by omega
   have hPB:=HPA.out.pick hB hcB
   have hOB:=zba HOA.out hB fun c hc _=>by have:=HPA.out.hcb; have:=HPA.out.lt; omega
   have HPB:=zaa hPB;have HOB:=zaa hOB;refine hK1.out _ _ (KS.out _ _ hPB) ?_;clear hK1 K1 hx hB hcB hPB hOB HPA HOA HCA
   try simp only [Act.put,sA,sB,sC]
   refine zbk (i:=6) At.z.s.s.s.s.s.s (by kernel_rfl) (fun K1 hK1=>?_);go_simp;have hbn:=zab wB (.cells #[.int .i64 (x:Int)] 3);have hPC:=HPB.out.far (Q:=fun _=>True) (But.of_calls hbn) fun _ _=>trivial;have hOC:=za3 (K:=fun _=>True) HOB.out (But.of_calls hbn) fun _ _=>trivial;have SRC:=zaa (zhj wB 3 #[.int .i64 (x:Int)]);have HZ:Hid (pb + 1 ≤ (wB.alloc (.cells #[.int .i64 (x:Int)] 3)).heap.size):=hPC.plan.lt;refine hK1.out _ _ (KS.out _ _ hPC) ?_;have HPC:=zaa hPC;have HOC:=zaa hOC;clear hK1 K1 hbn hPC hOC HPB HOB
   try simp only [Act.put,sA,sB,sC]
   refine zbk (i:=7) At.z.s.s.s.s.s.s.s (by kernel_rfl) (fun K1 hK1=>?_);refine zrz _ _ 23 rfl (pb + 1) 3 (.int .i64 0) 1 8 Tryz.underlying23 Tryz.infoInt rfl (by decide) (.slice al nn ca) nn (zcg l) rfl HOC.out ⟨wB.heap.size,0,none⟩ 1 1 [.int .i64 (x:Int)] rfl rfl SRC.out (fun u hu=>by rw [List.mem_singleton.1 hu]; rfl) (by unfold maxLen; omega) (by omega) HZ.out ?_;intro v' wD hownD hgr;obtain ⟨a6,c6,rfl⟩:=zag hownD;have hB6:=zbm HOC.out hgr (Nat.le_refl _) HZ.out
   have hPD:=HPC.out.far (Q:=fun c=>c < pb + 1) (But.of_below hB6 fun _ _ z=>z) fun c hc=>by omega
   refine hK1.out _ _ (KS.out _ _ hPD) ?_;have hS:=KS.out _ _ hPD;clear hK1 K1
   try simp only [Act.put,sA,sB,sC]
   refine tkL (v:=?v8) At.z.s.s.s.s.s.s.s.s (by kernel_rfl) (fun _ _ _ h=>h) rfl ?h8 hS ?_
   case h8=>intro _ s;(try dsimp only at s);go_simp;try with_reducible rfl
   try simp only [Act.put,sA,sB,sC]
   clear hS;refine zf1 At.z.s.s.s.s.s.s.s.s.s (by kernel_rfl) (by kernel_rfl) (fun K1 hK1=>?_);have y1:wD.cell? ⟨pb,1,none⟩ = some (.slice al nn ca):=hPD.plan.cell (i:=1) (by omega);have z1:=hPD.plan.frozen 1;have hPE:=hPD.set1 (.slice a6 (nn + 1) c6)
   have hOE:(wD.setCell ⟨pb,1,none⟩ (.slice a6 (nn + 1) c6)).ownsRow (pb + 1) 3 1 (.slice a6 (nn + 1) c6) (l ++ [(x:Int)]).length (zcg (l ++ [(x:Int)])):=by
    rw [zc4,show (l ++ [(x:Int)]).length = nn + 1 by rw [HNN.out]; simp]
    exact zba (K:=fun c=>c ≠ pb) hownD ((But.refl _ _).setCell (fun z=>z rfl) _) fun c hc _=>by omega
   have HPE:=zaa hPE;have HOE:=zaa hOE
   have HI2:Hid (∀ z ∈ l ++ [(x:Int)],InR z 0 ((n:Int) - 1)):=fun z hz=>by
    rcases List.mem_append.1 hz with h | h
    ·exact HIN.out z h
    ·rw [List.mem_singleton.1 h]; exact ⟨by omega,by omega⟩
   have HL2:Hid ((l ++ [(x:Int)]).length + (k - 1) ≤ 3):=by show (l ++ [(x:Int)]).length + (k - 1) ≤ 3; have:=HNN.out; simp; omega
   clear hPD hPE hOE hownD hgr hB6 HPC HOC SRC KS;go_simp;refine hK1.out _ _ ?_;clear hK1 K1 y1 z1
   try simp only [Act.put,sA,sB,sC]
   go_wp2;go_roundw
   case rel=>exact ⟨k - 1,_,l ++ [(x:Int)],HL2.out,by go_num,HPE.out.mono (by omega),HOE.out,HI2.out⟩
   case measure=>simp [intOf]; omega
  ·have hzi:decide ((0:Int) < (k:Int)) = false:=decide_eq_false (by omega);have HP:=zaa (hP.mono (L:=K + 12) (by omega));have HOW:=zaa hown
   have hnn3:nn ≤ 3:=by omega
   clear hP hown hlk
   go_wp2_with fail
   refine (zap cb (K + 12) 5 _ HP.out.cur (by omega) (by omega)).mono ?_;rintro e w5 ⟨k5,rfl,hk5,hc5,hB5⟩;have HP5:=zaa (HP.out.pick hB5 hc5);have HO5:=zaa (zba HOW.out hB5 fun c hc _=>by have:=HP.out.hcb; have:=HP.out.lt; omega)
   have hk5':k5 < 5:=by omega
   clear hk5 hc5 hB5 HP HOW hzi hz;go_wp2
   go_loopw [5] (fun z wr=>∃ (k:Nat) (y:Value) (ws:List (WayQ × WayD)),ws.length + k ≤ 5 ∧ 1 ≤ ws.length + k ∧ z = .int .i64 (k:Int) ∧ PlB w cb pb (K + 20 + 100 * (5 - k)) (n:Int) (ho:Int) wr (.slice al nn ca) y (.slice none 0 0) ∧ wr.ownsRow (pb + 1) 3 1 (.slice al nn ca) nn (zcg l) ∧ WaysO wr (pb + 1) y ws ∧ ∀ x ∈ ws,WayOk (n:Int) l x.2) (fun z _=>(intOf z).toNat)
   case atStart=>exact ⟨k5 + 1,_,[],by show 0 + (k5 + 1) ≤ 5; omega,by show 1 ≤ 0 + (k5 + 1); omega,by go_num,HP5.out.mono (by omega),HO5.out,⟨World.ownsRow_nil _ _ _ _,fun _ h=>by cases h⟩,fun _ h=>by cases h⟩
   case round=>
    obtain ⟨kw,y,ws,hwk,hwk1,rfl,hP,hown,hys,hwo⟩:=hrel;rename World=>wv;clear HP5 HO5;by_cases hz:0 < kw
    ·have hzi:decide ((0:Int) < (kw:Int)) = true:=decide_eq_true (by omega);have hbn:=zab wv (.cells #[.slice none 0 0,.slice none 0 0,.slice none 0 0,.slice none 0 0,.slice none 0 0] 51);have hrn:(wv.alloc (.cells #[.slice none 0 0,.slice none 0 0,.slice none 0 0,.slice none 0 0,.slice none 0 0] 51)).rowIs wv.heap.size 51 5 (fun i=>(#[.slice none 0 0,.slice none 0 0,.slice none 0 0,.slice none 0 0,.slice none 0 0]:Array Value)[i]!):=zak wv 51 #[.slice none 0 0,.slice none 0 0,.slice none 0 0,.slice none 0 0,.slice none 0 0];have hWy:WyB w wv cb pb wv.heap.size (n:Int) (ho:Int) (.slice al nn ca) y (K + 20 + 100 * (5 - kw)) (wv.alloc (.cells #[.slice none 0 0,.slice none 0 0,.slice none 0 0,.slice none 0 0,.slice none 0 0] 51)) ⟨.slice none 0 0,.slice none 0 0,.slice none 0 0,.slice none 0 0,.slice none 0 0⟩ ⟨[],[],[],[],[]⟩:=⟨hP.far (Q:=fun _=>True) (But.of_calls hbn) fun _ _=>trivial,But.of_calls hbn,hrn,⟨World.ownsRow_nil _ _ _ _,World.ownsRow_nil _ _ _ _,World.ownsRow_nil _ _ _ _,World.ownsRow_nil _ _ _ _,World.ownsRow_nil _ _ _ _⟩,(fun g hg=>by cases hg),rfl,hP.plan.lt⟩;have HWY:=zaa hWy;have HOWV:=zaa hown;have HYS:=zaa hys;have HWO:=zaa hwo;have hcb2:=hP.lt;clear hbn hrn hWy hP hown hys hwo;go_wp2;obtain ⟨W1,hW1⟩:∃ W,W = wv.alloc (.cells #[.slice none 0 0,.slice none 0 0,.slice none 0 0,.slice none 0 0,.slice none 0 0] 51):=⟨_,rfl⟩;rw [← hW1] at HWY ⊢;clear hW1;obtain ⟨wb,hwb⟩:∃ b,b = wv.heap.size:=⟨_,rfl⟩;rw [← hwb] at HWY ⊢
     have HWB:=zaa hwb;clear hwb;obtain ⟨K1,hK1⟩:∃ b,b = K + 20 + 100 * (5 - kw):=⟨_,rfl⟩;rw [← hK1] at HWY
     have hK1':K1 ≤ 2000:=by omega
     have HK1:=zaa hK1;clear hK1
     go_loopw [] (fun wq=>∃ (v0:Value) (l0:List Int) (Kq:Nat),WyB w wv cb pb wb (n:Int) (ho:Int) (.slice al nn ca) y Kq wq ⟨v0,.slice none 0 0,.slice none 0 0,.slice none 0 0,.slice none 0 0⟩ ⟨l0,[],[],[],[]⟩ ∧ (∀ j,j < l0.length → znr (n:Int) l0 j) ∧ l0.length ≤ 4 ∧ (l0 = [] ∧ Kq = K1 ∨ l0 ≠ [] ∧ Kq = K1 + 14)) (fun wq=>1 - zdq wq wb 0)
     case atStart=>exact ⟨_,[],K1,HWY.out,(fun j hj=>absurd hj (by show ¬ j < 0; omega)),by show 0 ≤ 4; omega,.inl ⟨rfl,rfl⟩⟩
     case round=>
      obtain ⟨v0,l0,Kq,hW,hok,hl4,hcase⟩:=hrel;rename World=>wq;clear HWY;obtain ⟨a0,c0,e⟩:=zag hW.way.s0;have e':v0 = .slice a0 l0.length c0:=e;subst e';have q0:wq.cell? ⟨wb,0,none⟩ = some (.slice a0 l0.length c0):=hW.box.cell (i:=0) (by omega);rcases hcase with ⟨rfl,rfl⟩ | ⟨hne,rfl⟩
      ·have hlen0:zdq wq wb 0 = 0:=by unfold zdq; rw [q0]; rfl
       have HLEN:=zaa hlen0;have q0':wq.cell? ⟨wb,0,none⟩ = some (.slice a0 0 c0):=q0;have p0:wq.cell? ⟨pb,0,none⟩ = some (.int .i64 (n:Int)):=hW.pl.plan.cell (i:=0) (by omega);have HW:=zaa hW;clear hlen0 q0 hW hok hl4 e
       go_wp2_with fail
       refine (zet cb Kq n 4 (.slice none 0 0) [] wq HW.out.pl.cur (by omega) (by omega) (by omega) (by omega) ⟨none,0,rfl,.inl rfl⟩ (by show 0 ≤ 1000; omega)).mono ?_;rintro e w6 ⟨v,l6,rfl,hown6,hok6,hlen6,-,hc6,hB6⟩;have HOK6:=zaa hok6;obtain ⟨n6,hn6⟩:∃ m,m = l6.length:=⟨_,rfl⟩;have HN6:=zaa hn6;rw [← hn6] at hown6 hlen6;obtain ⟨a6,c6,rfl⟩:=zag hown6;have hW6:=HW.out.pick hB6 hc6;have hlo6:=zb5 hown6 (b':=wb + 1) HW.out.box.lt;rw [hn6] at hlo6;have hW7:=hW6.put0 hlo6;rw [← hn6] at hW7;have x6:w6.cell? ⟨wb,0,none⟩ = some (.slice a0 0 c0):=hW6.box.cell (i:=0) (by omega);have z6:=hW6.box.frozen 0;have y6:(w6.setCell ⟨wb,0,none⟩ (.slice a6 n6 c6)).cell? ⟨wb,0,none⟩ = some (.slice a6 n6 c6):=hW7.box.cell (i:=0) (by omega)
       have HLN7:Hid (zdq (w6.setCell ⟨wb,0,none⟩ (.slice a6 n6 c6)) wb 0 = n6):=by show zdq _ _ _ = _; unfold zdq; rw [y6]
       have HW7:=zaa hW7;clear hn6 hok6 hown6 hlo6 hW6 hW7 hc6 hB6 q0' HW y6;by_cases h60:n6 = 0
       ·subst h60;have y6:(w6.setCell ⟨wb,0,none⟩ (.slice a6 0 c6)).cell? ⟨wb,0,none⟩ = some (.slice a6 0 c6):=HW7.out.box.cell (i:=0) (by omega);have p6:(w6.setCell ⟨wb,0,none⟩ (.slice a6 0 c6)).cell? ⟨pb,0,none⟩ = some (.int .i64 (n:Int)):=HW7.out.pl.plan.cell (i:=0) (by omega)
        go_upto_region 12 with fail
        obtain ⟨W7,hW7⟩:∃ W,W = w6.setCell ⟨wb,0,none⟩ (.slice a6 0 c6):=⟨_,rfl⟩;rw [← hW7] at HW7 y6 p6 HLN7 ⊢;clear hW7 x6 z6
        go_wp2_with fail
        refine (zap cb _ n W7 HW7.out.pl.cur (by omega) (by omega)).mono ?_;rintro e w8 ⟨x,rfl,hx,hc8,hB8⟩
        have hxn:x < n:=by omega
        have hbn:=zab w8 (.cells #[.int .i64 (x:Int)] 3);have hW9:=(HW7.out.pick hB8 hc8).call hbn;have hlo9:=zb5 (zp1 w8 3 (.int .i64 (x:Int))) (b':=wb + 1) (HW7.out.pick hB8 hc8).box.lt;have hW10:=hW9.put0 (l:=[(x:Int)]) hlo9;have x9:(w8.alloc (.cells #[.int .i64 (x:Int)] 3)).cell? ⟨wb,0,none⟩ = some (.slice a6 0 c6):=hW9.box.cell (i:=0) (by omega);have z9:=hW9.box.frozen 0;have y9:=hW10.box.cell (i:=0) (by omega)
        have HL2:Hid (zdq ((w8.alloc (.cells #[.int .i64 (x:Int)] 3)).setCell ⟨wb,0,none⟩ (.slice (some ⟨w8.heap.size,0,none⟩) 1 1)) wb 0 = 1):=by show zdq _ _ _ = _; unfold zdq; rw [y9]; rfl
        have HW10:=zaa (hW10.mono (L:=Kq + 14) (by omega));have HOKX:Hid (∀ j,j < ([(x:Int)]:List Int).length → znr (n:Int) [(x:Int)] j):=zkl (l:=[]) (fun j hj=>absurd hj (by show ¬ j < 0; omega)) ⟨by omega,by omega⟩ (fun h=>by cases h);clear hx hc8 hB8 hbn hW9 hlo9 hW10 y9 HW7 y6 p6 HLN7 p0;go_wp2;go_roundw
        case rel=>exact ⟨_,[(x:Int)],Kq + 14,HW10.out,HOKX.out,by show 1 ≤ 4; omega,.inr ⟨(fun z=>by cases z),rfl⟩⟩
        case measure=>rw [HL2.out,HLEN.out]; omega
       ·have h60b:((n6:Int) == 0) = false:=by simp; omega
        have y6:(w6.setCell ⟨wb,0,none⟩ (.slice a6 n6 c6)).cell? ⟨wb,0,none⟩ = some (.slice a6 n6 c6):=HW7.out.box.cell (i:=0) (by omega)
        go_upto_region 12 with fail
        obtain ⟨W7,hW7⟩:∃ W,W = w6.setCell ⟨wb,0,none⟩ (.slice a6 n6 c6):=⟨_,rfl⟩;rw [← hW7] at HW7 y6 HLN7 ⊢;clear hW7 x6 z6 p0;go_wp2;go_roundw
        case rel=>exact ⟨_,l6,Kq + 14,HW7.out.mono (by omega),HOK6.out,by have:=HN6.out; omega,.inr ⟨fun z=>h60 (by rw [HN6.out,z]; rfl),rfl⟩⟩
        case measure=>rw [HLN7.out,HLEN.out]; omega
      ·obtain ⟨n0,hn0⟩:∃ m,m = l0.length:=⟨_,rfl⟩
       have hn01:1 ≤ n0:=by
        rcases l0 with _ | ⟨x,l⟩
        ·exact absurd rfl hne
        ·rw [hn0]; show 1 ≤ l.length + 1; omega
       have h0b:((n0:Int) == 0) = false:=by simp; omega
       rw [← hn0] at hW hl4 q0;have p0:wq.cell? ⟨pb,0,none⟩ = some (.int .i64 (n:Int)):=hW.pl.plan.cell (i:=0) (by omega);have HOK:=zaa hok;have HN0:=zaa hn0;have hlw:=hW.lt;have hlc:=hW.pl.hcb;have hnt:Ints (fun b=>b < wq.heap.size ∧ b ≠ cb) wq (.slice a0 n0 c0) l0:=(zb2 hW.way.s0).2.keep (zax _ _) fun b hb=>⟨hb.2,by have:=hb.1; omega⟩;have hsm:=zaa (zet cb (K1 + 14) n 2 (.slice a0 n0 c0) l0 wq hW.pl.cur (by omega) (by omega) (by omega) (by omega) hnt (by omega));have HW:=zaa hW;clear hW hok hnt e hne hn0
       go_wp2_with fail
       refine hsm.out.mono ?_;rintro e w6 ⟨v3,lov,rfl,hown6,hok6,hlen6,hmt6,hc6,hB6⟩;have HOV:=zaa (And.intro hok6 (And.intro hlen6 hmt6));obtain ⟨m3,hm3⟩:∃ m,m = lov.length:=⟨_,rfl⟩;rw [← hm3] at hown6;obtain ⟨a3,c3,rfl⟩:=zag hown6;have hW6:=HW.out.pick hB6 hc6;have hlo6:=zb5 hown6 (b':=wb + 1) HW.out.box.lt;rw [hm3] at hlo6;have hW7:=hW6.put3 hlo6;rw [← hm3] at hW7;have x6:w6.cell? ⟨wb,3,none⟩ = some (.slice none 0 0):=hW6.box.cell (i:=3) (by omega);have z6:=hW6.box.frozen 3;have y6:(w6.setCell ⟨wb,3,none⟩ (.slice a3 m3 c3)).cell? ⟨wb,0,none⟩ = some (.slice a0 n0 c0):=hW7.box.cell (i:=0) (by omega);have p6:(w6.setCell ⟨wb,3,none⟩ (.slice a3 m3 c3)).cell? ⟨pb,0,none⟩ = some (.int .i64 (n:Int)):=hW7.pl.plan.cell (i:=0) (by omega);have hnt:Ints (fun b=>b < (w6.setCell ⟨wb,3,none⟩ (.slice a3 m3 c3)).heap.size ∧ b ≠ cb) (w6.setCell ⟨wb,3,none⟩ (.slice a3 m3 c3)) (.slice a0 n0 c0) l0:=(zb2 hW7.way.s0).2.keep (zax _ _) fun b hb=>⟨hb.2,by have:=hb.1; omega⟩;have hsm7:=zaa (zet cb (K1 + 14 + 2 * 2 + 4) n 2 (.slice a0 n0 c0) l0 (w6.setCell ⟨wb,3,none⟩ (.slice a3 m3 c3)) hW7.pl.cur (by omega) (by omega) (by omega) (by omega) hnt (by have:=HN0.out; omega));have HW7:=zaa hW7;clear hm3 hown6 hok6 hlen6 hmt6 hc6 hB6 hW6 hlo6 hW7 hnt HW hsm q0
       go_upto_region 15 with fail
       obtain ⟨W7,hW7⟩:∃ W,W = w6.setCell ⟨wb,3,none⟩ (.slice a3 m3 c3):=⟨_,rfl⟩;rw [← hW7] at HW7 y6 p6 hsm7 ⊢;clear hW7 x6 z6
       go_wp2_with fail
       refine hsm7.out.mono ?_;rintro e w8 ⟨v4,lnr,rfl,hown8,hok8,hlen8,hmt8,hc8,hB8⟩;have HNR:=zaa (And.intro hok8 hlen8);obtain ⟨m4,hm4⟩:∃ m,m = lnr.length:=⟨_,rfl⟩;rw [← hm4] at hown8;obtain ⟨a4,c4,rfl⟩:=zag hown8;have hW8:=HW7.out.pick hB8 hc8;have hlo8:=zb5 hown8 (b':=wb + 1) HW7.out.box.lt;rw [hm4] at hlo8;have hW9:=(hW8.put4 hlo8).mono (L:=K1 + 30) (by omega);rw [← hm4] at hW9;have x8:w8.cell? ⟨wb,4,none⟩ = some (.slice none 0 0):=hW8.box.cell (i:=4) (by omega);have z8:=hW8.box.frozen 4;have p8:(w8.setCell ⟨wb,4,none⟩ (.slice a4 m4 c4)).cell? ⟨pb,1,none⟩ = some (.slice al nn ca):=hW9.pl.plan.cell (i:=1) (by omega);have HW9:=zaa hW9;clear hm4 hown8 hok8 hlen8 hmt8 hc8 hB8 hW8 hlo8 hW9 HW7 hsm7 y6 p6 p0
       go_upto_region 16 with fail
       obtain ⟨W9,hW9⟩:∃ W,W = w8.setCell ⟨wb,4,none⟩ (.slice a4 m4 c4):=⟨_,rfl⟩;rw [← hW9] at HW9 p8 ⊢;clear hW9 x8 z8;go_wp2
       go_loopw [77] (fun z wx=>∃ (i:Nat) (v1 v2:Value) (li fl:List (Int × Int)),i ≤ nn ∧ z = .int .i64 (i:Int) ∧ WyB w wv cb pb wb (n:Int) (ho:Int) (.slice al nn ca) y (K1 + 30 + 4 * i) wx ⟨.slice a0 n0 c0,v1,v2,.slice a3 m3 c3,.slice a4 m4 c4⟩ ⟨l0,li,fl,lov,lnr⟩ ∧ (∀ j,j < li.length → zhr i li j) ∧ (∀ j,j < fl.length → zhr i fl j) ∧ li.length ≤ i ∧ fl.length ≤ i ∧ (∀ x ∈ li,∃ s,l[x.1.toNat]? = some s ∧ s ∈ l0) ∧ ∀ x ∈ fl,∃ s,l[x.1.toNat]? = some s ∧ ¬ s ∈ l0) (fun z _=>nn - (intOf z).toNat)
       case atStart=>exact ⟨0,_,_,[],[],by omega,rfl,HW9.out,(fun j hj=>absurd hj (by show ¬ j < 0; omega)),(fun j hj=>absurd hj (by show ¬ j < 0; omega)),Nat.le_refl _,Nat.le_refl _,(fun x h=>by cases h),fun x h=>by cases h⟩
       case round=>
        obtain ⟨i,v1,v2,li,fl,hi,rfl,hW,hol,hof,hll,hlf,hml,hmf⟩:=hrel;rename World=>wx;clear HW9 p8;by_cases hlt:i < nn
        ·have hlti:decide ((i:Int) < (nn:Int)) = true:=decide_eq_true (by omega)
         have hnl:0 < nn:=by omega
         obtain ⟨g,ca2,e,hg,-,hgc⟩:=zc6 HOWV.out hnl
         cases e
         obtain ⟨sx,hsx⟩:=zac l (zaa HNN.out.symm) hlt;have x0:wx.cell? ⟨g,i,none⟩ = some (.int .i64 sx):=hW.kp.cell (hgc i _ (by show (zcg l)[i]? = _; unfold zcg; rw [List.getElem?_map,hsx]; rfl)) (show pb < g by omega);have HSX:=zaa hsx;have hbn:=zab wx (.cells #[.int .i64 sx] 3);have hWA:=hW.call hbn;have yA:(wx.alloc (.cells #[.int .i64 sx] 3)).cell? ⟨wb,0,none⟩ = some (.slice a0 n0 c0):=hWA.box.cell (i:=0) (by omega);have HM:=zaa (zbx _ _ [sx] l0 (wx.alloc (.cells #[.int .i64 sx] 3)) (zjf wx sx) ((zb2 hWA.way.s0).2.keep (zax _ _) (Q:=In _) fun b hb=>hb.2) (by show 1 ≤ 1048576; omega) (by have:=HN0.out; omega));have HWA:=zaa hWA;have HOL:=zaa hol;have HOF:=zaa hof;have HML:=zaa hml;have HMF:=zaa hmf;obtain ⟨nl,hnl'⟩:∃ m,m = li.length:=⟨_,rfl⟩;obtain ⟨nf,hnf'⟩:∃ m,m = fl.length:=⟨_,rfl⟩;rw [← hnl'] at hll;rw [← hnf'] at hlf;have HNL:=zaa hnl';have HNF:=zaa hnf';clear hsx hbn hWA hW hol hof hml hmf hnl' hnf' hgc hnl
         go_wp2_with fail
         refine HM.out.mono ?_;rintro e w3 ⟨rfl,hw3⟩;have hw3':=hw3.symm;subst hw3';clear hw3 HM;obtain ⟨wA,hwA⟩:∃ W,W = wx.alloc (.cells #[.int .i64 sx] 3):=⟨_,rfl⟩;rw [← hwA] at HWA yA ⊢;clear hwA x0;by_cases m1:Meet [sx] l0
         ·rw [zam m1];have M1:=zaa m1;clear m1
          go_upto_region 20 with fail
          have hown1:=HWA.out.way.l1;obtain ⟨a1,c1,e⟩:=zag hown1;have e':v1 = .slice a1 li.length c1:=e;rw [show li.length = nl from HNL.out.symm] at e';subst e';clear e hown1;have hks:∀ W K',WyB w wv cb pb wb (n:Int) (ho:Int) (.slice (some ⟨g,0,none⟩) nn ca) y K' W ⟨.slice a0 n0 c0,(.slice a1 nl c1),v2,.slice a3 m3 c3,.slice a4 m4 c4⟩ ⟨l0,li,fl,lov,lnr⟩ → W.cell? ⟨wb,1,none⟩ = some (.slice a1 nl c1):=fun W K' hW=>hW.box.cell (i:=1) (by omega);have KS:=zaa hks;clear hks;refine zct (S:=fun W=>W.cell? ⟨wb,1,none⟩ = some (.slice a1 nl c1)) 10 (by kernel_rfl) (KS.out _ _ (HWA.out.call (zaf _))) (fun hS=>?_);have hPA:=HWA.out.call (zaf wA);obtain ⟨wD,hwD⟩:∃ W,W = wA.drew:=⟨_,rfl⟩;rw [← hwD] at hS hPA ⊢;have HPA:=zaa hPA;clear hwD HWA hPA;refine tkL (v:=?vb0) At.z (by kernel_rfl) (fun _ _ _ h=>h) rfl ?hb0 hS ?_
          case hb0=>intro _ s;(try dsimp only at s);go_simp;try with_reducible rfl
          try simp only [Act.put,sA,sB,sC]
          refine tkL (v:=?vb1) At.z.s (by kernel_rfl) (fun _ _ _ h=>h) rfl ?hb1 hS ?_
          case hb1=>intro _ s;(try dsimp only at s);go_simp;try with_reducible rfl
          try simp only [Act.put,sA,sB,sC]
          refine tkL (v:=?vb2) At.z.s.s (by kernel_rfl) (fun _ _ _ h=>h) rfl ?hb2 hS ?_
          case hb2=>intro _ s;(try dsimp only at s);go_simp;try with_reducible rfl
          try simp only [Act.put,sA,sB,sC]
          refine tkL (v:=?vb3) At.z.s.s.s (by kernel_rfl) (fun _ _ _ h=>h) rfl ?hb3 hS ?_
          case hb3=>intro _ s;(try dsimp only at s);go_simp;try with_reducible rfl
          try simp only [Act.put,sA,sB,sC]
          clear hS;refine zbk (i:=4) At.z.s.s.s.s (by kernel_rfl) (fun K2 hK2=>?_);go_simp;refine (zap cb _ 2 _ HPA.out.pl.cur (by omega) (by omega)).mono ?_;rintro e wB ⟨r,rfl,hr,hcB,hB⟩
          have hr2:r < 2:=by omega
          have hPB:=HPA.out.pick hB hcB;have HPB:=zaa hPB;refine hK2.out _ _ (KS.out _ _ hPB) ?_;have hS:=KS.out _ _ hPB;clear hK2 K2 hr hB hcB hPB HPA
          try simp only [Act.put,sA,sB,sC]
          refine tkL (v:=?vb5) At.z.s.s.s.s.s (by kernel_rfl) (fun _ _ _ h=>h) rfl ?hb5 hS ?_
          case hb5=>intro _ s;(try dsimp only at s);go_simp;try with_reducible rfl
          try simp only [Act.put,sA,sB,sC]
          rw [show IntKind.i64.wrap (1 + (r:Int)) = 1 + (r:Int) from IntWalk.i64_in _ ⟨by omega,by omega⟩];refine tkL (v:=?vb6) At.z.s.s.s.s.s.s (by kernel_rfl) (fun _ _ _ h=>h) rfl ?hb6 hS ?_
          case hb6=>intro _ s;(try dsimp only at s);go_simp;try with_reducible rfl
          try simp only [Act.put,sA,sB,sC]
          clear hS;refine zbk (i:=7) At.z.s.s.s.s.s.s.s (by kernel_rfl) (fun K2 hK2=>?_);go_simp;have hbn:=zab wB (.cells #[.int .i64 (i:Int),.int .i64 (1 + (r:Int))] 58);have hPC:=HPB.out.call hbn;have SRC:=zaa (zhj wB 58 #[.int .i64 (i:Int),.int .i64 (1 + (r:Int))]);have HZ:Hid (wb + 1 ≤ (wB.alloc (.cells #[.int .i64 (i:Int),.int .i64 (1 + (r:Int))] 58)).heap.size):=hPC.box.lt
          have hOC:(wB.alloc (.cells #[.int .i64 (i:Int),.int .i64 (1 + (r:Int))] 58)).ownsRow (wb + 1) 58 2 (.slice a1 nl c1) nl (zau li):=by
           have:=hPC.way.l1;rw [show li.length = nl from HNL.out.symm] at this;exact this
          refine hK2.out _ _ (KS.out _ _ hPC) ?_;have HPC:=zaa hPC;have HOC:=zaa hOC;clear hK2 K2 hbn hPC hOC HPB
          try simp only [Act.put,sA,sB,sC]
          refine zbk (i:=8) At.z.s.s.s.s.s.s.s.s (by kernel_rfl) (fun K2 hK2=>?_);refine zqm _ _ 49 rfl (wb + 1) 58 (.agg #[.int .i64 0,.int .i64 0]) 2 16 Tryz.underlying49 Tryz.infoLie rfl (by decide) (.slice a1 nl c1) nl (zau li) rfl HOC.out ⟨wB.heap.size,0,none⟩ 1 1 [.int .i64 (i:Int),.int .i64 (1 + (r:Int))] rfl rfl SRC.out (zr3 _ _) (by unfold maxLen; omega) (by omega) HZ.out ?_;intro v' wE hownE hgr hfr;obtain ⟨a6,c6,rfl⟩:=zag hownE;have hgE:=HPC.out.grown HOC.out hgr;have hWF:=HPC.out.lie (x:=((i:Int),1 + (r:Int))) hgr hfr hownE (by rw [show nl = li.length from HNL.out]);have yE:wE.cell? ⟨wb,1,none⟩ = some (.slice a1 nl c1):=hgE.2.2.cell (i:=1) (by omega);have zE:=hgE.2.2.frozen 1;refine hK2.out _ _ yE ?_;have hS:=yE;have HWF:=zaa hWF;clear hK2 K2 hgE hWF hownE hgr hfr HPC HOC SRC KS
          try simp only [Act.put,sA,sB,sC]
          refine tkL (v:=?vb9) At.z.s.s.s.s.s.s.s.s.s (by kernel_rfl) (fun _ _ _ h=>h) rfl ?hb9 hS ?_
          case hb9=>intro _ s;(try dsimp only at s);go_simp;try with_reducible rfl
          try simp only [Act.put,sA,sB,sC]
          clear hS;refine zf1 At.z.s.s.s.s.s.s.s.s.s.s (by kernel_rfl) (by kernel_rfl) (fun K2 hK2=>?_);go_simp;refine hK2.out _ _ ?_;clear hK2 K2 yE zE
          try simp only [Act.put,sA,sB,sC]
          have HFA:=zaa (zif HOL.out (x:=1 + (r:Int)) ⟨by omega,by omega⟩)
          have HFB:Hid (∀ z ∈ li ++ [((i:Int),1 + (r:Int))],∃ s,l[z.1.toNat]? = some s ∧ s ∈ l0):=fun z hz=>by
           rcases List.mem_append.1 hz with h | h
           ·exact HML.out z h
           ·rw [List.mem_singleton.1 h]; exact ⟨sx,HSX.out,zji.1 M1.out⟩
          have HFC:Hid ((li ++ [((i:Int),1 + (r:Int))]).length ≤ i + 1):=by show (li ++ [((i:Int),1 + (r:Int))]).length ≤ i + 1; have:=HNL.out; simp; omega
          go_wp2;go_roundw
          case rel=>exact ⟨i + 1,_,_,li ++ [((i:Int),1 + (r:Int))],fl,by omega,by go_num,HWF.out.mono (by omega),HFA.out,zei HOF.out,HFC.out,by have:=HNF.out; omega,HFB.out,HMF.out⟩
          case measure=>simp [intOf]; omega
         ·rw [zae m1];have M1:=zaa m1;clear m1
          go_wp2_with fail
          refine (zap cb _ 3 _ HWA.out.pl.cur (by omega) (by omega)).mono ?_;rintro e wG ⟨r3,rfl,hr3,hc3,hB3⟩;have hWG:=HWA.out.pick hB3 hc3;have HWG:=zaa hWG;clear hr3 hc3 hB3 hWG HWA yA;by_cases h30:r3 = 0
          ·subst h30;have HWA:=HWG
           go_upto_region 22 with fail
           clear HWG;have hown1:=HWA.out.way.l2;obtain ⟨a1,c1,e⟩:=zag hown1;have e':v2 = .slice a1 fl.length c1:=e;rw [show fl.length = nf from HNF.out.symm] at e';subst e';clear e hown1;have hks:∀ W K',WyB w wv cb pb wb (n:Int) (ho:Int) (.slice (some ⟨g,0,none⟩) nn ca) y K' W ⟨.slice a0 n0 c0,v1,(.slice a1 nf c1),.slice a3 m3 c3,.slice a4 m4 c4⟩ ⟨l0,li,fl,lov,lnr⟩ → W.cell? ⟨wb,2,none⟩ = some (.slice a1 nf c1):=fun W K' hW=>hW.box.cell (i:=2) (by omega);have KS:=zaa hks;clear hks;refine zct (S:=fun W=>W.cell? ⟨wb,2,none⟩ = some (.slice a1 nf c1)) 10 (by kernel_rfl) (KS.out _ _ (HWA.out.call (zaf _))) (fun hS=>?_);have hPA:=HWA.out.call (zaf wG);obtain ⟨wD,hwD⟩:∃ W,W = wG.drew:=⟨_,rfl⟩;rw [← hwD] at hS hPA ⊢;have HPA:=zaa hPA;clear hwD HWA hPA;refine tkL (v:=?vc0) At.z (by kernel_rfl) (fun _ _ _ h=>h) rfl ?hc0 hS ?_
           case hc0=>intro _ s;(try dsimp only at s);go_simp;try with_reducible rfl
           try simp only [Act.put,sA,sB,sC]
           refine tkL (v:=?vc1) At.z.s (by kernel_rfl) (fun _ _ _ h=>h) rfl ?hc1 hS ?_
           case hc1=>intro _ s;(try dsimp only at s);go_simp;try with_reducible rfl
           try simp only [Act.put,sA,sB,sC]
           refine tkL (v:=?vc2) At.z.s.s (by kernel_rfl) (fun _ _ _ h=>h) rfl ?hc2 hS ?_
           case hc2=>intro _ s;(try dsimp only at s);go_simp;try with_reducible rfl
           try simp only [Act.put,sA,sB,sC]
           refine tkL (v:=?vc3) At.z.s.s.s (by kernel_rfl) (fun _ _ _ h=>h) rfl ?hc3 hS ?_
           case hc3=>intro _ s;(try dsimp only at s);go_simp;try with_reducible rfl
           try simp only [Act.put,sA,sB,sC]
           clear hS;refine zbk (i:=4) At.z.s.s.s.s (by kernel_rfl) (fun K2 hK2=>?_);go_simp;refine (zap cb _ 2 _ HPA.out.pl.cur (by omega) (by omega)).mono ?_;rintro e wB ⟨r,rfl,hr,hcB,hB⟩
           have hr2:r < 2:=by omega
           have hPB:=HPA.out.pick hB hcB;have HPB:=zaa hPB;refine hK2.out _ _ (KS.out _ _ hPB) ?_;have hS:=KS.out _ _ hPB;clear hK2 K2 hr hB hcB hPB HPA
           try simp only [Act.put,sA,sB,sC]
           refine tkL (v:=?vc5) At.z.s.s.s.s.s (by kernel_rfl) (fun _ _ _ h=>h) rfl ?hc5 hS ?_
           case hc5=>intro _ s;(try dsimp only at s);go_simp;try with_reducible rfl
           try simp only [Act.put,sA,sB,sC]
           rw [show IntKind.i64.wrap (1 + (r:Int)) = 1 + (r:Int) from IntWalk.i64_in _ ⟨by omega,by omega⟩];refine tkL (v:=?vc6) At.z.s.s.s.s.s.s (by kernel_rfl) (fun _ _ _ h=>h) rfl ?hc6 hS ?_
           case hc6=>intro _ s;(try dsimp only at s);go_simp;try with_reducible rfl
           try simp only [Act.put,sA,sB,sC]
           clear hS;refine zbk (i:=7) At.z.s.s.s.s.s.s.s (by kernel_rfl) (fun K2 hK2=>?_);go_simp;have hbn:=zab wB (.cells #[.int .i64 (i:Int),.int .i64 (1 + (r:Int))] 58);have hPC:=HPB.out.call hbn;have SRC:=zaa (zhj wB 58 #[.int .i64 (i:Int),.int .i64 (1 + (r:Int))]);have HZ:Hid (wb + 1 ≤ (wB.alloc (.cells #[.int .i64 (i:Int),.int .i64 (1 + (r:Int))] 58)).heap.size):=hPC.box.lt
           have hOC:(wB.alloc (.cells #[.int .i64 (i:Int),.int .i64 (1 + (r:Int))] 58)).ownsRow (wb + 1) 58 2 (.slice a1 nf c1) nf (zau fl):=by
            have:=hPC.way.l2;rw [show fl.length = nf from HNF.out.symm] at this;exact this
           refine hK2.out _ _ (KS.out _ _ hPC) ?_;have HPC:=zaa hPC;have HOC:=zaa hOC;clear hK2 K2 hbn hPC hOC HPB
           try simp only [Act.put,sA,sB,sC]
           refine zbk (i:=8) At.z.s.s.s.s.s.s.s.s (by kernel_rfl) (fun K2 hK2=>?_);refine zqm _ _ 49 rfl (wb + 1) 58 (.agg #[.int .i64 0,.int .i64 0]) 2 16 Tryz.underlying49 Tryz.infoLie rfl (by decide) (.slice a1 nf c1) nf (zau fl) rfl HOC.out ⟨wB.heap.size,0,none⟩ 1 1 [.int .i64 (i:Int),.int .i64 (1 + (r:Int))] rfl rfl SRC.out (zr3 _ _) (by unfold maxLen; omega) (by omega) HZ.out ?_;intro v' wE hownE hgr hfr;obtain ⟨a6,c6,rfl⟩:=zag hownE;have hgE:=HPC.out.grown HOC.out hgr;have hWF:=HPC.out.flank (x:=((i:Int),1 + (r:Int))) hgr hfr hownE (by rw [show nf = fl.length from HNF.out]);have yE:wE.cell? ⟨wb,2,none⟩ = some (.slice a1 nf c1):=hgE.2.2.cell (i:=2) (by omega);have zE:=hgE.2.2.frozen 2;refine hK2.out _ _ yE ?_;have hS:=yE;have HWF:=zaa hWF;clear hK2 K2 hgE hWF hownE hgr hfr HPC HOC SRC KS
           try simp only [Act.put,sA,sB,sC]
           refine tkL (v:=?vc9) At.z.s.s.s.s.s.s.s.s.s (by kernel_rfl) (fun _ _ _ h=>h) rfl ?hc9 hS ?_
           case hc9=>intro _ s;(try dsimp only at s);go_simp;try with_reducible rfl
           try simp only [Act.put,sA,sB,sC]
           clear hS;refine zf1 At.z.s.s.s.s.s.s.s.s.s.s (by kernel_rfl) (by kernel_rfl) (fun K2 hK2=>?_);go_simp;refine hK2.out _ _ ?_;clear hK2 K2 yE zE
           try simp only [Act.put,sA,sB,sC]
           have HFA:=zaa (zif HOF.out (x:=1 + (r:Int)) ⟨by omega,by omega⟩)
           have HFB:Hid (∀ z ∈ fl ++ [((i:Int),1 + (r:Int))],∃ s,l[z.1.toNat]? = some s ∧ ¬ s ∈ l0):=fun z hz=>by
            rcases List.mem_append.1 hz with h | h
            ·exact HMF.out z h
            ·rw [List.mem_singleton.1 h]; exact ⟨sx,HSX.out,fun z=>M1.out (zji.2 z)⟩
           have HFC:Hid ((fl ++ [((i:Int),1 + (r:Int))]).length ≤ i + 1):=by show (fl ++ [((i:Int),1 + (r:Int))]).length ≤ i + 1; have:=HNF.out; simp; omega
           go_wp2;go_roundw
           case rel=>exact ⟨i + 1,_,_,li,fl ++ [((i:Int),1 + (r:Int))],by omega,by go_num,HWF.out.mono (by omega),zei HOL.out,HFA.out,by have:=HNL.out; omega,HFC.out,HML.out,HFB.out⟩
           case measure=>simp [intOf]; omega
          ·have h30b:((r3:Int) == 0) = false:=by simp; omega
           go_wp2;go_roundw
           case rel=>exact ⟨i + 1,_,_,li,fl,by omega,by go_num,HWG.out.mono (by omega),zei HOL.out,zei HOF.out,by have:=HNL.out; omega,by have:=HNF.out; omega,HML.out,HMF.out⟩
           case measure=>simp [intOf]; omega
        ·have hin:i = nn:=by omega
         subst hin;obtain ⟨n1,hn1⟩:∃ m,m = li.length:=⟨_,rfl⟩;obtain ⟨n2,hn2'⟩:∃ m,m = fl.length:=⟨_,rfl⟩;obtain ⟨nw,hnw⟩:∃ m,m = ws.length:=⟨_,rfl⟩;obtain ⟨a1,c1,e⟩:=zag hW.way.l1;have e':v1 = .slice a1 li.length c1:=e;rw [← hn1] at e';subst e';obtain ⟨a2,c2,e2⟩:=zag hW.way.l2;have e':v2 = .slice a2 fl.length c2:=e2;rw [← hn2'] at e';subst e';obtain ⟨ay,cy,e3⟩:=zag HYS.out.own;rw [← hnw] at e3;subst e3;have HOKW:Hid (WayOk (n:Int) l ⟨l0,li,fl,lov,lnr⟩):=zrs (by have:=HN0.out; omega) HOK.out (by have:=HN0.out; omega) HOV.out HNR.out (by have:=HNN.out; omega) (by rw [← HNN.out]; exact hol) (by rw [← HNN.out]; exact hof) (by have:=HNN.out; omega) (by have:=HNN.out; omega) hml hmf;have q0:wx.cell? ⟨wb,0,none⟩ = some (.slice a0 n0 c0):=hW.box.cell (i:=0) (by omega);have q1:wx.cell? ⟨wb,1,none⟩ = some (.slice a1 n1 c1):=hW.box.cell (i:=1) (by omega);have q2:wx.cell? ⟨wb,2,none⟩ = some (.slice a2 n2 c2):=hW.box.cell (i:=2) (by omega);have q3:wx.cell? ⟨wb,3,none⟩ = some (.slice a3 m3 c3):=hW.box.cell (i:=3) (by omega);have q4:wx.cell? ⟨wb,4,none⟩ = some (.slice a4 m4 c4):=hW.box.cell (i:=4) (by omega);have p2:wx.cell? ⟨pb,2,none⟩ = some (.slice ay nw cy):=hW.pl.plan.cell (i:=2) (by omega);have hbn:=zab wx (.cells #[.slice a0 n0 c0,.slice a1 n1 c1,.slice a2 n2 c2,.slice a3 m3 c3,.slice a4 m4 c4] 51);have hWA:=hW.call hbn
         have hwsA:=HYS.out.far hWA.kp fun c hc _=>by omega
         have SRC:=zaa (zhj wx 51 #[.slice a0 n0 c0,.slice a1 n1 c1,.slice a2 n2 c2,.slice a3 m3 c3,.slice a4 m4 c4]);have HZ:Hid (pb + 1 ≤ (wx.alloc (.cells #[.slice a0 n0 c0,.slice a1 n1 c1,.slice a2 n2 c2,.slice a3 m3 c3,.slice a4 m4 c4] 51)).heap.size):=hWA.pl.plan.lt;have OWY:=zaa hwsA.own;rw [← hnw] at OWY;have HNW:=zaa hnw
         have hnw5:nw ≤ 4:=by omega
         have HM7:Hid (nw + 1 ≤ maxLen):=by show nw + 1 ≤ maxLen; unfold maxLen; omega
         have HM8:Hid ((nw + 1) * 120 ≤ 140737488355328):=by show (nw + 1) * 120 ≤ 140737488355328; omega
         have ONE:=zaa (zr5 (.slice a0 n0 c0) (.slice a1 n1 c1) (.slice a2 n2 c2) (.slice a3 m3 c3) (.slice a4 m4 c4) rfl rfl rfl rfl rfl);have SR2:Hid (1 = 0 ∨ ∃ A,(some (⟨wx.heap.size,0,none⟩:Addr)) = some A ∧ ∀ j u,([.slice a0 n0 c0,.slice a1 n1 c1,.slice a2 n2 c2,.slice a3 m3 c3,.slice a4 m4 c4]:List Value)[j]? = some u → (wx.alloc (.cells #[.slice a0 n0 c0,.slice a1 n1 c1,.slice a2 n2 c2,.slice a3 m3 c3,.slice a4 m4 c4] 51)).cell? (A.add j) = some u):=.inr ⟨_,rfl,SRC.out⟩;obtain ⟨xs,hxs⟩:∃ xs,xs = zdj ws:=⟨_,rfl⟩;have HXS:=zaa hxs;rw [← hxs] at OWY;have HWA:=zaa hWA;clear hW hol hof hll hlf hml hmf hn1 hn2' hnw e e2 hbn hWA hwsA hxs SRC hlt HOV HNR
         go_wp2_with (at_builtin; refine zai rfl _ _ 24 rfl (pb + 1) 51 (.agg #[.slice none 0 0,.slice none 0 0,.slice none 0 0,.slice none 0 0,.slice none 0 0]) 5 120 Tryz.underlying24 zpu rfl (by decide) (.slice ay nw cy) nw xs rfl OWY.out (some ⟨wx.heap.size,0,none⟩) 1 1 [.slice a0 n0 c0,.slice a1 n1 c1,.slice a2 n2 c2,.slice a3 m3 c3,.slice a4 m4 c4] rfl rfl SR2.out ONE.out HM7.out HM8.out HZ.out ?_)
         intro u5 w9 hown9 hgr9;obtain ⟨a9,c9,rfl⟩:=zag hown9;rw [HXS.out] at hown9;obtain ⟨d1,d2,d3,d4⟩:=HWA.out.done HOWV.out HYS.out hgr9 hown9 (by rw [HNW.out]);have y9:w9.cell? ⟨pb,2,none⟩ = some (.slice ay nw cy):=d1.plan.cell (i:=2) (by omega);have z9:=d1.plan.frozen 2;have HD2:=zaa (d2.mono (L:=K + 20 + 100 * (5 - (kw - 1))) (by have:=HK1.out; omega));have HD3:=zaa d3;have HD4:=zaa d4
         have HD5:Hid (∀ z ∈ ws ++ [((⟨.slice a0 n0 c0,.slice a1 n1 c1,.slice a2 n2 c2,.slice a3 m3 c3,.slice a4 m4 c4⟩:WayQ),(⟨l0,li,fl,lov,lnr⟩:WayD))],WayOk (n:Int) l z.2):=fun z hz=>by
          rcases List.mem_append.1 hz with h | h
          ·exact HWO.out z h
          ·rw [List.mem_singleton.1 h]; exact HOKW.out
         clear d1 d2 d3 d4 hown9 hgr9 OWY SR2 ONE HWA q0 q1 q2 q3 q4 p2;go_wp2;go_roundw
         case rel=>exact ⟨kw - 1,_,_,by have:=HNW.out; rw [List.length_append,List.length_singleton]; omega,by rw [List.length_append,List.length_singleton]; omega,by go_num,HD2.out,HD3.out,HD4.out,HD5.out⟩
         case measure=>simp [intOf]; omega
    ·have hzi:decide ((0:Int) < (kw:Int)) = false:=decide_eq_false (by omega);obtain ⟨nw,hnw⟩:∃ m,m = ws.length:=⟨_,rfl⟩
     have hnw5:nw ≤ 5:=by omega
     have hnw1:1 ≤ nw:=by omega
     obtain ⟨gy,cy,e,hgy,-,hgc⟩:=zc6 hys.own (by omega);rw [← hnw] at e;subst e;have HKC:Hid (∀ i x,ws[i]? = some x → wv.cell? ⟨gy,i * 5,none⟩ = some x.1.v0):=fun i x hx=>hgc _ _ (zfq ws i x hx).1;have HP:=zaa (hP.mono (L:=K + 600) (by omega));have HSW:=zaa hown;have HYS:=zaa hys;have HWO:=zaa hwo;have HNW:=zaa hnw;have p2:wv.cell? ⟨pb,2,none⟩ = some (.slice (some ⟨gy,0,none⟩) nw cy):=hP.plan.cell (i:=2) (by omega);have hpv:pb < wv.heap.size:=hP.plan.lt;clear hP hown hys hwo hnw hgc hwk hwk1;go_wp2
     go_loopw [120] (fun z wr=>∃ (i:Nat) (b:Value) (rs:List (Value × List Bool)),i ≤ nw ∧ z = .int .i64 (i:Int) ∧ rs.length = i ∧ PlB w cb pb (K + 600 + 10 * i) (n:Int) (ho:Int) wr (.slice al nn ca) (.slice (some ⟨gy,0,none⟩) nw cy) b ∧ But (fun c=>pb < c) wv wr ∧ RowsO wr wv.heap.size b rs ∧ BarsOk (ws.map Prod.snd) (rs.map Prod.snd)) (fun z _=>nw - (intOf z).toNat)
     case atStart=>exact ⟨0,_,[],by omega,rfl,rfl,HP.out,But.refl _ _,⟨World.ownsRow_nil _ _ _ _,fun _ h=>by cases h⟩,fun i r h=>by cases h⟩
     case round=>
      obtain ⟨i,b,rs,hi,rfl,hri,hP,hkv,hrs,hbo⟩:=hrel;rename World=>wr5;clear HP p2;obtain ⟨ab,cbb,e⟩:=zag hrs.own;rw [hri] at e;subst e;have HRI:=zaa hri;by_cases hlt:i < nw
      ·have hlti:decide ((i:Int) < (nw:Int)) = true:=decide_eq_true (by omega);have hmk:=run_make_row' (P:=Tryz.prog) 36 4 (.bool false) 1 Tryz.underlying36 Tryz.infoBool rfl .i64 .i64 nw (by omega) (by omega);have p2:wr5.cell? ⟨pb,2,none⟩ = some (.slice (some ⟨gy,0,none⟩) nw cy):=hP.plan.cell (i:=2) (by omega);have hbn:=zab wr5 (.cells (madeCells #[.bool false] nw) 4);have hR0:RwB w wr5 cb pb wr5.heap.size (n:Int) (ho:Int) (.slice al nn ca) (.slice (some ⟨gy,0,none⟩) nw cy) (.slice ab i cbb) nw (K + 600 + 10 * i) (wr5.alloc (.cells (madeCells #[.bool false] nw) 4)) (fun _=>false):=⟨hP.far (Q:=fun _=>True) (But.of_calls hbn) fun _ _=>trivial,But.of_calls hbn,World.rowIs_made wr5 _ nw _,rfl,hP.plan.lt⟩;have p2':(wr5.alloc (.cells (madeCells #[.bool false] nw) 4)).cell? ⟨pb,2,none⟩ = some (.slice (some ⟨gy,0,none⟩) nw cy):=hR0.pl.plan.cell (i:=2) (by omega);have HR0:=zaa hR0;have HKV:=zaa hkv;have HRS:=zaa hrs;have HBO:=zaa hbo;have hvs:wv.heap.size ≤ wr5.heap.size:=hkv.size;clear hbn hR0 hP hkv hrs hbo hri;go_wp2;obtain ⟨W6,hW6⟩:∃ W,W = wr5.alloc (.cells (madeCells #[.bool false] nw) 4):=⟨_,rfl⟩;rw [← hW6] at HR0 ⊢;obtain ⟨rb,hrb⟩:∃ r,r = wr5.heap.size:=⟨_,rfl⟩;rw [← hrb] at HR0 hvs ⊢;have HRB:=zaa hrb;clear hW6 hrb hmk p2 p2'
       go_loopw [130] (fun z wq=>∃ (k:Nat) (f:Nat → Bool),k ≤ nw ∧ z = .int .i64 (k:Int) ∧ RwB w wr5 cb pb rb (n:Int) (ho:Int) (.slice al nn ca) (.slice (some ⟨gy,0,none⟩) nw cy) (.slice ab i cbb) nw (K + 600 + 10 * i + 2 * k) wq f ∧ ∀ j,j < k → (j < i → ((rs.map Prod.snd)[j]?).bind (fun x=>x[i]?) = some (f j)) ∧ (i ≤ j → ∀ x y,(ws.map Prod.snd)[i]? = some x → (ws.map Prod.snd)[j]? = some y → Meet x.sections y.sections → f j = true)) (fun z _=>nw - (intOf z).toNat)
       case atStart=>exact ⟨0,_,by omega,rfl,HR0.out,fun j hj=>absurd hj (by omega)⟩
       case round=>
        obtain ⟨k,f,hk,rfl,hR,hf⟩:=hrel;rename World=>wq;clear HR0;have HF:=zaa hf;clear hf;by_cases hltk:k < nw
        ·have hltki:decide ((k:Int) < (nw:Int)) = true:=decide_eq_true (by omega)
         have hput:∀ (W:World) (v:Bool) (K':Nat),K' ≤ K + 600 + 10 * i + 2 * k + 2 → RwB w wr5 cb pb rb (n:Int) (ho:Int) (.slice al nn ca) (.slice (some ⟨gy,0,none⟩) nw cy) (.slice ab i cbb) nw K' W f → ((k < i → ((rs.map Prod.snd)[k]?).bind (fun x=>x[i]?) = some v) ∧ (i ≤ k → ∀ x y,(ws.map Prod.snd)[i]? = some x → (ws.map Prod.snd)[k]? = some y → Meet x.sections y.sections → v = true)) → RwB w wr5 cb pb rb (n:Int) (ho:Int) (.slice al nn ca) (.slice (some ⟨gy,0,none⟩) nw cy) (.slice ab i cbb) nw (K + 600 + 10 * i + 2 * (k + 1)) (W.setCell ⟨rb,k,none⟩ (.bool v)) (fun j=>if j = k then v else f j) ∧ ∀ j,j < k + 1 → (j < i → ((rs.map Prod.snd)[j]?).bind (fun x=>x[i]?) = some (if j = k then v else f j)) ∧ (i ≤ j → ∀ x y,(ws.map Prod.snd)[i]? = some x → (ws.map Prod.snd)[j]? = some y → Meet x.sections y.sections → (if j = k then v else f j) = true):=fun W v K' hK' hW hv=>⟨(hW.put k v).mono (by omega),fun j hj=>by
          by_cases e:j = k
          ·subst e;rw [if_pos rfl];exact hv
          ·rw [if_neg e]
           exact HF.out j (by omega)⟩
         have HPUT:=zaa hput;clear hput;have r0:=hR.row.cell (i:=k) hltk;have z0:=hR.row.frozen k;by_cases hki:k < i
         ·have hkib:decide ((k:Int) < (i:Int)) = true:=decide_eq_true (by omega);obtain ⟨x,hx⟩:=zac rs HRI hki;have hxl:=(HBO.out k x.2 (by rw [List.getElem?_map,hx]; rfl)).1;rw [List.length_map,← HNW.out] at hxl;obtain ⟨bv,hbv⟩:=zac x.2 (zaa hxl) hlt;obtain ⟨g,cap,g2,cap2,e,hc1,hc2⟩:=(HRS.out.far hR.kp fun c hc _=>by omega).cell hx hbv;rw [HRI.out] at e
          cases e
          rw [hxl] at hc1;have p3:wq.cell? ⟨pb,3,none⟩ = some (.slice (some ⟨g,0,none⟩) i cbb):=hR.pl.plan.cell (i:=3) (by omega)
          have hkii:(k:Int) < (i:Int):=by omega
          have hinn:(i:Int) < (nw:Int):=by omega
          have hknn:(k:Int) < (nw:Int):=by omega
          have FIN:=zaa (HPUT.out wq bv _ (by omega) hR ⟨fun _=>by rw [List.getElem?_map,hx]; exact hbv,fun h=>absurd h (by omega)⟩);clear hR hx hbv HPUT hxl;go_wp2;go_roundw
          case rel=>exact ⟨k + 1,_,by omega,by go_num,FIN.out.1,FIN.out.2⟩
          case measure=>simp [intOf]; omega
         ·have hkib:decide ((k:Int) < (i:Int)) = false:=decide_eq_false (by omega);obtain ⟨xi,hxi⟩:=zac ws (zaa HNW.out.symm) hlt;obtain ⟨xk,hxk⟩:=zac ws (zaa HNW.out.symm) hltk;obtain ⟨ai,ci,ei⟩:=zag (HYS.out.ways xi (List.mem_of_getElem? hxi)).s0;obtain ⟨ak,ck,ek⟩:=zag (HYS.out.ways xk (List.mem_of_getElem? hxk)).s0;have hli:xi.2.sections.length ≤ 30:=(HWO.out xi (List.mem_of_getElem? hxi)).2.1.2;have hlk:xk.2.sections.length ≤ 30:=(HWO.out xk (List.mem_of_getElem? hxk)).2.1.2;have hsi:∀ W,But (fun c=>pb < c) wv W → Ints (In W) W xi.1.v0 xi.2.sections:=fun W hW=>(zb2 ((HYS.out.far hW fun c hc _=>by omega).ways xi (List.mem_of_getElem? hxi)).s0).2.keep (zax _ _) fun b hb=>hb.2;have hsk:∀ W,But (fun c=>pb < c) wv W → Ints (In W) W xk.1.v0 xk.2.sections:=fun W hW=>(zb2 ((HYS.out.far hW fun c hc _=>by omega).ways xk (List.mem_of_getElem? hxk)).s0).2.keep (zax _ _) fun b hb=>hb.2;have hci:=HKC.out i xi hxi;have hck:=HKC.out k xk hxk;obtain ⟨mi,hmi⟩:∃ m,m = xi.2.sections.length:=⟨_,rfl⟩;obtain ⟨mk,hmk⟩:∃ m,m = xk.2.sections.length:=⟨_,rfl⟩;rw [← hmi] at ei;rw [← hmk] at ek;rw [ei] at hci hsi;rw [ek] at hck hsk
          have hknn:(k:Int) < (nw:Int):=by omega
          have hinn:(i:Int) < (nw:Int):=by omega
          have hks:∀ W K',RwB w wr5 cb pb rb (n:Int) (ho:Int) (.slice al nn ca) (.slice (some ⟨gy,0,none⟩) nw cy) (.slice ab i cbb) nw K' W f → W.cell? ⟨pb,2,none⟩ = some (.slice (some ⟨gy,0,none⟩) nw cy) ∧ W.cell? ⟨gy,i * 5,none⟩ = some (.slice ai mi ci) ∧ W.cell? ⟨gy,k * 5,none⟩ = some (.slice ak mk ck):=fun W K' hW=>⟨hW.pl.plan.cell (i:=2) (by omega),(HKV.out.trans hW.kp).cell hci (show pb < gy by omega),(HKV.out.trans hW.kp).cell hck (show pb < gy by omega)⟩;have KS:=zaa hks;have HSI:=zaa hsi;have HSK:=zaa hsk;have HR:=zaa hR;have HXI:=zaa hxi;have HXK:=zaa hxk;have HLI:=zaa hli;have HLK:=zaa hlk;clear hks hsi hsk hR hxi hxk hci hck ei ek hmi hmk hli hlk r0 z0
          go_upto_region 34 with fail
          refine zct (S:=fun W=>W.cell? ⟨pb,2,none⟩ = some (.slice (some ⟨gy,0,none⟩) nw cy) ∧ W.cell? ⟨gy,i * 5,none⟩ = some (.slice ai mi ci) ∧ W.cell? ⟨gy,k * 5,none⟩ = some (.slice ak mk ck)) 26 (by kernel_rfl) (KS.out _ _ (HR.out.call (zaf _))) (fun hS=>?_);have hRD:=HR.out.call (zaf wq);obtain ⟨wD,hwD⟩:∃ W,W = wq.drew:=⟨_,rfl⟩;rw [← hwD] at hS hRD ⊢;have HRD:=zaa hRD;clear hwD HR hRD;by_cases hik:i = k
          ·have hikb:((i:Int) == (k:Int)) = true:=by rw [hik]; simp
           have HIK:=zaa hik;clear hik;refine tkL (v:=?vp0) At.z (by kernel_rfl) (fun _ _ _ h=>h) rfl ?hp0 hS ?_
           case hp0=>intro _ s;(try dsimp only at s);go_simp;try with_reducible rfl
           try simp only [Act.put,sA,sB,sC]
           refine tkL (v:=?vp1) At.z.s (by kernel_rfl) (fun _ _ _ h=>h) rfl ?hp1 hS ?_
           case hp1=>intro _ s;(try dsimp only at s);go_simp;try with_reducible rfl
           try simp only [Act.put,sA,sB,sC]
           refine tkL (v:=?vp2) At.z.s.s (by kernel_rfl) (fun _ _ _ h=>h) rfl ?hp2 hS ?_
           case hp2=>intro _ s;(try dsimp only at s);go_simp;try with_reducible rfl
           try simp only [Act.put,sA,sB,sC]
           refine tkL (v:=?vp3) At.z.s.s.s (by kernel_rfl) (fun _ _ _ h=>h) rfl ?hp3 hS ?_
           case hp3=>intro _ s;(try dsimp only at s);go_simp;try with_reducible rfl
           try simp only [Act.put,sA,sB,sC]
           refine tkL (v:=?vp4) At.z.s.s.s.s (by kernel_rfl) (fun _ _ _ h=>h) rfl ?hp4 hS ?_
           case hp4=>intro _ s;(try dsimp only at s);go_simp;try with_reducible rfl
           try simp only [Act.put,sA,sB,sC]
           refine tkL (v:=?vp5) At.z.s.s.s.s.s (by kernel_rfl) (fun _ _ _ h=>h) rfl ?hp5 hS ?_
           case hp5=>intro _ s;(try dsimp only at s);go_simp;try with_reducible rfl
           try simp only [Act.put,sA,sB,sC]
           refine tkN At.z.s.s.s.s.s.s (by kernel_rfl) (fun _ _ _ h=>h) (by kernel_rfl) hS ?_
           try simp only [Act.put,sA,sB,sC]
           refine tkN At.z.s.s.s.s.s.s.s (by kernel_rfl) (fun _ _ _ h=>h) (by kernel_rfl) hS ?_
           try simp only [Act.put,sA,sB,sC]
           refine tkN At.z.s.s.s.s.s.s.s.s (by kernel_rfl) (fun _ _ _ h=>h) (by kernel_rfl) hS ?_
           try simp only [Act.put,sA,sB,sC]
           refine tkN At.z.s.s.s.s.s.s.s.s.s (by kernel_rfl) (fun _ _ _ h=>h) (by kernel_rfl) hS ?_
           try simp only [Act.put,sA,sB,sC]
           refine tkN At.z.s.s.s.s.s.s.s.s.s.s (by kernel_rfl) (fun _ _ _ h=>h) (by kernel_rfl) hS ?_
           try simp only [Act.put,sA,sB,sC]
           refine tkN At.z.s.s.s.s.s.s.s.s.s.s.s (by kernel_rfl) (fun _ _ _ h=>h) (by kernel_rfl) hS ?_
           try simp only [Act.put,sA,sB,sC]
           refine tkN At.z.s.s.s.s.s.s.s.s.s.s.s.s (by kernel_rfl) (fun _ _ _ h=>h) (by kernel_rfl) hS ?_
           try simp only [Act.put,sA,sB,sC]
           refine tkN At.z.s.s.s.s.s.s.s.s.s.s.s.s.s (by kernel_rfl) (fun _ _ _ h=>h) (by kernel_rfl) hS ?_
           try simp only [Act.put,sA,sB,sC]
           refine tkN At.z.s.s.s.s.s.s.s.s.s.s.s.s.s.s (by kernel_rfl) (fun _ _ _ h=>h) (by kernel_rfl) hS ?_
           try simp only [Act.put,sA,sB,sC]
           refine tkN At.z.s.s.s.s.s.s.s.s.s.s.s.s.s.s.s (by kernel_rfl) (fun _ _ _ h=>h) (by kernel_rfl) hS ?_
           try simp only [Act.put,sA,sB,sC]
           refine tkN At.z.s.s.s.s.s.s.s.s.s.s.s.s.s.s.s.s (by kernel_rfl) (fun _ _ _ h=>h) (by kernel_rfl) hS ?_
           try simp only [Act.put,sA,sB,sC]
           refine tkN At.z.s.s.s.s.s.s.s.s.s.s.s.s.s.s.s.s.s (by kernel_rfl) (fun _ _ _ h=>h) (by kernel_rfl) hS ?_
           try simp only [Act.put,sA,sB,sC]
           refine zbk (i:=18) At.z.s.s.s.s.s.s.s.s.s.s.s.s.s.s.s.s.s.s (by kernel_rfl) (fun K2 hK2=>?_);rw [if_neg (by rw [show Region.wanted _ _ = false by kernel_rfl]; decide)];refine hK2.out _ _ hS ?_;clear hK2 K2
           try simp only [Act.put,sA,sB,sC]
           refine tkL (v:=?vp19) At.z.s.s.s.s.s.s.s.s.s.s.s.s.s.s.s.s.s.s.s (by kernel_rfl) (fun _ _ _ h=>h) rfl ?hp19 hS ?_
           case hp19=>intro _ s;(try dsimp only at s);go_simp;try with_reducible rfl
           try simp only [Act.put,sA,sB,sC]
           refine tkL (v:=?vp20) At.z.s.s.s.s.s.s.s.s.s.s.s.s.s.s.s.s.s.s.s.s (by kernel_rfl) (fun _ _ _ h=>h) rfl ?hp20 hS ?_
           case hp20=>intro _ s;(try dsimp only at s);go_simp;try with_reducible rfl
           try simp only [Act.put,sA,sB,sC]
           refine tkN At.z.s.s.s.s.s.s.s.s.s.s.s.s.s.s.s.s.s.s.s.s.s (by kernel_rfl) (fun _ _ _ h=>h) (by kernel_rfl) hS ?_
           try simp only [Act.put,sA,sB,sC]
           refine zbk (i:=22) At.z.s.s.s.s.s.s.s.s.s.s.s.s.s.s.s.s.s.s.s.s.s.s (by kernel_rfl) (fun K2 hK2=>?_);rw [if_neg (by rw [show Region.wanted _ _ = false by kernel_rfl]; decide)];refine hK2.out _ _ hS ?_;clear hK2 K2
           try simp only [Act.put,sA,sB,sC]
           refine tkN At.z.s.s.s.s.s.s.s.s.s.s.s.s.s.s.s.s.s.s.s.s.s.s.s (by kernel_rfl) (fun _ _ _ h=>h) (by kernel_rfl) hS ?_
           try simp only [Act.put,sA,sB,sC]
           refine tkL (v:=?vp24) At.z.s.s.s.s.s.s.s.s.s.s.s.s.s.s.s.s.s.s.s.s.s.s.s.s (by kernel_rfl) (fun _ _ _ h=>h) rfl ?hp24 hS ?_
           case hp24=>intro _ s;(try dsimp only at s);go_simp;try with_reducible rfl
           try simp only [Act.put,sA,sB,sC]
           refine tkL (v:=?vp25) At.z.s.s.s.s.s.s.s.s.s.s.s.s.s.s.s.s.s.s.s.s.s.s.s.s.s (by kernel_rfl) (fun _ _ _ h=>h) rfl ?hp25 hS ?_
           case hp25=>intro _ s;(try dsimp only at s);go_simp;try with_reducible rfl
           try simp only [Act.put,sA,sB,sC]
           clear hS;refine zf1 At.z.s.s.s.s.s.s.s.s.s.s.s.s.s.s.s.s.s.s.s.s.s.s.s.s.s.s (by kernel_rfl) (by kernel_rfl) (fun K2 hK2=>?_);have r1:=HRD.out.row.cell (i:=k) hltk;have z1:=HRD.out.row.frozen k;have FIN:=zaa (HPUT.out wD true _ (by omega) HRD.out ⟨fun h=>absurd h hki,fun _ _ _ _ _ _=>rfl⟩);clear HRD HPUT KS HSI HSK;go_simp;refine hK2.out _ _ ?_;clear hK2 K2 r1 z1
           try simp only [Act.put,sA,sB,sC]
           skip
           go_wp2
           skip
           go_roundw
           skip
           case rel=>exact ⟨k + 1,_,by omega,by go_num,FIN.out.1,FIN.out.2⟩
           case measure=>simp [intOf]; omega
          ·have hikb:((i:Int) == (k:Int)) = false:=by simp; omega
           by_cases hm:Meet xi.2.sections xk.2.sections
           ·skip
            refine tkL (v:=?vq0) At.z (by kernel_rfl) (fun _ _ _ h=>h) rfl ?hq0 hS ?_
            case hq0=>intro _ s;(try dsimp only at s);go_simp;try with_reducible rfl
            try simp only [Act.put,sA,sB,sC]
            refine tkL (v:=?vq1) At.z.s (by kernel_rfl) (fun _ _ _ h=>h) rfl ?hq1 hS ?_
            case hq1=>intro _ s;(try dsimp only at s);go_simp;try with_reducible rfl
            try simp only [Act.put,sA,sB,sC]
            refine tkL (v:=?vq2) At.z.s.s (by kernel_rfl) (fun _ _ _ h=>h) rfl ?hq2 hS ?_
            case hq2=>intro _ s;(try dsimp only at s);go_simp;try with_reducible rfl
            try simp only [Act.put,sA,sB,sC]
            refine tkL (v:=?vq3) At.z.s.s.s (by kernel_rfl) (fun _ _ _ h=>h) rfl ?hq3 hS ?_
            case hq3=>intro _ s;(try dsimp only at s);go_simp;try with_reducible rfl
            try simp only [Act.put,sA,sB,sC]
            refine tkL (v:=?vq4) At.z.s.s.s.s (by kernel_rfl) (fun _ _ _ h=>h) rfl ?hq4 hS ?_
            case hq4=>intro _ s;(try dsimp only at s);go_simp;try with_reducible rfl
            try simp only [Act.put,sA,sB,sC]
            refine tkL (v:=?vq5) At.z.s.s.s.s.s (by kernel_rfl) (fun _ _ _ h=>h) rfl ?hq5 hS ?_
            case hq5=>intro _ s;(try dsimp only at s);go_simp;try with_reducible rfl
            try simp only [Act.put,sA,sB,sC]
            refine tkG (v:=?vq6) At.z.s.s.s.s.s.s (by kernel_rfl) (fun _ _ _ h=>h) (by kernel_rfl) ?hq6 hS ?_
            case hq6=>intro _ s;(try dsimp only at s);go_simp;try with_reducible rfl
            try simp only [Act.put,sA,sB,sC]
            refine tkG (v:=?vq7) At.z.s.s.s.s.s.s.s (by kernel_rfl) (fun _ _ _ h=>h) (by kernel_rfl) ?hq7 hS ?_
            case hq7=>intro _ s;(try dsimp only at s);go_simp;try with_reducible rfl
            try simp only [Act.put,sA,sB,sC]
            refine tkG (v:=?vq8) At.z.s.s.s.s.s.s.s.s (by kernel_rfl) (fun _ _ _ h=>h) (by kernel_rfl) ?hq8 hS ?_
            case hq8=>intro _ s;(try dsimp only at s);go_simp;try with_reducible rfl
            try simp only [Act.put,sA,sB,sC]
            refine tkG (v:=?vq9) At.z.s.s.s.s.s.s.s.s.s (by kernel_rfl) (fun _ _ _ h=>h) (by kernel_rfl) ?hq9 hS ?_
            case hq9=>intro _ s;(try dsimp only at s);go_simp;try with_reducible rfl
            try simp only [Act.put,sA,sB,sC]
            refine tkG (v:=?vq10) At.z.s.s.s.s.s.s.s.s.s.s (by kernel_rfl) (fun _ _ _ h=>h) (by kernel_rfl) ?hq10 hS ?_
            case hq10=>intro _ s;(try dsimp only at s);go_simp;try with_reducible rfl
            try simp only [Act.put,sA,sB,sC]
            refine tkG (v:=?vq11) At.z.s.s.s.s.s.s.s.s.s.s.s (by kernel_rfl) (fun _ _ _ h=>h) (by kernel_rfl) ?hq11 hS ?_
            case hq11=>intro _ s;(try dsimp only at s);go_simp;try with_reducible rfl
            try simp only [Act.put,sA,sB,sC]
            refine tkG (v:=?vq12) At.z.s.s.s.s.s.s.s.s.s.s.s.s (by kernel_rfl) (fun _ _ _ h=>h) (by kernel_rfl) ?hq12 hS ?_
            case hq12=>intro _ s;(try dsimp only at s);go_simp;try with_reducible rfl
            try simp only [Act.put,sA,sB,sC]
            refine tkG (v:=?vq13) At.z.s.s.s.s.s.s.s.s.s.s.s.s.s (by kernel_rfl) (fun _ _ _ h=>h) (by kernel_rfl) ?hq13 hS ?_
            case hq13=>intro _ s;(try dsimp only at s);go_simp;try with_reducible rfl
            try simp only [Act.put,sA,sB,sC]
            refine tkG (v:=?vq14) At.z.s.s.s.s.s.s.s.s.s.s.s.s.s.s (by kernel_rfl) (fun _ _ _ h=>h) (by kernel_rfl) ?hq14 hS ?_
            case hq14=>intro _ s;(try dsimp only at s);go_simp;try with_reducible rfl
            try simp only [Act.put,sA,sB,sC]
            refine tkG (v:=?vq15) At.z.s.s.s.s.s.s.s.s.s.s.s.s.s.s.s (by kernel_rfl) (fun _ _ _ h=>h) (by kernel_rfl) ?hq15 hS ?_
            case hq15=>intro _ s;(try dsimp only at s);go_simp;try with_reducible rfl
            try simp only [Act.put,sA,sB,sC]
            refine tkG (v:=?vq16) At.z.s.s.s.s.s.s.s.s.s.s.s.s.s.s.s.s (by kernel_rfl) (fun _ _ _ h=>h) (by kernel_rfl) ?hq16 hS ?_
            case hq16=>intro _ s;(try dsimp only at s);go_simp;try with_reducible rfl
            try simp only [Act.put,sA,sB,sC]
            refine tkG (v:=?vq17) At.z.s.s.s.s.s.s.s.s.s.s.s.s.s.s.s.s.s (by kernel_rfl) (fun _ _ _ h=>h) (by kernel_rfl) ?hq17 hS ?_
            case hq17=>intro _ s;(try dsimp only at s);go_simp;try with_reducible rfl
            try simp only [Act.put,sA,sB,sC]
            refine zbk (i:=18) At.z.s.s.s.s.s.s.s.s.s.s.s.s.s.s.s.s.s.s (by kernel_rfl) (fun K2 hK2=>?_);rw [if_pos (by kernel_rfl)];go_simp;refine (zbx _ _ xi.2.sections xk.2.sections wD (HSI.out _ (HKV.out.trans HRD.out.kp)) (HSK.out _ (HKV.out.trans HRD.out.kp)) (by have:=HLI.out; omega) (by have:=HLK.out; omega)).mono ?_;rintro e w3 ⟨rfl,hw3⟩;have hw3':=hw3.symm;subst hw3';clear hw3;rw [zam hm];refine hK2.out _ _ hS ?_;clear hK2 K2
            try simp only [Act.put,sA,sB,sC]
            refine tkL (v:=?vq19) At.z.s.s.s.s.s.s.s.s.s.s.s.s.s.s.s.s.s.s.s (by kernel_rfl) (fun _ _ _ h=>h) rfl ?hq19 hS ?_
            case hq19=>intro _ s;(try dsimp only at s);go_simp;try with_reducible rfl
            try simp only [Act.put,sA,sB,sC]
            refine tkL (v:=?vq20) At.z.s.s.s.s.s.s.s.s.s.s.s.s.s.s.s.s.s.s.s.s (by kernel_rfl) (fun _ _ _ h=>h) rfl ?hq20 hS ?_
            case hq20=>intro _ s;(try dsimp only at s);go_simp;try with_reducible rfl
            try simp only [Act.put,sA,sB,sC]
            refine tkN At.z.s.s.s.s.s.s.s.s.s.s.s.s.s.s.s.s.s.s.s.s.s (by kernel_rfl) (fun _ _ _ h=>h) (by kernel_rfl) hS ?_
            try simp only [Act.put,sA,sB,sC]
            refine zbk (i:=22) At.z.s.s.s.s.s.s.s.s.s.s.s.s.s.s.s.s.s.s.s.s.s.s (by kernel_rfl) (fun K2 hK2=>?_);rw [if_neg (by rw [show Region.wanted _ _ = false by kernel_rfl]; decide)];refine hK2.out _ _ hS ?_;clear hK2 K2
            try simp only [Act.put,sA,sB,sC]
            refine tkN At.z.s.s.s.s.s.s.s.s.s.s.s.s.s.s.s.s.s.s.s.s.s.s.s (by kernel_rfl) (fun _ _ _ h=>h) (by kernel_rfl) hS ?_
            try simp only [Act.put,sA,sB,sC]
            refine tkL (v:=?vq24) At.z.s.s.s.s.s.s.s.s.s.s.s.s.s.s.s.s.s.s.s.s.s.s.s.s (by kernel_rfl) (fun _ _ _ h=>h) rfl ?hq24 hS ?_
            case hq24=>intro _ s;(try dsimp only at s);go_simp;try with_reducible rfl
            try simp only [Act.put,sA,sB,sC]
            refine tkL (v:=?vq25) At.z.s.s.s.s.s.s.s.s.s.s.s.s.s.s.s.s.s.s.s.s.s.s.s.s.s (by kernel_rfl) (fun _ _ _ h=>h) rfl ?hq25 hS ?_
            case hq25=>intro _ s;(try dsimp only at s);go_simp;try with_reducible rfl
            try simp only [Act.put,sA,sB,sC]
            clear hS;refine zf1 At.z.s.s.s.s.s.s.s.s.s.s.s.s.s.s.s.s.s.s.s.s.s.s.s.s.s.s (by kernel_rfl) (by kernel_rfl) (fun K2 hK2=>?_);have r1:=HRD.out.row.cell (i:=k) hltk;have z1:=HRD.out.row.frozen k;have FIN:=zaa (HPUT.out wD true _ (by omega) HRD.out ⟨fun h=>absurd h hki,fun _ _ _ _ _ _=>rfl⟩);clear HRD HPUT KS HSI HSK;go_simp;refine hK2.out _ _ ?_;clear hK2 K2 r1 z1
            try simp only [Act.put,sA,sB,sC]
            skip
            go_wp2
            skip
            go_roundw
            skip
            case rel=>exact ⟨k + 1,_,by omega,by go_num,FIN.out.1,FIN.out.2⟩
            case measure=>simp [intOf]; omega
           ·skip
            refine tkL (v:=?vr0) At.z (by kernel_rfl) (fun _ _ _ h=>h) rfl ?hr0 hS ?_
            case hr0=>intro _ s;(try dsimp only at s);go_simp;try with_reducible rfl
            try simp only [Act.put,sA,sB,sC]
            refine tkL (v:=?vr1) At.z.s (by kernel_rfl) (fun _ _ _ h=>h) rfl ?hr1 hS ?_
            case hr1=>intro _ s;(try dsimp only at s);go_simp;try with_reducible rfl
            try simp only [Act.put,sA,sB,sC]
            refine tkL (v:=?vr2) At.z.s.s (by kernel_rfl) (fun _ _ _ h=>h) rfl ?hr2 hS ?_
            case hr2=>intro _ s;(try dsimp only at s);go_simp;try with_reducible rfl
            try simp only [Act.put,sA,sB,sC]
            refine tkL (v:=?vr3) At.z.s.s.s (by kernel_rfl) (fun _ _ _ h=>h) rfl ?hr3 hS ?_
            case hr3=>intro _ s;(try dsimp only at s);go_simp;try with_reducible rfl
            try simp only [Act.put,sA,sB,sC]
            refine tkL (v:=?vr4) At.z.s.s.s.s (by kernel_rfl) (fun _ _ _ h=>h) rfl ?hr4 hS ?_
            case hr4=>intro _ s;(try dsimp only at s);go_simp;try with_reducible rfl
            try simp only [Act.put,sA,sB,sC]
            refine tkL (v:=?vr5) At.z.s.s.s.s.s (by kernel_rfl) (fun _ _ _ h=>h) rfl ?hr5 hS ?_
            case hr5=>intro _ s;(try dsimp only at s);go_simp;try with_reducible rfl
            try simp only [Act.put,sA,sB,sC]
            refine tkG (v:=?vr6) At.z.s.s.s.s.s.s (by kernel_rfl) (fun _ _ _ h=>h) (by kernel_rfl) ?hr6 hS ?_
            case hr6=>intro _ s;(try dsimp only at s);go_simp;try with_reducible rfl
            try simp only [Act.put,sA,sB,sC]
            refine tkG (v:=?vr7) At.z.s.s.s.s.s.s.s (by kernel_rfl) (fun _ _ _ h=>h) (by kernel_rfl) ?hr7 hS ?_
            case hr7=>intro _ s;(try dsimp only at s);go_simp;try with_reducible rfl
            try simp only [Act.put,sA,sB,sC]
            refine tkG (v:=?vr8) At.z.s.s.s.s.s.s.s.s (by kernel_rfl) (fun _ _ _ h=>h) (by kernel_rfl) ?hr8 hS ?_
            case hr8=>intro _ s;(try dsimp only at s);go_simp;try with_reducible rfl
            try simp only [Act.put,sA,sB,sC]
            refine tkG (v:=?vr9) At.z.s.s.s.s.s.s.s.s.s (by kernel_rfl) (fun _ _ _ h=>h) (by kernel_rfl) ?hr9 hS ?_
            case hr9=>intro _ s;(try dsimp only at s);go_simp;try with_reducible rfl
            try simp only [Act.put,sA,sB,sC]
            refine tkG (v:=?vr10) At.z.s.s.s.s.s.s.s.s.s.s (by kernel_rfl) (fun _ _ _ h=>h) (by kernel_rfl) ?hr10 hS ?_
            case hr10=>intro _ s;(try dsimp only at s);go_simp;try with_reducible rfl
            try simp only [Act.put,sA,sB,sC]
            refine tkG (v:=?vr11) At.z.s.s.s.s.s.s.s.s.s.s.s (by kernel_rfl) (fun _ _ _ h=>h) (by kernel_rfl) ?hr11 hS ?_
            case hr11=>intro _ s;(try dsimp only at s);go_simp;try with_reducible rfl
            try simp only [Act.put,sA,sB,sC]
            refine tkG (v:=?vr12) At.z.s.s.s.s.s.s.s.s.s.s.s.s (by kernel_rfl) (fun _ _ _ h=>h) (by kernel_rfl) ?hr12 hS ?_
            case hr12=>intro _ s;(try dsimp only at s);go_simp;try with_reducible rfl
            try simp only [Act.put,sA,sB,sC]
            refine tkG (v:=?vr13) At.z.s.s.s.s.s.s.s.s.s.s.s.s.s (by kernel_rfl) (fun _ _ _ h=>h) (by kernel_rfl) ?hr13 hS ?_
            case hr13=>intro _ s;(try dsimp only at s);go_simp;try with_reducible rfl
            try simp only [Act.put,sA,sB,sC]
            refine tkG (v:=?vr14) At.z.s.s.s.s.s.s.s.s.s.s.s.s.s.s (by kernel_rfl) (fun _ _ _ h=>h) (by kernel_rfl) ?hr14 hS ?_
            case hr14=>intro _ s;(try dsimp only at s);go_simp;try with_reducible rfl
            try simp only [Act.put,sA,sB,sC]
            refine tkG (v:=?vr15) At.z.s.s.s.s.s.s.s.s.s.s.s.s.s.s.s (by kernel_rfl) (fun _ _ _ h=>h) (by kernel_rfl) ?hr15 hS ?_
            case hr15=>intro _ s;(try dsimp only at s);go_simp;try with_reducible rfl
            try simp only [Act.put,sA,sB,sC]
            refine tkG (v:=?vr16) At.z.s.s.s.s.s.s.s.s.s.s.s.s.s.s.s.s (by kernel_rfl) (fun _ _ _ h=>h) (by kernel_rfl) ?hr16 hS ?_
            case hr16=>intro _ s;(try dsimp only at s);go_simp;try with_reducible rfl
            try simp only [Act.put,sA,sB,sC]
            refine tkG (v:=?vr17) At.z.s.s.s.s.s.s.s.s.s.s.s.s.s.s.s.s.s (by kernel_rfl) (fun _ _ _ h=>h) (by kernel_rfl) ?hr17 hS ?_
            case hr17=>intro _ s;(try dsimp only at s);go_simp;try with_reducible rfl
            try simp only [Act.put,sA,sB,sC]
            refine zbk (i:=18) At.z.s.s.s.s.s.s.s.s.s.s.s.s.s.s.s.s.s.s (by kernel_rfl) (fun K2 hK2=>?_);rw [if_pos (by kernel_rfl)];go_simp;refine (zbx _ _ xi.2.sections xk.2.sections wD (HSI.out _ (HKV.out.trans HRD.out.kp)) (HSK.out _ (HKV.out.trans HRD.out.kp)) (by have:=HLI.out; omega) (by have:=HLK.out; omega)).mono ?_;rintro e w3 ⟨rfl,hw3⟩;have hw3':=hw3.symm;subst hw3';clear hw3;rw [zae hm];refine hK2.out _ _ hS ?_;clear hK2 K2
            try simp only [Act.put,sA,sB,sC]
            refine tkL (v:=?vr19) At.z.s.s.s.s.s.s.s.s.s.s.s.s.s.s.s.s.s.s.s (by kernel_rfl) (fun _ _ _ h=>h) rfl ?hr19 hS ?_
            case hr19=>intro _ s;(try dsimp only at s);go_simp;try with_reducible rfl
            try simp only [Act.put,sA,sB,sC]
            refine tkL (v:=?vr20) At.z.s.s.s.s.s.s.s.s.s.s.s.s.s.s.s.s.s.s.s.s (by kernel_rfl) (fun _ _ _ h=>h) rfl ?hr20 hS ?_
            case hr20=>intro _ s;(try dsimp only at s);go_simp;try with_reducible rfl
            try simp only [Act.put,sA,sB,sC]
            refine tkG (v:=?vr21) At.z.s.s.s.s.s.s.s.s.s.s.s.s.s.s.s.s.s.s.s.s.s (by kernel_rfl) (fun _ _ _ h=>h) (by kernel_rfl) ?hr21 hS ?_
            case hr21=>intro _ s;(try dsimp only at s);go_simp;try with_reducible rfl
            try simp only [Act.put,sA,sB,sC]
            clear hS;refine zbk (i:=22) At.z.s.s.s.s.s.s.s.s.s.s.s.s.s.s.s.s.s.s.s.s.s.s (by kernel_rfl) (fun K2 hK2=>?_);rw [if_pos (by kernel_rfl)];go_simp;refine (zap cb _ 4 _ HRD.out.pl.cur (by omega) (by omega)).mono ?_;rintro e wE ⟨r,rfl,hr,hcE,hBE⟩;have hRE:=HRD.out.pick hBE hcE;have HRE:=zaa hRE;have hS:=KS.out _ _ hRE;refine hK2.out _ _ hS ?_;clear hK2 K2 hr hcE hBE hRE HRD
            try simp only [Act.put,sA,sB,sC]
            refine tkG (v:=?vr23) At.z.s.s.s.s.s.s.s.s.s.s.s.s.s.s.s.s.s.s.s.s.s.s.s (by kernel_rfl) (fun _ _ _ h=>h) (by kernel_rfl) ?hr23 hS ?_
            case hr23=>intro _ s;(try dsimp only at s);go_simp;try with_reducible rfl
            try simp only [Act.put,sA,sB,sC]
            refine tkL (v:=?vr24) At.z.s.s.s.s.s.s.s.s.s.s.s.s.s.s.s.s.s.s.s.s.s.s.s.s (by kernel_rfl) (fun _ _ _ h=>h) rfl ?hr24 hS ?_
            case hr24=>intro _ s;(try dsimp only at s);go_simp;try with_reducible rfl
            try simp only [Act.put,sA,sB,sC]
            refine tkL (v:=?vr25) At.z.s.s.s.s.s.s.s.s.s.s.s.s.s.s.s.s.s.s.s.s.s.s.s.s.s (by kernel_rfl) (fun _ _ _ h=>h) rfl ?hr25 hS ?_
            case hr25=>intro _ s;(try dsimp only at s);go_simp;try with_reducible rfl
            try simp only [Act.put,sA,sB,sC]
            clear hS;refine zf1 At.z.s.s.s.s.s.s.s.s.s.s.s.s.s.s.s.s.s.s.s.s.s.s.s.s.s.s (by kernel_rfl) (by kernel_rfl) (fun K2 hK2=>?_);have r1:=HRE.out.row.cell (i:=k) hltk;have z1:=HRE.out.row.frozen k;have FIN:=zaa (HPUT.out wE ((r:Int) == 0) _ (by omega) HRE.out ⟨fun h=>absurd h hki,fun _ x y hx hy hxy=>absurd hxy (by rw [List.getElem?_map,HXI.out] at hx; rw [List.getElem?_map,HXK.out] at hy; cases hx; cases hy; exact hm)⟩);clear HRE HPUT KS HSI HSK;go_simp;refine hK2.out _ _ ?_;clear hK2 K2 r1 z1
            try simp only [Act.put,sA,sB,sC]
            skip
            go_wp2
            skip
            go_roundw
            skip
            case rel=>exact ⟨k + 1,_,by omega,by go_num,FIN.out.1,FIN.out.2⟩
            case measure=>simp [intOf]; omega
        ·have hltki:decide ((k:Int) < (nw:Int)) = false:=decide_eq_false (by omega)
         have hkn:k = nw:=by omega
         subst hkn;have p3:wq.cell? ⟨pb,3,none⟩ = some (.slice ab i cbb):=hR.pl.plan.cell (i:=3) (by omega);have hbn:=zab wq (.cells #[.slice (some ⟨rb,0,none⟩) k k] 36);have hRA:=hR.call hbn
         have hrsA:=HRS.out.far hRA.kp fun c hc _=>by omega
         have SRC:=zaa (zou (W:=wq) (t:=36) (x:=.slice (some ⟨rb,0,none⟩) k k))
         have ONE:Hid (∀ u ∈ ([.slice (some ⟨rb,0,none⟩) k k]:List Value),u.oneCell' = true):=by
          show ∀ u ∈ ([.slice (some ⟨rb,0,none⟩) k k]:List Value),u.oneCell' = true;intro u hu;rw [List.mem_singleton.1 hu];rfl
         have HM7:Hid (i + 1 ≤ maxLen):=by show i + 1 ≤ maxLen; unfold maxLen; omega
         have HM8:Hid ((i + 1) * 24 ≤ 140737488355328):=by show (i + 1) * 24 ≤ 140737488355328; omega
         have HZ:Hid (wv.heap.size ≤ (wq.alloc (.cells #[.slice (some ⟨rb,0,none⟩) k k] 36)).heap.size):=by show wv.heap.size ≤ _; have:=hRA.row.lt; omega
         have OWY:=zaa hrsA.own;rw [HRI.out] at OWY;obtain ⟨xs,hxs⟩:∃ xs,xs = rs.map Prod.fst:=⟨_,rfl⟩;have HXS:=zaa hxs;rw [← hxs] at OWY;have HRA:=zaa hRA;clear hR hbn hRA hrsA hxs hltk hk
         go_wp2_with (at_builtin; refine zai rfl _ _ 25 rfl wv.heap.size 36 (.slice none 0 0) 1 24 Tryz.underlying25 zpt rfl (by decide) (.slice ab i cbb) i xs rfl OWY.out (some ⟨wq.heap.size,0,none⟩) 1 1 [.slice (some ⟨rb,0,none⟩) k k] rfl rfl SRC.out ONE.out HM7.out HM8.out HZ.out ?_)
         intro u5 w9 hown9 hgr9;obtain ⟨a9,c9,rfl⟩:=zag hown9;rw [HXS.out] at hown9;obtain ⟨d1,d2,d3,d4⟩:=HRA.out.done HRS.out hpv hvs (by unfold maxLen; omega) hgr9 hown9 (by rw [HRI.out]);have y9:w9.cell? ⟨pb,3,none⟩ = some (.slice ab i cbb):=d1.plan.cell (i:=3) (by omega);have z9:=d1.plan.frozen 3;have HD2:=zaa (d2.mono (L:=K + 600 + 10 * (i + 1)) (by omega));have HD3:=zaa (((HKV.out.trans HRA.out.kp).low d3).setCell (p:=⟨pb,3,none⟩) (fun z=>Nat.lt_irrefl _ z) (.slice a9 (i + 1) c9));have HD4:=zaa d4
         have hrl:(rs.map Prod.snd).length = i:=by rw [List.length_map]; exact HRI.out
         have hwl:(ws.map Prod.snd).length = k:=by rw [List.length_map]; exact HNW.out.symm
         have HD5:Hid (BarsOk (ws.map Prod.snd) ((rs ++ [(Value.slice (some ⟨rb,0,none⟩) k k,(List.range k).map f)]).map Prod.snd)):=by
          show BarsOk _ _;rw [List.map_append];refine HBO.out.snoc (by rw [hwl]; simp) fun j hj=>?_;rw [hwl] at hj;rw [hrl];have hfj:=HF.out j hj
          have hrj:((List.range k).map f)[j]? = some (f j):=by rw [List.getElem?_map,List.getElem?_range hj]; rfl
          exact ⟨fun h=>by rw [hrj]; exact (hfj.1 h).symm,fun h x y hx hy hm=>by rw [hrj,hfj.2 h x y hx hy hm]⟩
         have HD6:Hid ((rs ++ [(Value.slice (some ⟨rb,0,none⟩) k k,(List.range k).map f)]).length = i + 1):=by show _ = _; rw [List.length_append,HRI.out]; rfl
         clear d1 d2 d3 d4 hown9 hgr9 OWY SRC ONE HRA p3 hrl hwl;go_wp2;go_roundw
         case rel=>exact ⟨i + 1,_,_,by omega,by go_num,HD6.out,HD2.out,HD3.out,HD4.out,HD5.out⟩
         case measure=>simp [intOf]; omega
      ·have hlti:decide ((i:Int) < (nw:Int)) = false:=decide_eq_false (by omega)
       have hin:i = nw:=by omega
       subst hin;have e0:wr5.cell? ⟨pb,0,none⟩ = some (.int .i64 (n:Int)):=hP.plan.cell (i:=0) (by omega);have e1:wr5.cell? ⟨pb,1,none⟩ = some (.slice al nn ca):=hP.plan.cell (i:=1) (by omega);have e2:wr5.cell? ⟨pb,2,none⟩ = some (.slice (some ⟨gy,0,none⟩) i cy):=hP.plan.cell (i:=2) (by omega);have e3:wr5.cell? ⟨pb,3,none⟩ = some (.slice ab i cbb):=hP.plan.cell (i:=3) (by omega);have e4:wr5.cell? ⟨pb,4,none⟩ = some (.int .i64 (ho:Int)):=hP.plan.cell (i:=4) (by omega);obtain ⟨gR,hR3⟩:=hP.res;have r0:=hR3.cell (i:=0) (by omega);have r1:=hR3.cell (i:=1) (by omega);have r2:=hR3.cell (i:=2) (by omega);have r3:=hR3.cell (i:=3) (by omega);have r4:=hR3.cell (i:=4) (by omega);have k0:=hR3.frozen 0;have k1:=hR3.frozen 1;have k2:=hR3.frozen 2;have k3:=hR3.frozen 3;have k4:=hR3.frozen 4;have HPP:=zaa hP;have HKV:=zaa hkv;have HRS:=zaa hrs;have HBO:=zaa hbo;have hltp:=hP.lt;clear hP hkv hrs hbo hR3 hlt hi hri;go_wp2;refine bodyPost_ret (v:=.agg #[.int .i64 (n:Int),.slice al nn ca,.slice (some ⟨gy,0,none⟩) i cy,.slice ab i cbb,.int .i64 (ho:Int)]) (by simp [results,Tryz.results35,go_sem,r0,r1,r2,r3,r4]) rfl ?_;have hk0:∀ o:Nat,¬ ((fun c=>c ≠ w.heap.size) (⟨w.heap.size,o,none⟩:Addr).block):=fun o z=>z rfl;obtain ⟨WE,hWE⟩:∃ W,W = ((((wr5.setCell ⟨w.heap.size,0,none⟩ (.int .i64 (n:Int))).setCell ⟨w.heap.size,1,none⟩ (.slice al nn ca)).setCell ⟨w.heap.size,2,none⟩ (.slice (some ⟨gy,0,none⟩) i cy)).setCell ⟨w.heap.size,3,none⟩ (.slice ab i cbb)).setCell ⟨w.heap.size,4,none⟩ (.int .i64 (ho:Int)):=⟨_,rfl⟩
       rw [← hWE]
       have hBR:But (fun c=>c ≠ w.heap.size) wr5 WE:=by
        rw [hWE];exact (((((But.refl (fun c=>c ≠ w.heap.size) wr5).setCell (hk0 0) _).setCell (hk0 1) _).setCell (hk0 2) _).setCell (hk0 3) _).setCell (hk0 4) _
       have hBw:But (fun c=>c ≠ cb) w WE:=by
        rw [hWE];exact ((((HPP.out.but.setNew (p:=⟨w.heap.size,0,none⟩) (Nat.le_refl _) _).setNew (p:=⟨w.heap.size,1,none⟩) (Nat.le_refl _) _).setNew (p:=⟨w.heap.size,2,none⟩) (Nat.le_refl _) _).setNew (p:=⟨w.heap.size,3,none⟩) (Nat.le_refl _) _).setNew (p:=⟨w.heap.size,4,none⟩) (Nat.le_refl _) _
       have hS1:=zb5 (zba (zba HSW.out HKV.out fun c hc _=>by omega) hBR fun c hc _=>by omega) (show w.heap.size ≤ pb + 1 by omega)
       have hW1:=(HYS.out.far HKV.out fun c hc _=>by omega).far hBR fun c hc _=>by omega
       have hR1:=HRS.out.far hBR fun c hc _=>by omega
       refine ⟨_,_,_,(n:Int),(ho:Int),l,ws,rs,rfl,?_,(by rw [← HNN.out]; exact hS1),⟨zb5 hW1.own (by omega),fun x hx=>(hW1.ways x hx).low (by omega)⟩,⟨zb5 hR1.own (by omega),fun x hx=>zb5 (hR1.rows x hx) (by omega)⟩,(HPP.out.cur.but hBR fun c hc=>by omega).mono (by omega),hBw⟩;refine zmv ⟨by show (1:Int) ≤ (n:Int); omega,by show (n:Int) ≤ 60; omega⟩ (by show l.length ≤ 40; have:=HNN.out; omega) (by show (ws.map Prod.snd).length ≤ 100; rw [List.length_map]; have:=HNW.out; omega) ⟨by show (1:Int) ≤ (ho:Int); omega,by show (ho:Int) ≤ 300; omega⟩ HIN.out (fun x hx=>?_) (by show (rs.map Prod.snd).length = (ws.map Prod.snd).length; rw [List.length_map,List.length_map,HRI.out]; exact HNW.out) HBO.out;obtain ⟨z,hz,rfl⟩:=List.mem_map.1 hx;exact HWO.out z hz
end Go.Proofs.YtdhinkgjiapigaaGreatDoor

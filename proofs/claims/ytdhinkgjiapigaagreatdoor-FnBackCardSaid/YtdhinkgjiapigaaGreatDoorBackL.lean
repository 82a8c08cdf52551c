import Derived.Test.YtdhinkgjiapigaaGreatDoorBackF
namespace Go.Proofs.YtdhinkgjiapigaaGreatDoor
open Go.RowKit Go.Deep
open Classical
set_option maxRecDepth 100000 in
set_option maxHeartbeats 40000000 in
theorem lawBk_any (a:Option Addr) (n c:Nat) (w:World) (hv:Bys (In w) w (.slice a n c) n) (hn:n ≤ 9223372036854775807) (hg:w.cell? ⟨1,0,none⟩ = some errT) :
  Calls Tryz.prog 9 #[.slice a n c] w fun e w'=>e = .returned (.bool true) ∧ Below w.heap.size w w':=by
 have KB:=hide fun (W:World) (h:Below w.heap.size w W)=>hv.keep (Q:=In W) (In.keep h).1 (In.keep h).2
 have HG:=hide hg
 have HB0:=hide (Below.refl w.heap.size w)
 clear hv hg
 by_cases hs:n ≤ 1048576
 case neg=>
  have hgd:decide ((1048576:Int) < (n:Int)) = true:=decide_eq_true (by omega)
  go_enter Tryz.func9,Tryz.ntmps9
  go_wp2
  go_ret
  exact ⟨rfl,HB0.out⟩
 have hgd:decide ((1048576:Int) < (n:Int)) = false:=decide_eq_false (by omega)
 go_enter Tryz.func9,Tryz.ntmps9
 go_wp2_with fail
 refine (wByte0 a n c w (KB.out _ HB0.out) hs).mono ?_
 rintro e w1 ⟨x,rfl,hx0,hx1,hw1⟩
 have hw2:=hw1.symm
 subst hw2
 clear hw1
 obtain ⟨H,hH⟩:∃ H:Nat,1 + x % 40 = (H:Int):=⟨(1 + x % 40).toNat,by omega⟩
 have hH1:1 ≤ H:=by omega
 have hH2:H ≤ 40:=by omega
 have hmx:0 ≤ x % 40 ∧ x % 40 < 40:=by omega
 go_wp2_with fail
 clear hmx hH hx0 hx1
 refine (made3 0 H 0 _ (by omega) rfl).mono ?_
 rintro e w2 ⟨v1,v2,v3,rfl,hb2,hp2,hc2⟩
 have HB2:=hide (HB0.out.trans (hb2.mono HB0.out.size))
 obtain ⟨y1,z1,e1⟩:=hp2.1.size
 obtain ⟨y2,z2,e2⟩:=hp2.2.1.size
 obtain ⟨y3,z3,e3⟩:=hp2.2.2.size
 change v1 = .slice y1 0 z1 at e1
 change v2 = .slice y2 1 z2 at e2
 change v3 = .slice y3 1 z3 at e3
 subst e1 e2 e3
 have KP:=hide fun (W:World) (h:Below w2.heap.size w2 W)=>hp2.keep (Q:=In W) (In.keep h).1 (In.keep h).2
 have KC:=hide fun (W:World) (h:Below w2.heap.size w2 W)=>hc2.keep (Q:=In W) (In.keep h).1 (In.keep h).2
 have hS0:(madeD 3 0 (H:Int)).Small 1048576:=⟨by show 0 ≤ 1048576; omega,by show 1 ≤ 1048576; omega,fun x hx=>by
  obtain rfl:=List.mem_singleton.1 hx
  exact ⟨by show 3 ≤ 1048576; omega,by show 0 ≤ 1048576; omega,by show 0 ≤ 1048576; omega,by show 0 ≤ 1048576; omega,by show 1 ≤ 1048576; omega⟩,by show 1 ≤ 1048576; omega,fun x hx=>by
  obtain rfl:=List.mem_singleton.1 hx
  show 1 ≤ 1048576
  omega⟩
 have hS1:(madeD 3 1 (H:Int)).Small 1048576:=⟨by show 1 ≤ 1048576; omega,by show 1 ≤ 1048576; omega,fun x hx=>by
  obtain rfl:=List.mem_singleton.1 hx
  exact ⟨by show 3 ≤ 1048576; omega,by show 1 ≤ 1048576; omega,by show 0 ≤ 1048576; omega,by show 0 ≤ 1048576; omega,by show 1 ≤ 1048576; omega⟩,by show 1 ≤ 1048576; omega,fun x hx=>by
  obtain rfl:=List.mem_singleton.1 hx
  show 1 ≤ 1048576
  omega⟩
 have HS0:=hide hS0
 have HS1:=hide hS1
 have T4:=boxes2 w2 27 55 #[.int .i64 (madeD 3 0 (H:Int)).sections,.slice y1 0 z1,.slice y2 1 z2,.slice y3 1 z3,.int .i64 (madeD 3 0 (H:Int)).hold] #[.int .i64 3,.int .i64 3,.int .i64 0]
 have hb5:=below_new ((w2.alloc (.cells #[.int .i64 (madeD 3 0 (H:Int)).sections,.slice y1 0 z1,.slice y2 1 z2,.slice y3 1 z3,.int .i64 (madeD 3 0 (H:Int)).hold] 27)).alloc (.cells #[.int .i64 3,.int .i64 3,.int .i64 0] 55)) (.cells #[.int .i64 1,.int .i64 0,.int .i64 0,.int .i64 2,.int .i64 0,.int .i64 0] 55)
 have he5:=own_evs (evs_lit ((w2.alloc (.cells #[.int .i64 (madeD 3 0 (H:Int)).sections,.slice y1 0 z1,.slice y2 1 z2,.slice y3 1 z3,.int .i64 (madeD 3 0 (H:Int)).hold] 27)).alloc (.cells #[.int .i64 3,.int .i64 3,.int .i64 0] 55)) [(1,0,0),(2,0,0)] (by show 2 ≤ 1000; omega)) rfl
 have hz4:((w2.alloc (.cells #[.int .i64 (madeD 3 0 (H:Int)).sections,.slice y1 0 z1,.slice y2 1 z2,.slice y3 1 z3,.int .i64 (madeD 3 0 (H:Int)).hold] 27)).alloc (.cells #[.int .i64 3,.int .i64 3,.int .i64 0] 55)).heap.size = w2.heap.size + 1 + 1:=by simp
 have T5:=T4.call hb5
 rw [hz4] at he5
 have hr1:runOf (madeD 3 0 (H:Int)) [(1,0,0),(2,0,0)] = [(0,fB false false hC),(0,fB false false (idleD 3))]:=(if_pos ⟨made_right (by omega) (by omega) (by omega) ⟨by omega,by omega⟩,by show 2 ≤ 1000; omega⟩).trans (back1 _)
 have hwW5:=HB2.out.trans (T5.below.mono HB2.out.size)
 have HRA:=hide (implRun_any _ _ _ _ (madeD 3 0 (H:Int)) [(1,0,0),(2,0,0)] (((w2.alloc (.cells #[.int .i64 (madeD 3 0 (H:Int)).sections,.slice y1 0 z1,.slice y2 1 z2,.slice y3 1 z3,.int .i64 (madeD 3 0 (H:Int)).hold] 27)).alloc (.cells #[.int .i64 3,.int .i64 3,.int .i64 0] 55)).alloc (.cells #[.int .i64 1,.int .i64 0,.int .i64 0,.int .i64 2,.int .i64 0,.int .i64 0] 55)) (KP.out _ T5.below) (KC.out _ T5.below) (he5.keep (same_refl _ _) (Q:=In (((w2.alloc (.cells #[.int .i64 (madeD 3 0 (H:Int)).sections,.slice y1 0 z1,.slice y2 1 z2,.slice y3 1 z3,.int .i64 (madeD 3 0 (H:Int)).hold] 27)).alloc (.cells #[.int .i64 3,.int .i64 3,.int .i64 0] 55)).alloc (.cells #[.int .i64 1,.int .i64 0,.int .i64 0,.int .i64 2,.int .i64 0,.int .i64 0] 55))) fun b hb=>hb.2) HS0.out (by show 2 ≤ 1048576; omega) (ck HG.out hwW5))
 rw [hr1] at HRA
 have HT5:=hide T5
 clear hb2 hp2 hc2 hS0 hS1 T4 hb5 he5 T5 hr1 hwW5
 go_wp2_with fail
 refine HRA.out.mono ?_
 rintro e w3 ⟨va,rfl,hb3,hda⟩
 obtain ⟨lo1,hdo⟩:=hda.owned
 have HDA:=hide hdo
 have T3:=HT5.out.call hb3
 have HB3:=hide (HB2.out.trans (T3.below.mono HB2.out.size))
 have HR2:=hide (show runOf (madeD 3 1 (H:Int)) [(3,3,0),(1,0,0),(2,0,0)] = [(0,gB true 1 (idleD 3)),(0,gB true 2 ⟨1,0,[false,false,false],false,0⟩),(0,gB true 2 (idleD 3))] from (if_pos ⟨made_right (by omega) (by omega) (by omega) ⟨by omega,by omega⟩,by show 3 ≤ 1000; omega⟩).trans (back2 _))
 have hks:∀ W,Below w3.heap.size w3 W → Below w3.heap.size w3 W ∧ W.cell? ⟨w2.heap.size + 1,0,none⟩ = some (.int .i64 3) ∧ W.cell? ⟨w2.heap.size + 1,1,none⟩ = some (.int .i64 3) ∧ W.cell? ⟨w2.heap.size + 1,2,none⟩ = some (.int .i64 0):=fun W hW=>⟨hW,(T3.call hW).cell (j:=1) (i:=0) rfl rfl,(T3.call hW).cell (j:=1) (i:=1) rfl rfl,(T3.call hW).cell (j:=1) (i:=2) rfl rfl⟩
 have KS:=hide hks
 have HT3:=hide T3
 clear hda hdo hb3 HRA HT5 T3 hks
 go_upto_region 7 with fail
 go_cut [7] (fun v wc=>Below w3.heap.size w3 wc ∧ ∃ base lo,DonesO base wc v [(0,gB true 1 (idleD 3)),(0,gB true 2 ⟨1,0,[false,false,false],false,0⟩),(0,gB true 2 (idleD 3))] lo)
 case first=>
  refine beginL (S:=fun W=>Below w3.heap.size w3 W ∧ W.cell? ⟨w2.heap.size + 1,0,none⟩ = some (.int .i64 3) ∧ W.cell? ⟨w2.heap.size + 1,1,none⟩ = some (.int .i64 3) ∧ W.cell? ⟨w2.heap.size + 1,2,none⟩ = some (.int .i64 0)) 7 (by kernel_rfl) (KS.out _ (below_drew _)) (fun hS=>?_)
  have hD:=hS.1
  obtain ⟨wA,hwA⟩:∃ W,W = w3.drew:=⟨_,rfl⟩
  rw [← hwA] at hS hD ⊢
  clear hwA
  refine takeL (i:=0) (v:=?vv0) (At.z) (by kernel_rfl) (by kernel_rfl) (by kernel_rfl) (by kernel_rfl) (fun _ _ _ h=>h) rfl ?hy0 hS ?rest0
  case hy0=>(intro w' hSw; (try dsimp only at hSw); go_simp; try with_reducible rfl)
  try simp only [Act.put,List.setIfInBounds_toArray,List.set_cons_zero,List.set_cons_succ]
  refine takeL (i:=2) (v:=?vv2) (At.s (At.s (At.z))) (by kernel_rfl) (by kernel_rfl) (by kernel_rfl) (by kernel_rfl) (fun _ _ _ h=>h) rfl ?hy2 hS ?rest2
  case hy2=>(intro w' hSw; (try dsimp only at hSw); go_simp; try with_reducible rfl)
  try simp only [Act.put,List.setIfInBounds_toArray,List.set_cons_zero,List.set_cons_succ]
  refine takeL (i:=3) (v:=?vv3) (At.s (At.s (At.s (At.z)))) (by kernel_rfl) (by kernel_rfl) (by kernel_rfl) (by kernel_rfl) (fun _ _ _ h=>h) rfl ?hy3 hS ?rest3
  case hy3=>(intro w' hSw; (try dsimp only at hSw); go_simp; try with_reducible rfl)
  try simp only [Act.put,List.setIfInBounds_toArray,List.set_cons_zero,List.set_cons_succ]
  refine takeL (i:=4) (v:=?vv4) (At.s (At.s (At.s (At.s (At.z))))) (by kernel_rfl) (by kernel_rfl) (by kernel_rfl) (by kernel_rfl) (fun _ _ _ h=>h) rfl ?hy4 hS ?rest4
  case hy4=>(intro w' hSw; (try dsimp only at hSw); go_simp; try with_reducible rfl)
  try simp only [Act.put,List.setIfInBounds_toArray,List.set_cons_zero,List.set_cons_succ]
  clear hS
  refine pairL (i:=1) (j:=5) (At.s (At.z)) (At.s (At.s (At.s (At.s (At.s (At.z)))))) (by kernel_rfl) (fun K hK=>?_) (fun K hK=>?_)
  ·go_simp
   refine (made3 1 H 1 _ (by omega) rfl).mono ?_
   rintro e wB ⟨q1,q2,q3,rfl,hb,hq,hqc⟩
   have HQ:=hide hq
   have HQC:=hide hqc
   clear hq hqc
   have hE:=hD.trans (hb.mono hD.size)
   refine hK.out _ _ (KS.out _ hE) ?_
   clear hK K hD hb
   try simp only [Act.put,List.setIfInBounds_toArray,List.set_cons_zero,List.set_cons_succ]
   have hD:=hE
   clear hE
   refine stepL (i:=5) (At.s (At.s (At.s (At.s (At.s (At.z)))))) (by kernel_rfl) (fun K hK=>?_)
   go_simp
   have hb:=below_new wB (.cells #[.int .i64 3,.int .i64 3,.int .i64 0,.int .i64 1,.int .i64 0,.int .i64 0,.int .i64 2,.int .i64 0,.int .i64 0] 55)
   have hev:=own_evs (evs_lit wB [(3,3,0),(1,0,0),(2,0,0)] (by show 3 ≤ 1000; omega)) rfl
   obtain ⟨wC,hwB⟩:∃ W,W = wB.alloc (.cells #[.int .i64 3,.int .i64 3,.int .i64 0,.int .i64 1,.int .i64 0,.int .i64 0,.int .i64 2,.int .i64 0,.int .i64 0] 55):=⟨_,rfl⟩
   obtain ⟨be,hbe⟩:∃ b,b = wB.heap.size:=⟨_,rfl⟩
   rw [show wB.alloc (.cells (evCells [(3,3,0),(1,0,0),(2,0,0)]).toArray 55) = wC from hwB.symm,← hbe] at hev
   rw [← hwB] at hb ⊢
   rw [← hbe]
   have HEV:=hide (hev.keep (same_refl _ _) (Q:=In wC) fun b hb=>hb.2)
   clear hwB hbe hev
   replace HQ:=hide (HQ.out.keep (In.keep hb).1 (In.keep hb).2)
   replace HQC:=hide (HQC.out.keep (In.keep hb).1 (In.keep hb).2)
   have hE:=hD.trans (hb.mono hD.size)
   refine hK.out _ _ (KS.out _ hE) ?_
   clear hK K hD hb
   try simp only [Act.put,List.setIfInBounds_toArray,List.set_cons_zero,List.set_cons_succ]
   have hD:=hE
   clear hE
   refine stepL (i:=6) (At.s (At.s (At.s (At.s (At.s (At.s (At.z))))))) (by kernel_rfl) (fun K hK=>?_)
   go_simp
   have HRB:=hide (implRun_any _ _ _ _ (madeD 3 1 (H:Int)) [(3,3,0),(1,0,0),(2,0,0)] wC HQ.out HQC.out HEV.out HS1.out (by show 3 ≤ 1048576; omega) (ck HG.out (HB3.out.trans (hD.mono HB3.out.size))))
   rw [HR2.out] at HRB
   refine HRB.out.mono ?_
   rintro e wE ⟨vb,rfl,hb,hdb⟩
   obtain ⟨lo2,hdo⟩:=hdb.owned
   have HDB:=hide hdo
   clear hdb hdo HRB HQ HQC HEV
   have hE:=hD.trans (hb.mono hD.size)
   refine hK.out _ _ (KS.out _ hE) ?_
   clear hK K hD hb
   try simp only [Act.put,List.setIfInBounds_toArray,List.set_cons_zero,List.set_cons_succ]
   refine endL (m:=7) (At.s (At.s (At.s (At.s (At.s (At.s (At.s (At.z)))))))) (by kernel_rfl) (by kernel_rfl) (fun K hK=>?_)
   go_simp
   refine hK.out _ _ ?_
   clear hK K
   have HE:=hide hE
   clear hE
   go_wp2_with fail
   go_meet
   exact ⟨HE.out,_,_,HDB.out⟩
  ·go_simp
   have hb:=below_new wA (.cells #[.int .i64 3,.int .i64 3,.int .i64 0,.int .i64 1,.int .i64 0,.int .i64 0,.int .i64 2,.int .i64 0,.int .i64 0] 55)
   have hev:=own_evs (evs_lit wA [(3,3,0),(1,0,0),(2,0,0)] (by show 3 ≤ 1000; omega)) rfl
   obtain ⟨wB,hwB⟩:∃ W,W = wA.alloc (.cells #[.int .i64 3,.int .i64 3,.int .i64 0,.int .i64 1,.int .i64 0,.int .i64 0,.int .i64 2,.int .i64 0,.int .i64 0] 55):=⟨_,rfl⟩
   obtain ⟨be,hbe⟩:∃ b,b = wA.heap.size:=⟨_,rfl⟩
   rw [show wA.alloc (.cells (evCells [(3,3,0),(1,0,0),(2,0,0)]).toArray 55) = wB from hwB.symm,← hbe] at hev
   rw [← hwB] at hb ⊢
   rw [← hbe]
   have HEV:=hide (hev.keep (same_refl _ _) (Q:=In wB) fun b hb=>hb.2)
   clear hwB hbe hev
   have hE:=hD.trans (hb.mono hD.size)
   refine hK.out _ _ (KS.out _ hE) ?_
   clear hK K hD hb
   try simp only [Act.put,List.setIfInBounds_toArray,List.set_cons_zero,List.set_cons_succ]
   have hD:=hE
   clear hE
   refine stepL (i:=1) (At.s (At.z)) (by kernel_rfl) (fun K hK=>?_)
   go_simp
   refine (made3 1 H 1 _ (by omega) rfl).mono ?_
   rintro e wC ⟨q1,q2,q3,rfl,hb,hq,hqc⟩
   have HQ:=hide hq
   have HQC:=hide hqc
   clear hq hqc
   replace HEV:=hide (HEV.out.keep (In.keep hb).1 (In.keep hb).2)
   have hE:=hD.trans (hb.mono hD.size)
   refine hK.out _ _ (KS.out _ hE) ?_
   clear hK K hD hb
   try simp only [Act.put,List.setIfInBounds_toArray,List.set_cons_zero,List.set_cons_succ]
   have hD:=hE
   clear hE
   refine stepL (i:=6) (At.s (At.s (At.s (At.s (At.s (At.s (At.z))))))) (by kernel_rfl) (fun K hK=>?_)
   go_simp
   have HRB:=hide (implRun_any _ _ _ _ (madeD 3 1 (H:Int)) [(3,3,0),(1,0,0),(2,0,0)] wC HQ.out HQC.out HEV.out HS1.out (by show 3 ≤ 1048576; omega) (ck HG.out (HB3.out.trans (hD.mono HB3.out.size))))
   rw [HR2.out] at HRB
   refine HRB.out.mono ?_
   rintro e wE ⟨vb,rfl,hb,hdb⟩
   obtain ⟨lo2,hdo⟩:=hdb.owned
   have HDB:=hide hdo
   clear hdb hdo HRB HQ HQC HEV
   have hE:=hD.trans (hb.mono hD.size)
   refine hK.out _ _ (KS.out _ hE) ?_
   clear hK K hD hb
   try simp only [Act.put,List.setIfInBounds_toArray,List.set_cons_zero,List.set_cons_succ]
   refine endL (m:=7) (At.s (At.s (At.s (At.s (At.s (At.s (At.s (At.z)))))))) (by kernel_rfl) (by kernel_rfl) (fun K hK=>?_)
   go_simp
   refine hK.out _ _ ?_
   clear hK K
   have HE:=hide hE
   clear hE
   go_wp2_with fail
   go_meet
   exact ⟨HE.out,_,_,HDB.out⟩
 case rest=>
  obtain ⟨hbB,base2,lo2,hdb⟩:=hcut
  rename World=>wB
  have T8:=HT3.out.call hbB
  have hDA8:=HDA.out.but (K:=fun _=>True) (But.of_calls hbB) fun _ _=>trivial
  obtain ⟨ga,ka,pa0,pa1,pa2,pa3,pa4,pa5,pa6,pa7,bwa,cwa,ea,xa0,xa1,xa2,xa3,xa4,xaS⟩:=dones_at hDA8 (i:=1) rfl rfl
  subst ea
  obtain ⟨gb,kb,pb0,pb1,pb2,pb3,pb4,pb5,pb6,pb7,bwb,cwb,eb,xb0,xb1,xb2,xb3,xb4,xbS⟩:=dones_at hdb (i:=2) rfl rfl
  subst eb
  have ya:wB.cell? ⟨ga,9,none⟩ = some (.slice (some ⟨bwa,0,none⟩) 1 cwa):=xa4
  have yb:wB.cell? ⟨gb,14,none⟩ = some (.slice (some ⟨bwb,0,none⟩) 1 cwb):=xb4
  have sa:wB.cell? ⟨bwa,0,none⟩ = some (.int .i64 0):=xaS
  have sb:wB.cell? ⟨bwb,0,none⟩ = some (.int .i64 0):=xbS
  have n0:wB.cell? ⟨w2.heap.size + 1,0,none⟩ = some (.int .i64 3):=T8.cell (j:=1) (i:=0) rfl rfl
  have n1:wB.cell? ⟨w2.heap.size + 1,1,none⟩ = some (.int .i64 3):=T8.cell (j:=1) (i:=1) rfl rfl
  have n2:wB.cell? ⟨w2.heap.size + 1,2,none⟩ = some (.int .i64 0):=T8.cell (j:=1) (i:=2) rfl rfl
  have HBB:=hide (HB3.out.trans (hbB.mono HB3.out.size))
  have HT8:=hide T8
  have hn6:=below_new wB (.cells #[.int .i64 3,.int .i64 3,.int .i64 0,.int .i64 1,.int .i64 0,.int .i64 0,.int .i64 2,.int .i64 0,.int .i64 0] 55)
  have HB6:=hide (HBB.out.trans (hn6.mono HBB.out.size))
  have HN6:=hide hn6
  have HOW:=hide (evs_lit wB [(3,3,0),(1,0,0),(2,0,0)] (by show 3 ≤ 1000; omega))
  clear hbB hDA8 hdb T8 hn6 HDA KS xa0 xa1 xa2 xa3 xa4 xaS xb0 xb1 xb2 xb3 xb4 xbS HS1 HR2
  go_wp2_with fail
  refine (wByte1 a n c _ (KB.out _ HB6.out) hs).mono ?_
  rintro e w6' ⟨x2,rfl,hx20,hx21,hw1⟩
  have hw2:=hw1.symm
  subst hw2
  clear hw1 ya yb sa sb n0 n1 n2
  obtain ⟨inn,hin⟩:∃ inn:Nat,x2 % ((H:Int) + 1) = (inn:Int):=⟨(x2 % ((H:Int) + 1)).toNat,by have:=Int.emod_nonneg x2 (show (H:Int) + 1 ≠ 0 by omega); omega⟩
  have hin2:inn ≤ H:=by have:=Int.emod_lt_of_pos x2 (show (0:Int) < (H:Int) + 1 by omega); omega
  have hnz:(H:Int) + 1 ≠ 0:=by omega
  have hnzb:((H:Int) + 1 == 0) = false:=by simp; omega
  have htm:Int.tmod x2 ((H:Int) + 1) = (inn:Int):=by rw [Int.tmod_eq_emod_of_nonneg hx20]; exact hin
  go_wp2
  obtain ⟨W6,hW6⟩:∃ W,W = (wB.alloc (.cells #[.int .i64 3,.int .i64 3,.int .i64 0,.int .i64 1,.int .i64 0,.int .i64 0,.int .i64 2,.int .i64 0,.int .i64 0] 55)):=⟨_,rfl⟩
  have HOW6:Hid (W6.ownsRow wB.heap.size 55 3 (.slice (some ⟨wB.heap.size,0,none⟩) 3 3) (lenB inn 0) (evCells (evsB inn 0))):=by
   show W6.ownsRow _ _ _ _ _ _
   rw [hW6]
   exact HOW.out
  rw [← hW6] at HB6 HN6 ⊢
  clear hW6 HOW htm hnz hnzb hin hx20 hx21
  go_loopw [8,10] (fun o z wr=>∃ (k:Nat),k ≤ H ∧ z = .int .i64 k ∧ wr.ownsRow wB.heap.size 55 3 o (lenB inn k) (evCells (evsB inn k)) ∧ Below wB.heap.size wB wr) (fun _ z _=>H - (intOf z).toNat)
  case atStart=>exact ⟨0,Nat.zero_le _,rfl,HOW6.out,HN6.out⟩
  case round=>
   obtain ⟨k,hk,rfl,hown7,hBw7⟩:=hrel
   rename World=>wr
   rename Value=>vo
   obtain ⟨al,ca,e⟩:=own_slice hown7
   subst e
   clear HOW6
   by_cases hlt:k < H
   ·obtain ⟨nn,hnn⟩:∃ nn,nn = lenB inn k:=⟨_,rfl⟩
    have hnb:nn ≤ 100:=by rw [hnn]; unfold lenB; split <;> omega
    obtain ⟨xs,hxs⟩:∃ xs,xs = evCells (evsB inn k):=⟨_,rfl⟩
    rw [← hnn,← hxs] at hown7
    rw [← hnn]
    have HNN:=hide hnn
    have HXS:=hide hxs
    have hkH:(k:Int) < (H:Int):=by omega
    clear hnn hxs
    by_cases hki:k = inn
    ·have hkb:((k:Int) == (inn:Int)) = true:=by simp; omega
     have HKI:=hide hki
     clear hki
     have hbn7:=below_new wr (.cells #[.int .i64 3,.int .i64 0,.int .i64 0] 55)
     have OWY7:=hide (own_but (K:=fun _=>True) hown7 (But.of_calls hbn7) fun _ _=>trivial)
     have SRC7:=hide (three_src (W:=wr) (t:=55) (x:=.int .i64 3) (y:=.int .i64 0) (z:=.int .i64 0))
     have ONE7:=hide (three_one (x:=3) (y:=0) (z:=0))
     have HMA7:Hid (nn + 1 ≤ maxLen):=by show nn + 1 ≤ maxLen; unfold maxLen; omega
     have HMB7:Hid ((nn + 1) * 24 ≤ 140737488355328):=by show (nn + 1) * 24 ≤ 140737488355328; omega
     have HZY7:Hid (wB.heap.size ≤ (wr.alloc (.cells #[.int .i64 3,.int .i64 0,.int .i64 0] 55)).heap.size):=Nat.le_trans hBw7.size hbn7.size
     have HBW7:=hide (hBw7.trans (hbn7.mono hBw7.size))
     clear hown7 hbn7 hBw7
     go_wp2_with (at_builtin; refine wpList_append_any rfl _ _ 28 rfl wB.heap.size 55 (.agg #[.int .i64 0,.int .i64 0,.int .i64 0]) 3 24 Tryz.underlying28 Tryz.infoEvent rfl (by decide) (.slice al (nn) ca) (nn) (xs) rfl OWY7.out (some ⟨wr.heap.size,0,none⟩) 1 1 [.int .i64 3,.int .i64 0,.int .i64 0] rfl rfl SRC7.out ONE7.out HMA7.out HMB7.out HZY7.out ?_)
     intro u7 w7 ho7 hgr7
     have hB7:=HBW7.out.trans (own_snoc OWY7.out hgr7 (Nat.le_refl _) HZY7.out)
     obtain ⟨al7,ca7,rfl⟩:=own_slice ho7
     clear OWY7 SRC7 ONE7 HBW7 hgr7
     have hown8:=ho7
     have hBw8:=hB7
     clear ho7 hB7
     have hbn8:=below_new w7 (.cells #[.int .i64 7,.int .i64 0,.int .i64 0] 55)
     have OWY8:=hide (own_but (K:=fun _=>True) hown8 (But.of_calls hbn8) fun _ _=>trivial)
     have SRC8:=hide (three_src (W:=w7) (t:=55) (x:=.int .i64 7) (y:=.int .i64 0) (z:=.int .i64 0))
     have ONE8:=hide (three_one (x:=7) (y:=0) (z:=0))
     have HMA8:Hid (nn + 1 + 1 ≤ maxLen):=by show nn + 1 + 1 ≤ maxLen; unfold maxLen; omega
     have HMB8:Hid ((nn + 1 + 1) * 24 ≤ 140737488355328):=by show (nn + 1 + 1) * 24 ≤ 140737488355328; omega
     have HZY8:Hid (wB.heap.size ≤ (w7.alloc (.cells #[.int .i64 7,.int .i64 0,.int .i64 0] 55)).heap.size):=Nat.le_trans hBw8.size hbn8.size
     have HBW8:=hide (hBw8.trans (hbn8.mono hBw8.size))
     clear hown8 hbn8 hBw8
     go_wp2_with (at_builtin; refine wpList_append_any rfl _ _ 28 rfl wB.heap.size 55 (.agg #[.int .i64 0,.int .i64 0,.int .i64 0]) 3 24 Tryz.underlying28 Tryz.infoEvent rfl (by decide) (.slice al7 (nn + 1) ca7) (nn + 1) (xs ++ [.int .i64 3,.int .i64 0,.int .i64 0]) rfl OWY8.out (some ⟨w7.heap.size,0,none⟩) 1 1 [.int .i64 7,.int .i64 0,.int .i64 0] rfl rfl SRC8.out ONE8.out HMA8.out HMB8.out HZY8.out ?_)
     intro u8 w8 ho8 hgr8
     have hB8:=HBW8.out.trans (own_snoc OWY8.out hgr8 (Nat.le_refl _) HZY8.out)
     obtain ⟨al8,ca8,rfl⟩:=own_slice ho8
     clear OWY8 SRC8 ONE8 HBW8 hgr8
     have FIN:Hid (w8.ownsRow wB.heap.size 55 3 (.slice al8 (nn + 1 + 1) ca8) (lenB inn (k + 1)) (evCells (evsB inn (k + 1)))):=by
      have e1:lenB inn (k + 1) = nn + 1 + 1:=by rw [HNN.out]; unfold lenB; rw [if_neg (show ¬ inn < k by have:=HKI.out; omega),if_pos (show inn < k + 1 by have:=HKI.out; omega)]; omega
      have e2:evCells (evsB inn (k + 1)) = xs ++ [.int .i64 3,.int .i64 0,.int .i64 0,.int .i64 7,.int .i64 0,.int .i64 0]:=by
       rw [evsB_succ,evRound,if_pos HKI.out,show ([(3,0,0),(7,0,0)]:List (Int × Int × Int)) = [(3,0,0)] ++ [(7,0,0)] from rfl,← List.append_assoc,evCells_snoc,evCells_snoc,← HXS.out,List.append_assoc]
       rfl
      show w8.ownsRow _ _ _ _ _ _
      rw [e1,e2]
      exact ho8
     have HB8:=hide hB8
     clear ho8 hB8
     go_wp2
     go_roundw
     case rel=>exact ⟨k + 1,by omega,by go_num,FIN.out,HB8.out⟩
     case measure=>simp [intOf]; omega
    ·have hkb:((k:Int) == (inn:Int)) = false:=by simp; omega
     have HKI:=hide hki
     clear hki
     have hbn7:=below_new wr (.cells #[.int .i64 7,.int .i64 0,.int .i64 0] 55)
     have OWY7:=hide (own_but (K:=fun _=>True) hown7 (But.of_calls hbn7) fun _ _=>trivial)
     have SRC7:=hide (three_src (W:=wr) (t:=55) (x:=.int .i64 7) (y:=.int .i64 0) (z:=.int .i64 0))
     have ONE7:=hide (three_one (x:=7) (y:=0) (z:=0))
     have HMA7:Hid (nn + 1 ≤ maxLen):=by show nn + 1 ≤ maxLen; unfold maxLen; omega
     have HMB7:Hid ((nn + 1) * 24 ≤ 140737488355328):=by show (nn + 1) * 24 ≤ 140737488355328; omega
     have HZY7:Hid (wB.heap.size ≤ (wr.alloc (.cells #[.int .i64 7,.int .i64 0,.int .i64 0] 55)).heap.size):=Nat.le_trans hBw7.size hbn7.size
     have HBW7:=hide (hBw7.trans (hbn7.mono hBw7.size))
     clear hown7 hbn7 hBw7
     go_wp2_with (at_builtin; refine wpList_append_any rfl _ _ 28 rfl wB.heap.size 55 (.agg #[.int .i64 0,.int .i64 0,.int .i64 0]) 3 24 Tryz.underlying28 Tryz.infoEvent rfl (by decide) (.slice al (nn) ca) (nn) (xs) rfl OWY7.out (some ⟨wr.heap.size,0,none⟩) 1 1 [.int .i64 7,.int .i64 0,.int .i64 0] rfl rfl SRC7.out ONE7.out HMA7.out HMB7.out HZY7.out ?_)
     intro u7 w7 ho7 hgr7
     have hB7:=HBW7.out.trans (own_snoc OWY7.out hgr7 (Nat.le_refl _) HZY7.out)
     obtain ⟨al7,ca7,rfl⟩:=own_slice ho7
     clear OWY7 SRC7 ONE7 HBW7 hgr7
     have FIN:Hid (w7.ownsRow wB.heap.size 55 3 (.slice al7 (nn + 1) ca7) (lenB inn (k + 1)) (evCells (evsB inn (k + 1)))):=by
      have e1:lenB inn (k + 1) = nn + 1:=by
       rw [HNN.out]
       unfold lenB
       have:=HKI.out
       by_cases q:inn < k
       ·rw [if_pos q,if_pos (by omega)]; omega
       ·rw [if_neg q,if_neg (by omega)]; omega
      have e2:evCells (evsB inn (k + 1)) = xs ++ [.int .i64 7,.int .i64 0,.int .i64 0]:=by
       rw [evsB_succ,evRound,if_neg HKI.out,evCells_snoc,← HXS.out]
      show w7.ownsRow _ _ _ _ _ _
      rw [e1,e2]
      exact ho7
     have HB8:=hide hB7
     clear ho7 hB7
     go_wp2
     go_roundw
     case rel=>exact ⟨k + 1,by omega,by go_num,FIN.out,HB8.out⟩
     case measure=>simp [intOf]; omega
   ·obtain rfl:k = H:=by omega
    have HRW:=hide (HBB.out.trans (hBw7.mono HBB.out.size))
    have T9:=HT8.out.call hBw7
    have g0:wr.cell? ⟨w2.heap.size,0,none⟩ = some (.int .i64 (madeD 3 0 (k:Int)).sections):=T9.cell (j:=0) (i:=0) rfl rfl
    have g1:wr.cell? ⟨w2.heap.size,1,none⟩ = some (.slice y1 0 z1):=T9.cell (j:=0) (i:=1) rfl rfl
    have g2:wr.cell? ⟨w2.heap.size,2,none⟩ = some (.slice y2 1 z2):=T9.cell (j:=0) (i:=2) rfl rfl
    have g3:wr.cell? ⟨w2.heap.size,3,none⟩ = some (.slice y3 1 z3):=T9.cell (j:=0) (i:=3) rfl rfl
    have g4:wr.cell? ⟨w2.heap.size,4,none⟩ = some (.int .i64 (madeD 3 0 (k:Int)).hold):=T9.cell (j:=0) (i:=4) rfl rfl
    have hel:lenB inn k = (evsB inn k).length:=(evsB_length inn k).symm
    have hen:lenB inn k ≤ 1000:=by unfold lenB; split <;> omega
    have hev:=own_evs hown7 hel
    have hrun:runOf (madeD 3 0 (k:Int)) (evsB inn k) = runsD (madeD 3 0 (k:Int)) (beginD (madeD 3 0 (k:Int))) (evsB inn k):=if_pos ⟨made_right (by omega) (by omega) (by omega) ⟨by omega,by omega⟩,by omega⟩
    obtain ⟨r1,-,r3⟩:=back3 hH1 hin2 k (Nat.le_refl _)
    have HRC:=hide (implRun_any _ _ _ _ (madeD 3 0 (k:Int)) (evsB inn k) wr (KP.out _ T9.below) (KC.out _ T9.below) (hev.keep (same_refl _ _) (Q:=In wr) fun b hb=>hb.2) HS0.out (by omega) (ck HG.out HRW.out))
    rw [hrun] at HRC
    obtain ⟨L,hL⟩:∃ L,L = runsD (madeD 3 0 (k:Int)) (beginD (madeD 3 0 (k:Int))) (evsB inn k):=⟨_,rfl⟩
    rw [← hL] at HRC r1 r3
    have HR3:=hide r3
    have HLN:=hide r1
    clear T9 hev hrun r1 r3 hL hown7 hBw7 hlt hk hel
    go_wp2_with fail
    refine HRC.out.mono ?_
    rintro e wG ⟨vg,rfl,hbG,hdg⟩
    obtain ⟨lo3,hdo⟩:=hdg.owned
    have HDG:=hide hdo
    obtain ⟨⟨ag,cg,eg,-⟩,-⟩:=id hdo
    obtain ⟨M,hM⟩:∃ M,M = lenB inn k:=⟨_,rfl⟩
    have hLM:L.length = M:=HLN.out.trans hM.symm
    rw [hLM] at eg
    subst eg
    rw [← hM]
    have hMn:M = 3 + k + if inn < k then 1 else 0:=hM
    have HBG:=hide (HRW.out.trans (hbG.mono HRW.out.size))
    have HBQ0:=hide (Below.refl wG.heap.size wG)
    have hM1:M ≤ 1000:=by omega
    have HLM:=hide hLM
    have HMN:=hide hMn
    clear hdg hdo hbG HRC g0 g1 g2 g3 g4 hM hen hLM hMn HLN
    go_wp2
    go_loopw [120] (fun z wq=>∃ (i:Nat),i ≤ M ∧ z = .int .i64 i ∧ Below wG.heap.size wG wq) (fun z _=>M - (intOf z).toNat)
    case atStart=>exact ⟨0,Nat.zero_le _,rfl,HBQ0.out⟩
    case round=>
     obtain ⟨i,hi,rfl,hbq⟩:=hrel
     rename World=>wq
     by_cases hlt:i < M
     ·obtain ⟨y,hy⟩:=get_some L (hide HLM.out) hlt
      obtain ⟨g,hgw,hgs⟩:=HR3.out i y hy
      obtain ⟨gq,kq,u0,u1,bo,n2,c2,a3,n3,c3,bw,cw,eq,x0,x1,x2',x3,x4,xS⟩:=dones_at (HDG.out.but (K:=fun _=>True) (But.of_calls hbq) fun _ _=>trivial) hy hgw
      rw [HLM.out] at eq
      injection eq with e1 e2 e3
      subst e1
      rw [hgs] at xS
      have hbn:=below_new wq (.cells #[.int .i64 u0,.bool u1,.slice (some ⟨bo,0,none⟩) n2 c2,.slice a3 n3 c3,.slice (some ⟨bw,0,none⟩) 1 cw] 42)
      have hrn:(wq.alloc (.cells #[.int .i64 u0,.bool u1,.slice (some ⟨bo,0,none⟩) n2 c2,.slice a3 n3 c3,.slice (some ⟨bw,0,none⟩) 1 cw] 42)).rowIs wq.heap.size 42 5 (fun i=>(#[.int .i64 u0,.bool u1,.slice (some ⟨bo,0,none⟩) n2 c2,.slice a3 n3 c3,.slice (some ⟨bw,0,none⟩) 1 cw]:Array Value)[i]!):=rowIs_new wq 42 #[.int .i64 u0,.bool u1,.slice (some ⟨bo,0,none⟩) n2 c2,.slice a3 n3 c3,.slice (some ⟨bw,0,none⟩) 1 cw]
      have sS:wq.cell? ⟨bw,0,none⟩ = some (.int .i64 (stI k inn i)):=xS
      have tS:(wq.alloc (.cells #[.int .i64 u0,.bool u1,.slice (some ⟨bo,0,none⟩) n2 c2,.slice a3 n3 c3,.slice (some ⟨bw,0,none⟩) 1 cw] 42)).cell? ⟨bw,0,none⟩ = some (.int .i64 (stI k inn i)):=ckb' xS hbn
      have r4:(wq.alloc (.cells #[.int .i64 u0,.bool u1,.slice (some ⟨bo,0,none⟩) n2 c2,.slice a3 n3 c3,.slice (some ⟨bw,0,none⟩) 1 cw] 42)).cell? ⟨wq.heap.size,4,none⟩ = some (.slice (some ⟨bw,0,none⟩) 1 cw):=hrn.cell (i:=4) (by omega)
      have HBQ:=hide (hbq.trans (hbn.mono hbq.size))
      have hiM:(i:Int) < (M:Int):=by omega
      clear hbq hbn hrn xS hy hgw hgs e2 e3 HBQ0
      by_cases q0:i = 0
      ·have hst:stI k inn i = 0:=by unfold stI; rw [if_pos q0]
       rw [hst] at sS tS
       have b0:((i:Int) == 0) = true:=by simp; omega
       clear hst q0
       go_wp2
       go_roundw
       case rel=>exact ⟨i + 1,by omega,by go_num,HBQ.out⟩
       case measure=>simp [intOf]; omega
      by_cases q1:i = 1
      ·have hst:stI k inn i = 2:=by unfold stI; rw [if_neg q0,if_pos q1]
       rw [hst] at sS tS
       have b0:((i:Int) == 0) = false:=by simp; omega
       have b1:((i:Int) == 1) = true:=by simp; omega
       clear hst q1
       go_wp2
       go_roundw
       case rel=>exact ⟨i + 1,by omega,by go_num,HBQ.out⟩
       case measure=>simp [intOf]; omega
      by_cases q2:i < 3 + inn ∧ ¬ (inn = k ∧ i = k + 2)
      ·by_cases q3:inn = k
       ·have hMk:M = 3 + k:=by rw [HMN.out,if_neg (by omega)]; rfl
        have hst:stI k inn i = 3:=by unfold stI; rw [if_neg q0,if_neg q1,if_pos q2]
        rw [hst] at sS tS
        have b0:((i:Int) == 0) = false:=by simp; omega
        have b1:((i:Int) == 1) = false:=by simp; omega
        have b2:decide ((i:Int) < 3 + (inn:Int)) = true:=by simp; omega
        have b3:((inn:Int) == (k:Int)) = true:=by simp; omega
        have b4:((i:Int) == (M:Int) - 1) = false:=by simp; omega
        clear hst q3 hMk q2
        go_wp2
        go_roundw
        case rel=>exact ⟨i + 1,by omega,by go_num,HBQ.out⟩
        case measure=>simp [intOf]; omega
       ·have hst:stI k inn i = 3:=by unfold stI; rw [if_neg q0,if_neg q1,if_pos q2]
        rw [hst] at sS tS
        have b0:((i:Int) == 0) = false:=by simp; omega
        have b1:((i:Int) == 1) = false:=by simp; omega
        have b2:decide ((i:Int) < 3 + (inn:Int)) = true:=by simp; omega
        have b3:((inn:Int) == (k:Int)) = false:=by simp; omega
        clear hst q2
        go_wp2
        go_roundw
        case rel=>exact ⟨i + 1,by omega,by go_num,HBQ.out⟩
        case measure=>simp [intOf]; omega
      by_cases q4:inn < k
      ·have hst:stI k inn i = 4:=by unfold stI; rw [if_neg q0,if_neg q1,if_neg q2,if_pos q4]
       rw [hst] at sS tS
       have b0:((i:Int) == 0) = false:=by simp; omega
       have b1:((i:Int) == 1) = false:=by simp; omega
       have b2:decide ((i:Int) < 3 + (inn:Int)) = false:=by simp; omega
       have b5:decide ((inn:Int) < (k:Int)) = true:=by simp; omega
       clear hst q2
       go_wp2
       go_roundw
       case rel=>exact ⟨i + 1,by omega,by go_num,HBQ.out⟩
       case measure=>simp [intOf]; omega
      ·have hMk:M = 3 + k:=by rw [HMN.out,if_neg q4]; rfl
       have hst:stI k inn i = 0:=by unfold stI; rw [if_neg q0,if_neg q1,if_neg q2,if_neg q4]
       rw [hst] at sS tS
       have b0:((i:Int) == 0) = false:=by simp; omega
       have b1:((i:Int) == 1) = false:=by simp; omega
       have b2:decide ((i:Int) < 3 + (inn:Int)) = true:=by simp; omega
       have b3:((inn:Int) == (k:Int)) = true:=by simp; omega
       have b4:((i:Int) == (M:Int) - 1) = true:=by simp; omega
       have b5:decide ((inn:Int) < (k:Int)) = false:=by simp; omega
       clear hst hMk q2
       go_wp2
       go_roundw
       case rel=>exact ⟨i + 1,by omega,by go_num,HBQ.out⟩
       case measure=>simp [intOf]; omega
     ·go_wp2
      go_ret
      exact ⟨rfl,HBG.out.trans (hbq.mono HBG.out.size)⟩
end Go.Proofs.YtdhinkgjiapigaaGreatDoor

import Derived.Test.YtdhinkgjiapigaaGreatDoorSpX
import Derived.Test.YtdhinkgjiapigaaGreatDoorSpec7
namespace Go.Proofs.YtdhinkgjiapigaaGreatDoor
open Go.RowKit Go.Deep
open Classical
theorem SpS.slices {W:World} {lo K:Nat} {v1 v2 v3:Value} (h:SpS W lo K v1 v2 v3):∃ (a1 a2 a3:Option Addr) (n1 c1 n2 c2 n3 c3:Nat),v1 = .slice a1 n1 c1 ∧ v2 = .slice a2 n2 c2 ∧ v3 = .slice a3 n3 c3:=by
 obtain ⟨l1,o1,-⟩:=h.sw;obtain ⟨l2,o2,-⟩:=h.ways;obtain ⟨l3,o3,-⟩:=h.bars;obtain ⟨a1,c1,e1⟩:=zag o1;obtain ⟨a2,c2,e2⟩:=zag o2.own;obtain ⟨a3,c3,e3,-⟩:=o3.own;exact ⟨a1,a2,a3,_,c1,_,c2,_,c3,e1,e2,e3⟩
structure DpB (w:World) (lo cb pb K Kb ms:Nat) (hd:Int) (W:World) (u1 u2 u3:Value):Prop where
 below:Below w.heap.size w W
 cur:Cur W cb K
 spl:SpS W lo Kb u1 u2 u3
 box:W.rowIs pb 27 5 (fun i=>(#[.int .i64 (ms:Int),u1,u2,u3,.int .i64 hd]:Array Value)[i]!)
 res:∃ g,W.rowIs w.heap.size 27 5 g
def zxu (w:World) (e:Ending) (w':World):Prop:=∃ (v1 v2 v3:Value) (p:PlanD),e = .returned (.agg #[.int .i64 p.sections,v1,v2,v3,.int .i64 p.hold]) ∧ PlanAt (fun c=>w.heap.size ≤ c ∧ c < w'.heap.size) w' v1 v2 v3 p ∧ WaysC (fun c=>w.heap.size ≤ c ∧ c < w'.heap.size) w' v2 p.ways ∧ p.Small 1048576 ∧ Below w.heap.size w w'
theorem DpB.put {w:World} {lo cb pb K Kb ms ms' L Lb:Nat} {hd hd':Int} {W W4:World} {u1 u2 u3 t1 t2 t3:Value} (h:DpB w lo cb pb K Kb ms hd W u1 u2 u3) (h1:w.heap.size < cb) (h2:cb < lo) (h3:lo ≤ pb) (hS:SpS W4 lo Lb t1 t2 t3) (hc:Cur W4 cb L) (hB:But (fun c=>c < lo ∧ c ≠ cb) W W4) (hk:∀ (b:Nat) f,b < W.heap.size → W.rowIs b 27 5 f → W4.rowIs b 27 5 f) :
  DpB w lo cb pb L Lb ms' hd' (((((W4.setCell ⟨pb,0,none⟩ (.int .i64 (ms':Int))).setCell ⟨pb,1,none⟩ t1).setCell ⟨pb,2,none⟩ t2).setCell ⟨pb,3,none⟩ t3).setCell ⟨pb,4,none⟩ (.int .i64 hd')) t1 t2 t3:=by
 have hj:∀ o:Nat,¬ ((fun c=>c ≠ pb) (⟨pb,o,none⟩:Addr).block):=fun o z=>z rfl;have hB2:=(((((But.refl (fun c=>c ≠ pb) W4).setCell (hj 0) (.int .i64 (ms':Int))).setCell (hj 1) t1).setCell (hj 2) t2).setCell (hj 3) t3).setCell (hj 4) (.int .i64 hd');obtain ⟨g,hg⟩:=h.res;have hp:=hk pb _ h.box.lt h.box;have hw1:=h.below.trans (hB.below h.below.size fun c hc=>⟨by omega,by omega⟩);refine ⟨hw1.trans (hB2.below hw1.size fun c hc=>by omega),hc.but hB2 fun b hb=>by omega,hS.typ (.of_but hp zwz hB2),(((((hp.set 0 _).set 1 _).set 2 _).set 3 _).set 4 _).congr fun i hi=>?_,⟨g,hB2.row (hk _ _ hg.lt hg) (by omega)⟩⟩;rcases i with _ | _ | _ | _ | _ | i
 ·rfl
 ·rfl
 ·rfl
 ·rfl
 ·rfl
 ·omega
theorem DpB.ret {w:World} {lo cb pb K Kb ms:Nat} {hd:Int} {W:World} {u1 u2 u3:Value} (h:DpB w lo cb pb K Kb ms hd W u1 u2 u3) (h1:w.heap.size < lo) (hK:Kb ≤ 1000) :
  zxu w (.returned (.agg #[.int .i64 (ms:Int),u1,u2,u3,.int .i64 hd])) (((((W.setCell ⟨w.heap.size,0,none⟩ (.int .i64 (ms:Int))).setCell ⟨w.heap.size,1,none⟩ u1).setCell ⟨w.heap.size,2,none⟩ u2).setCell ⟨w.heap.size,3,none⟩ u3).setCell ⟨w.heap.size,4,none⟩ (.int .i64 hd)):=by
 have hj:∀ o:Nat,¬ ((fun c=>c ≠ w.heap.size) (⟨w.heap.size,o,none⟩:Addr).block):=fun o z=>z rfl;have hB2:=(((((But.refl (fun c=>c ≠ w.heap.size) W).setCell (hj 0) (.int .i64 (ms:Int))).setCell (hj 1) u1).setCell (hj 2) u2).setCell (hj 3) u3).setCell (hj 4) (.int .i64 hd);obtain ⟨g,hg⟩:=h.res;obtain ⟨p,rfl',rfl2,hp,hw,hs⟩:=(h.spl.typ (.of_but hg zwz hB2)).plan hK (ms:Int) hd;have hin:∀ b,lo ≤ b ∧ b < (((((W.setCell ⟨w.heap.size,0,none⟩ (.int .i64 (ms:Int))).setCell ⟨w.heap.size,1,none⟩ u1).setCell ⟨w.heap.size,2,none⟩ u2).setCell ⟨w.heap.size,3,none⟩ u3).setCell ⟨w.heap.size,4,none⟩ (.int .i64 hd)).heap.size → w.heap.size ≤ b ∧ b < (((((W.setCell ⟨w.heap.size,0,none⟩ (.int .i64 (ms:Int))).setCell ⟨w.heap.size,1,none⟩ u1).setCell ⟨w.heap.size,2,none⟩ u2).setCell ⟨w.heap.size,3,none⟩ u3).setCell ⟨w.heap.size,4,none⟩ (.int .i64 hd)).heap.size:=fun b hb=>⟨by omega,hb.2⟩;exact ⟨u1,u2,u3,p,by rw [rfl',rfl2],hp.keep (zax _ _) hin,hw.keep (zax _ _) hin,hs,h.below.trans (hB2.below h.below.size fun c hc=>by omega)⟩
theorem zxp {W:World} {lo:Nat} {v1 v2 v3:Value} {ns hold:Int} {l:List Int} {ws:List (WayQ × WayD)} {rs:List (Value × List Bool)} (hR:Right ⟨ns,l,ws.map Prod.snd,rs.map Prod.snd,hold⟩) (h1:W.ownsRow lo 3 1 v1 l.length (zcg l)) (h2:WaysO W lo v2 ws) (h3:RowsO W lo v3 rs):SpS W lo 30 v1 v2 v3:=by
 have hp:=hR.parts;have e1:l.length ≤ 40:=hp.1.2.1;have e2:(ws.map Prod.snd).length ≤ 100:=hp.1.2.2.1;have e3:(rs.map Prod.snd).length = (ws.map Prod.snd).length:=hp.2.2.2.1;rw [List.length_map] at e2;rw [List.length_map,List.length_map] at e3;refine ⟨⟨l,h1,by omega⟩,⟨ws,h2,e2,fun x hx=>?_⟩,⟨rs,h3.q,by omega,fun x hx=>?_⟩⟩
 ·obtain ⟨i,hi⟩:=List.getElem?_of_mem (show x.2 ∈ ws.map Prod.snd from List.mem_map.2 ⟨x,hx,rfl⟩);exact (hR.way (x:=x.2) hi).small
 ·obtain ⟨i,hi⟩:=List.getElem?_of_mem (show x.2 ∈ rs.map Prod.snd from List.mem_map.2 ⟨x,hx,rfl⟩);have hl:x.2.length = (ws.map Prod.snd).length:=Decidable.byContradiction fun hn=>hp.2.2.2.2.1 i ((zec hi).2 hn);rw [List.length_map] at hl;omega
set_option maxRecDepth 100000 in
set_option maxHeartbeats 8000000 in
theorem zw3 (a:Option Addr) (n c:Nat) (w:World) (hv:Bys (In w) w (.slice a n c) n) (hn:n ≤ 1048576) :
  Calls Tryz.prog 31 #[.slice a n c] w fun e w'=>zxu w e w':=by
 have T0:=zbc w 27 74 #[.int .i64 0,.slice none 0 0,.slice none 0 0,.slice none 0 0,.int .i64 0] #[.slice a n c,.int .i64 0,.int .u64 0];obtain ⟨W0,hW0⟩:∃ W,W = (w.alloc (.cells #[.int .i64 0,.slice none 0 0,.slice none 0 0,.slice none 0 0,.int .i64 0] 27)).alloc (.cells #[.slice a n c,.int .i64 0,.int .u64 0] 74):=⟨_,rfl⟩;rw [← hW0] at T0;have hc0:Cur W0 (w.heap.size + 1) 0:=⟨a,n,c,0,0,T0.row 1 _ _ rfl,hv.keep (za0 T0.below fun b (hb:b < w.heap.size)=>hb) fun b (hb:b < w.heap.size)=>Nat.lt_succ_of_lt hb,hn,Nat.le_refl _,by decide,by decide⟩;have hr0:=T0.row 0 _ _ rfl;rw [Nat.add_zero] at hr0
 have hz0:w.heap.size + 2 = W0.heap.size:=by rw [hW0,World.size_alloc,World.size_alloc]
 have HPLAN:=zaa (zw8 (w.heap.size + 1) 0 W0 hc0 (by omega));have HT0:=zaa T0;have HR0:=zaa hr0;clear T0 hc0 hr0 hv;go_enter Tryz.func31,Tryz.ntmps31
 go_wp2_with fail
 rw [← hW0];clear hW0;refine HPLAN.out.mono ?_;clear HPLAN;rintro e w2 ⟨v1,v2,v3,ns,hold,l,ws,rs,rfl,hR,hs1,hws,hrs,hc2,hB2⟩;have hsp:=zxp hR hs1 hws hrs
 obtain ⟨ms,hms,rfl⟩:∃ m:Nat,m ≤ 61 ∧ ns = (m:Int):=by
  have h:=hR.parts.1.1;have h1:(1:Int) ≤ ns:=h.1;have h2:ns ≤ (60:Int):=h.2;exact ⟨ns.toNat,by omega,by omega⟩
 obtain ⟨a1,a2,a3,n1,c1,n2,c2,n3,c3,rfl,rfl,rfl⟩:=hsp.slices;have hr2:=hB2.row HR0.out (by omega);have hbw:Below w.heap.size w w2:=HT0.out.below.trans (hB2.below HT0.out.below.size fun c hc=>by omega);have hbn:=zab w2 (.cells #[.int .i64 (ms:Int),.slice a1 n1 c1,.slice a2 n2 c2,.slice a3 n3 c3,.int .i64 hold] 27);have hsz:W0.heap.size ≤ w2.heap.size:=hB2.size
 have hD:DpB w W0.heap.size (w.heap.size + 1) w2.heap.size (0 + 1000) 30 ms hold (w2.alloc (.cells #[.int .i64 (ms:Int),.slice a1 n1 c1,.slice a2 n2 c2,.slice a3 n3 c3,.int .i64 hold] 27)) (.slice a1 n1 c1) (.slice a2 n2 c2) (.slice a3 n3 c3):=
  ⟨hbw.trans (hbn.mono hbw.size),hc2.but (Q:=fun _=>True) (But.of_calls hbn) fun _ _=>trivial,hsp.typ (.of_calls hbn),zak w2 27 #[.int .i64 (ms:Int),.slice a1 n1 c1,.slice a2 n2 c2,.slice a3 n3 c3,.int .i64 hold],⟨_,zah hr2 hbn⟩⟩
 obtain ⟨W3,hW3⟩:∃ W,W = w2.alloc (.cells #[.int .i64 (ms:Int),.slice a1 n1 c1,.slice a2 n2 c2,.slice a3 n3 c3,.int .i64 hold] 27):=⟨_,rfl⟩;obtain ⟨pb,hpb⟩:∃ b,b = w2.heap.size:=⟨_,rfl⟩;obtain ⟨lo,hlo⟩:∃ b,b = W0.heap.size:=⟨_,rfl⟩;rw [← hW3,← hpb,← hlo] at hD
 have hlp:lo ≤ pb:=by omega
 have hlw:lo = w.heap.size + 2:=by omega
 have HD:=zaa hD;clear hR hs1 hws hrs hc2 hB2 hsp hr2 hbw hbn hsz hD HT0 HR0 hz0 hlo
 go_upto_region 3 with fail
 rw [← hW3,← hpb];clear hW3 hpb;have HCP:=zaa (zap (w.heap.size + 1) (0 + 1000) 3 W3 HD.out.cur (by omega) (by omega))
 go_wp2_with fail
 refine HCP.out.mono ?_;rintro e w4 ⟨k0,rfl,hk0,hc4,hB4⟩
 have hD4:DpB w lo (w.heap.size + 1) pb (0 + 1000 + 2) 30 ms hold w4 (.slice a1 n1 c1) (.slice a2 n2 c2) (.slice a3 n3 c3):=by
  obtain ⟨q1,q2,q3,q4,q5,hcr,-⟩:=HD.out.cur;obtain ⟨g,hg⟩:=HD.out.res;exact ⟨HD.out.below.trans (hB4.below HD.out.below.size fun c hc=>by omega),hc4,HD.out.spl.typ (.of_but hcr zxj hB4),hB4.row HD.out.box (by omega),⟨g,hB4.row hg (by omega)⟩⟩
 have HD4:=zaa hD4
 have hk3:k0 ≤ 2:=by omega
 clear HCP HD hc4 hB4 hk0 hD4;go_wp2
 go_loopw [5] (fun z wr=>∃ (k K Kb ms:Nat) (hd:Int) (u1 u2 u3:Value),k ≤ 2 ∧ z = .int .i64 (k:Int) ∧ K + 20 * k ≤ 1100 ∧ Kb + k ≤ 40 ∧ ms ≤ 61 ∧ DpB w lo (w.heap.size + 1) pb K Kb ms hd wr u1 u2 u3) (fun z _=>(intOf z).toNat)
 case atStart=>exact ⟨k0,_,_,ms,hold,_,_,_,hk3,rfl,by omega,by omega,hms,HD4.out⟩
 case round=>
  obtain ⟨k,K,Kb,ns,hd,u1,u2,u3,hk,rfl,hK,hKb,hns,hD⟩:=hrel;rename World=>wr;clear HD4;obtain ⟨b1,b2,b3,m1,d1,m2,d2,m3,d3,rfl,rfl,rfl⟩:=hD.spl.slices;have e0:=hD.box.cell (i:=0) (by show 0 < 5; omega);have e1:=hD.box.cell (i:=1) (by show 1 < 5; omega);have e2:=hD.box.cell (i:=2) (by show 2 < 5; omega);have e3:=hD.box.cell (i:=3) (by show 3 < 5; omega);have e4:=hD.box.cell (i:=4) (by show 4 < 5; omega);by_cases hz:0 < k
  ·have hzi:decide ((0:Int) < (k:Int)) = true:=decide_eq_true (by omega);have hlr:lo ≤ wr.heap.size:=Nat.le_trans hlp (Nat.le_of_lt hD.box.lt);have HSP:=zaa (zw9 (w.heap.size + 1) K lo Kb ns _ _ _ hd wr hD.cur (by omega) hns hD.spl (by omega) hlr (by omega));have HD:=zaa hD;clear hD hlr
   go_wp2_with fail
   refine HSP.out.mono ?_;clear e0 e1 e2 e3 e4 HSP;rintro e w5 ⟨t1,t2,t3,ns',hd',rfl,hns',hS5,hc5,hB5,hk5⟩;obtain ⟨b1',b2',b3',m1',d1',m2',d2',m3',d3',rfl,rfl,rfl⟩:=hS5.slices;have hp5:=hk5 pb _ HD.out.box.lt HD.out.box;have r0:=hp5.cell (i:=0) (by show 0 < 5; omega);have r1:=hp5.cell (i:=1) (by show 1 < 5; omega);have r2:=hp5.cell (i:=2) (by show 2 < 5; omega);have r3:=hp5.cell (i:=3) (by show 3 < 5; omega);have r4:=hp5.cell (i:=4) (by show 4 < 5; omega);have f0:=hp5.frozen 0;have f1:=hp5.frozen 1;have f2:=hp5.frozen 2;have f3:=hp5.frozen 3;have f4:=hp5.frozen 4;have FIN:=zaa (HD.out.put (ms':=ns') (hd':=hd') (by omega) (by omega) hlp hS5 hc5 hB5 hk5);clear hS5 hc5 hB5 hk5 hp5 HD;go_wp2;go_roundw
   case rel=>exact ⟨k - 1,K + 20,Kb + 1,ns',hd',_,_,_,by omega,by go_num,by omega,by omega,hns',FIN.out⟩
   case measure=>simp [intOf]; omega
  ·have hzi:decide ((0:Int) < (k:Int)) = false:=decide_eq_false (by omega);obtain ⟨gR,hR⟩:=hD.res;have r0:=hR.cell (i:=0) (by show 0 < 5; omega);have r1:=hR.cell (i:=1) (by show 1 < 5; omega);have r2:=hR.cell (i:=2) (by show 2 < 5; omega);have r3:=hR.cell (i:=3) (by show 3 < 5; omega);have r4:=hR.cell (i:=4) (by show 4 < 5; omega);have f0:=hR.frozen 0;have f1:=hR.frozen 1;have f2:=hR.frozen 2;have f3:=hR.frozen 3;have f4:=hR.frozen 4;have HD:=zaa hD;clear hD hR;go_wp2;refine bodyPost_ret (v:=.agg #[.int .i64 (ns:Int),.slice b1 m1 d1,.slice b2 m2 d2,.slice b3 m3 d3,.int .i64 hd]) (by simp [results,Tryz.results31,go_sem,r0,r1,r2,r3,r4]) rfl ?_;exact HD.out.ret (by omega) (by omega)
end Go.Proofs.YtdhinkgjiapigaaGreatDoor

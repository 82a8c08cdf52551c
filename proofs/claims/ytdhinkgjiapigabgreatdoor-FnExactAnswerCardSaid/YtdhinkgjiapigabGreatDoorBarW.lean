import Derived.Test.YtdhinkgjiapigabGreatDoorWantA
import Derived.Test.YtdhinkgjiapigabGreatDoorImpl
import Derived.Test.YtdhinkgjiapigabGreatDoorToA
import Derived.Test.YtdhinkgjiapigabGreatDoorRanA
import Derived.Test.YtdhinkgjiapigabGreatDoorSpec7
import Derived.Test.YtdhinkgjiapigabGreatDoorPlI
namespace Go.Proofs.YtdhinkgjiapigabGreatDoor
open Go.RowKit Go.Deep Go.Shelf
open Classical
set_option maxHeartbeats 1000000 in
theorem ze9 (n hd ok p1 p2 p3 f1 f2 f3:Value) (k x:Int) (w:World) :
  Calls Tryz.prog 203 #[.agg #[n,p1,p2,p3,hd,ok,f1,f2,f3,.int .i64 k],.int .i64 x] w fun e w'=>e = .returned (.bool (x != k)) ∧ Below w.heap.size w w':=by
 have T0:=zaw w 134 #[n,p1,p2,p3,hd,ok,f1,f2,f3,.int .i64 k];have r9:=T0.cell (j:=0) (i:=9) rfl rfl;rw [Nat.add_zero] at r9;have HT:=zaa T0.below;clear T0;go_enter Tryz.func203,Tryz.ntmps203;go_wp2;go_ret;exact ⟨rfl,HT.out⟩
set_option maxHeartbeats 1000000 in
theorem zga (n hd ok p1 p2 p3 f1 f2 f3:Value) (k:Int) (occ:List Bool) (s:Nat) (o:Bool) (w:World) (hf:Bools (In w) w f1 occ) (hs:occ[s]? = some o) (_hl:occ.length ≤ 1048576) :
  Calls Tryz.prog 165 #[.agg #[n,p1,p2,p3,hd,ok,f1,f2,f3,.int .i64 k],.int .i64 (s:Int)] w fun e w'=>e = .returned (.bool o) ∧ Below w.heap.size w w':=by
 obtain ⟨af,cf,rfl,hcf⟩:=hf;have hsl:s < occ.length:=(List.getElem?_eq_some_iff.1 hs).1;obtain h0 | ⟨bf,of,rfl,hbf,hch⟩:=hcf
 ·omega
 have j0:=hch s hsl o hs;have T0:=zaw w 134 #[n,p1,p2,p3,hd,ok,.slice (some ⟨bf,of,none⟩) occ.length cf,f2,f3,.int .i64 k];have g0:=(T0.below.cell (p:=⟨bf,of + s,none⟩) hbf).trans j0;have r6:=T0.cell (j:=0) (i:=6) rfl rfl;rw [Nat.add_zero] at r6
 have hsl':(s:Int) < (occ.length:Int):=by omega
 have HT:=zaa T0.below;clear j0 hch hs T0;go_enter Tryz.func165,Tryz.ntmps165;go_wp2;go_ret;exact ⟨rfl,HT.out⟩
set_option maxRecDepth 100000 in
set_option maxHeartbeats 2000000 in
theorem zjk (n hd ok p1 p2 p3 f1 f2 f3:Value) (k:Int) (points:List (Int × Int)) (q:Nat) (l:Int) (pt:Int × Int) (w:World) (hf:Lies (In w) w f2 points) (hq:points[q]? = some pt) (_hl:points.length ≤ 1048576) :
  Calls Tryz.prog 200 #[.agg #[n,p1,p2,p3,hd,ok,f1,f2,f3,.int .i64 k],.agg #[.int .i64 (q:Int),.int .i64 l]] w fun e w'=>e = .returned (.bool (pt.1 != l)) ∧ Below w.heap.size w w':=by
 obtain ⟨af,cf,rfl,hcf⟩:=hf;have hsl:q < points.length:=(List.getElem?_eq_some_iff.1 hq).1;obtain h0 | ⟨bf,of,rfl,hbf,hch⟩:=hcf
 ·omega
 obtain ⟨j0,-⟩:=hch q hsl pt hq;have T0:=zbc w 134 175 #[n,p1,p2,p3,hd,ok,f1,.slice (some ⟨bf,of,none⟩) points.length cf,f3,.int .i64 k] #[.int .i64 (q:Int),.int .i64 l];have hne:=Ext.any ((w.alloc (.cells #[n,p1,p2,p3,hd,ok,f1,.slice (some ⟨bf,of,none⟩) points.length cf,f3,.int .i64 k] 134)).alloc (.cells #[.int .i64 (q:Int),.int .i64 l] 175));have G0:=Ext.cell ((T0.below.cell (p:=⟨bf,of + q * 2,none⟩) hbf).trans j0);have R7:=Ext.cell (T0.cell (j:=0) (i:=7) rfl rfl);have L0:=Ext.cell (T0.cell (j:=1) (i:=0) rfl rfl);have L1:=Ext.cell (T0.cell (j:=1) (i:=1) rfl rfl);rw [Nat.add_zero] at R7
 have hsl':(q:Int) < (points.length:Int):=by omega
 have HT:=zaa T0;clear j0 hch hq T0;go_enter Tryz.func200,Tryz.ntmps200;go_wp2;refine zaj (by kernel_rfl) (by kernel_rfl) ?_
 repeat (go_big_quiet_step (fail))
 refine wpQuiet_nil ?_;rintro _ ⟨nq,rfl⟩;go_wp2;go_ret;exact ⟨rfl,(HT.out.call nq.below).below⟩
set_option maxRecDepth 100000 in
set_option maxHeartbeats 2000000 in
theorem zo3 (n hd ok p1 p2 p3 f1 f2 f3:Value) (k:Int) (sw:List Int) (occ:List Bool) (q s:Nat) (l:Int) (o:Bool) (w:World) (hsw:Ints (In w) w p1 sw) (hf:Bools (In w) w f1 occ) (hq:sw[q]? = some (s:Int)) (hs:occ[s]? = some o) (_hl:sw.length ≤ 1048576) (hlo:occ.length ≤ 1048576)
  (hn:∃ z,n = .int .i64 z) (hhd:∃ z,hd = .int .i64 z) (hok:∃ z,ok = .bool z) (hp2:∃ a l c,p2 = .slice a l c) (hp3:∃ a l c,p3 = .slice a l c) (hf2:∃ a l c,f2 = .slice a l c) (hf3:∃ a l c,f3 = .slice a l c) :
  Calls Tryz.prog 160 #[.agg #[n,p1,p2,p3,hd,ok,f1,f2,f3,.int .i64 k],.agg #[.int .i64 (q:Int),.int .i64 l]] w fun e w'=>e = .returned (.bool o) ∧ Below w.heap.size w w':=by
 obtain ⟨nz,rfl⟩:=hn;obtain ⟨hz,rfl⟩:=hhd;obtain ⟨oz,rfl⟩:=hok;obtain ⟨x2,y2,z2,rfl⟩:=hp2;obtain ⟨x3,y3,z3,rfl⟩:=hp3;obtain ⟨u2,v2,t2,rfl⟩:=hf2;obtain ⟨u3,v3,t3,rfl⟩:=hf3;have HF:=zaa hf;obtain ⟨af,cf,rfl⟩:=hf.size;obtain ⟨a1,c1,rfl,hc1⟩:=hsw;have hql:q < sw.length:=(List.getElem?_eq_some_iff.1 hq).1;obtain h0 | ⟨b1,o1,rfl,hb1,hch⟩:=hc1
 ·omega
 have j0:=hch q hql _ hq;have T0:=zbc w 134 175 #[.int .i64 nz,.slice (some ⟨b1,o1,none⟩) sw.length c1,.slice x2 y2 z2,.slice x3 y3 z3,.int .i64 hz,.bool oz,.slice af occ.length cf,.slice u2 v2 t2,.slice u3 v3 t3,.int .i64 k] #[.int .i64 (q:Int),.int .i64 l];have hoc:∀ m:Ext ((w.alloc (.cells #[.int .i64 nz,.slice (some ⟨b1,o1,none⟩) sw.length c1,.slice x2 y2 z2,.slice x3 y3 z3,.int .i64 hz,.bool oz,.slice af occ.length cf,.slice u2 v2 t2,.slice u3 v3 t3,.int .i64 k] 134)).alloc (.cells #[.int .i64 (q:Int),.int .i64 l] 175)),Calls Tryz.prog 165 #[.agg #[.int .i64 nz,.slice (some ⟨b1,o1,none⟩) sw.length c1,.slice x2 y2 z2,.slice x3 y3 z3,.int .i64 hz,.bool oz,.slice af occ.length cf,.slice u2 v2 t2,.slice u3 v3 t3,.int .i64 k],.int .i64 (s:Int)] m.w fun e w'=>e = .returned (.bool o) ∧ Below m.w.heap.size m.w w':=fun m=>zga _ _ _ _ _ _ _ _ _ k occ s o m.w (HF.out.keep (In.keep (T0.call m.below).below).1 (In.keep (T0.call m.below).below).2) hs hlo;have HOC:=zaa hoc;have hne:=Ext.any ((w.alloc (.cells #[.int .i64 nz,.slice (some ⟨b1,o1,none⟩) sw.length c1,.slice x2 y2 z2,.slice x3 y3 z3,.int .i64 hz,.bool oz,.slice af occ.length cf,.slice u2 v2 t2,.slice u3 v3 t3,.int .i64 k] 134)).alloc (.cells #[.int .i64 (q:Int),.int .i64 l] 175));have G0:=Ext.cell ((T0.below.cell (p:=⟨b1,o1 + q,none⟩) hb1).trans j0);have R0:=Ext.cell (T0.cell (j:=0) (i:=0) rfl rfl);have R1:=Ext.cell (T0.cell (j:=0) (i:=1) rfl rfl);have R2:=Ext.cell (T0.cell (j:=0) (i:=2) rfl rfl);have R3:=Ext.cell (T0.cell (j:=0) (i:=3) rfl rfl);have R4:=Ext.cell (T0.cell (j:=0) (i:=4) rfl rfl);have R5:=Ext.cell (T0.cell (j:=0) (i:=5) rfl rfl);have R6:=Ext.cell (T0.cell (j:=0) (i:=6) rfl rfl);have R7:=Ext.cell (T0.cell (j:=0) (i:=7) rfl rfl);have R8:=Ext.cell (T0.cell (j:=0) (i:=8) rfl rfl);have R9:=Ext.cell (T0.cell (j:=0) (i:=9) rfl rfl);have L0:=Ext.cell (T0.cell (j:=1) (i:=0) rfl rfl);rw [Nat.add_zero] at R0 R1 R2 R3 R4 R5 R6 R7 R8 R9
 have hql':(q:Int) < (sw.length:Int):=by omega
 have HT:=zaa T0;clear hoc j0 hch hq hs T0 hf;go_enter Tryz.func160,Tryz.ntmps160;go_wp2;refine zaj (by kernel_rfl) (by kernel_rfl) ?_
 repeat (go_big_quiet_step ((go_at_call 165; exact zaz (HOC.out _))))
 refine wpQuiet_nil ?_;rintro _ ⟨nq,rfl⟩;go_wp2;go_ret;exact ⟨rfl,(HT.out.call nq.below).below⟩
end Go.Proofs.YtdhinkgjiapigabGreatDoor
namespace Go.Proofs.YtdhinkgjiapigabGreatDoor
open Go.RowKit Go.Deep
open Classical
theorem zek (A C:Nat):zko A C = .agg #[.int .u32 (A:Int),.int .u32 (C:Int)]:=rfl
set_option maxRecDepth 100000 in
set_option maxHeartbeats 4000000 in
theorem zkm (n:Int) (p1 p2 p3 hd xs xo x1 x2 x4 ys yo y1 y2 y4:Value) (lx ox ly oy:List Int) (w:World) (hxs:Ints (In w) w xs lx) (hxo:Ints (In w) w xo ox) (hys:Ints (In w) w ys ly) (hyo:Ints (In w) w yo oy)
  (kx:ListOk n lx) (kxo:ListOk n ox) (ky:ListOk n ly) (kyo:ListOk n oy) (h60:n ≤ 60) :
  Calls Tryz.prog 204 #[.agg #[.int .i64 n,p1,p2,p3,hd],.agg #[xs,x1,x2,xo,x4],.agg #[ys,y1,y2,yo,y4]] w fun e w'=>e = .returned (.bool (B (Meet lx oy) || B (Meet ox ly))) ∧ Below w.heap.size w w':=by
 have T0:=zbs w 37 122 122 #[.int .i64 n,p1,p2,p3,hd] #[xs,x1,x2,xo,x4] #[ys,y1,y2,yo,y4]
 have hm:∀ l,ListOk n l → ∀ z ∈ l,0 ≤ z ∧ z < 64:=fun l hl z hz=>by
  obtain ⟨j,hj⟩:=List.getElem?_of_mem hz;have:=(hl.1 j (List.getElem?_eq_some_iff.1 hj).1 z hj).1;exact ⟨this.1,by have:=this.2; omega⟩
 have K1:=zaa fun (W:World) (h:Below w.heap.size w W)=>hxs.keep (Q:=In W) (In.keep h).1 (In.keep h).2;have K2:=zaa fun (W:World) (h:Below w.heap.size w W)=>hxo.keep (Q:=In W) (In.keep h).1 (In.keep h).2;have K3:=zaa fun (W:World) (h:Below w.heap.size w W)=>hys.keep (Q:=In W) (In.keep h).1 (In.keep h).2;have K4:=zaa fun (W:World) (h:Below w.heap.size w W)=>hyo.keep (Q:=In W) (In.keep h).1 (In.keep h).2;obtain ⟨a1,c1,rfl⟩:=hxs.size;obtain ⟨a2,c2,rfl⟩:=hxo.size;obtain ⟨a3,c3,rfl⟩:=hys.size;obtain ⟨a4,c4,rfl⟩:=hyo.size;have G:=zaa (And.intro kx (And.intro kxo (And.intro ky kyo)));have HM:=zaa hm;clear hxs hxo hys hyo hm kx kxo ky kyo;go_enter Tryz.func204,Tryz.ntmps204;have b0:=T0.cell (j:=0) (i:=0) rfl rfl;have b1:=T0.cell (j:=0) (i:=1) rfl rfl;have b2:=T0.cell (j:=0) (i:=2) rfl rfl;have b3:=T0.cell (j:=0) (i:=3) rfl rfl;have b4:=T0.cell (j:=0) (i:=4) rfl rfl;rw [Nat.add_zero] at b0 b1 b2 b3 b4;have e0:=T0.cell (j:=1) (i:=0) rfl rfl
 go_wp2_with fail
 refine (zcp n _ _ _ _ _ lx _ (K1.out _ T0.below) (Nat.le_trans G.out.1.2 (by omega)) h60).mono ?_;clear b0 b1 b2 b3 b4 e0;rintro e w1 ⟨A1,C1,rfl,hset1,hb⟩;rw [zam G.out.1,zek];have S1:=zaa (hset1 G.out.1);have T1a:=T0.call hb;have hbn1:=zab w1 (.cells #[.int .u32 (A1:Int),.int .u32 (C1:Int)] 268);have T1:=T1a.call hbn1;have X1_1:=zaw w1 268 #[.int .u32 (A1:Int),.int .u32 (C1:Int)];clear hb hset1 T0 T1a hbn1;have b0:=T1.cell (j:=0) (i:=0) rfl rfl;have b1:=T1.cell (j:=0) (i:=1) rfl rfl;have b2:=T1.cell (j:=0) (i:=2) rfl rfl;have b3:=T1.cell (j:=0) (i:=3) rfl rfl;have b4:=T1.cell (j:=0) (i:=4) rfl rfl;rw [Nat.add_zero] at b0 b1 b2 b3 b4;have e0:=T1.cell (j:=1) (i:=3) rfl rfl
 go_wp2_with fail
 refine (zcp n _ _ _ _ _ ox _ (K2.out _ T1.below) (Nat.le_trans G.out.2.1.2 (by omega)) h60).mono ?_;clear b0 b1 b2 b3 b4 e0;rintro e w2 ⟨A2,C2,rfl,hset2,hb⟩;rw [zam G.out.2.1,zek];have S2:=zaa (hset2 G.out.2.1);have T2a:=T1.call hb;have X1_2:=X1_1.call hb;have hbn2:=zab w2 (.cells #[.int .u32 (A2:Int),.int .u32 (C2:Int)] 268);have T2:=T2a.call hbn2;have X2_2:=zaw w2 268 #[.int .u32 (A2:Int),.int .u32 (C2:Int)];replace X1_2:=X1_2.call hbn2;clear hb hset2 T1 T2a hbn2;clear X1_1;have b0:=T2.cell (j:=0) (i:=0) rfl rfl;have b1:=T2.cell (j:=0) (i:=1) rfl rfl;have b2:=T2.cell (j:=0) (i:=2) rfl rfl;have b3:=T2.cell (j:=0) (i:=3) rfl rfl;have b4:=T2.cell (j:=0) (i:=4) rfl rfl;rw [Nat.add_zero] at b0 b1 b2 b3 b4;have e0:=T2.cell (j:=2) (i:=0) rfl rfl
 go_wp2_with fail
 refine (zcp n _ _ _ _ _ ly _ (K3.out _ T2.below) (Nat.le_trans G.out.2.2.1.2 (by omega)) h60).mono ?_;clear b0 b1 b2 b3 b4 e0;rintro e w3 ⟨A3,C3,rfl,hset3,hb⟩;rw [zam G.out.2.2.1,zek];have S3:=zaa (hset3 G.out.2.2.1);have T3a:=T2.call hb;have X1_3:=X1_2.call hb;have X2_3:=X2_2.call hb;have hbn3:=zab w3 (.cells #[.int .u32 (A3:Int),.int .u32 (C3:Int)] 268);have T3:=T3a.call hbn3;have X3_3:=zaw w3 268 #[.int .u32 (A3:Int),.int .u32 (C3:Int)];replace X1_3:=X1_3.call hbn3;replace X2_3:=X2_3.call hbn3;clear hb hset3 T2 T3a hbn3;clear X1_2;clear X2_2;have b0:=T3.cell (j:=0) (i:=0) rfl rfl;have b1:=T3.cell (j:=0) (i:=1) rfl rfl;have b2:=T3.cell (j:=0) (i:=2) rfl rfl;have b3:=T3.cell (j:=0) (i:=3) rfl rfl;have b4:=T3.cell (j:=0) (i:=4) rfl rfl;rw [Nat.add_zero] at b0 b1 b2 b3 b4;have e0:=T3.cell (j:=2) (i:=3) rfl rfl
 go_wp2_with fail
 refine (zcp n _ _ _ _ _ oy _ (K4.out _ T3.below) (Nat.le_trans G.out.2.2.2.2 (by omega)) h60).mono ?_;clear b0 b1 b2 b3 b4 e0;rintro e w4 ⟨A4,C4,rfl,hset4,hb⟩;rw [zam G.out.2.2.2,zek];have S4:=zaa (hset4 G.out.2.2.2);have T4a:=T3.call hb;have X1_4:=X1_3.call hb;have X2_4:=X2_3.call hb;have X3_4:=X3_3.call hb;have hbn4:=zab w4 (.cells #[.int .u32 (A4:Int),.int .u32 (C4:Int)] 268);have T4:=T4a.call hbn4;have X4_4:=zaw w4 268 #[.int .u32 (A4:Int),.int .u32 (C4:Int)];replace X1_4:=X1_4.call hbn4;replace X2_4:=X2_4.call hbn4;replace X3_4:=X3_4.call hbn4;clear hb hset4 T3 T4a hbn4;clear X1_3;clear X2_3;clear X3_3;have r0:=X1_4.cell (j:=0) (i:=0) rfl rfl;have r1:=X1_4.cell (j:=0) (i:=1) rfl rfl;have s0:=X4_4.cell (j:=0) (i:=0) rfl rfl;have s1:=X4_4.cell (j:=0) (i:=1) rfl rfl;rw [Nat.add_zero] at r0 r1 s0 s1
 go_wp2_with fail
 refine (zfc A1 C1 A4 C4 lx oy _ S1.out S4.out (HM.out lx G.out.1)).mono ?_;clear r0 r1 s0 s1;rintro e w5 ⟨rfl,hb⟩;have T5:=T4.call hb;have Y2:=X2_4.call hb;have Y3:=X3_4.call hb;clear hb T4 X1_4 X2_4 X3_4 X4_4;by_cases hmt:Meet lx oy
 ·rw [zam hmt];have HMT:=zaa hmt;have HT:=zaa T5.below;clear hmt T5 Y2 Y3;go_wp2;go_ret;exact ⟨zad (by rw [zam HMT.out]; rfl),HT.out⟩
 ·rw [zae hmt];have HMT:=zaa hmt;clear hmt;have r0:=Y2.cell (j:=0) (i:=0) rfl rfl;have r1:=Y2.cell (j:=0) (i:=1) rfl rfl;have s0:=Y3.cell (j:=0) (i:=0) rfl rfl;have s1:=Y3.cell (j:=0) (i:=1) rfl rfl;rw [Nat.add_zero] at r0 r1 s0 s1;have hq2:=zaa (zfc A2 C2 A3 C3 ox ly w5 S2.out S3.out (HM.out ox G.out.2.1))
  go_wp2_with fail
  refine (hq2.out).mono ?_;clear r0 r1 s0 s1 hq2;rintro e w6 ⟨rfl,hb⟩;have HT:=zaa (T5.call hb).below;clear hb T5 Y2 Y3;go_wp2;go_ret;exact ⟨zad (by rw [zae HMT.out]; rfl),HT.out⟩
end Go.Proofs.YtdhinkgjiapigabGreatDoor
namespace Go.Proofs.YtdhinkgjiapigabGreatDoor
open Go.RowKit Go.Deep Go.Shelf
open Classical
set_option maxRecDepth 100000 in
set_option maxHeartbeats 8000000 in
theorem zjz (p1 p2 p3 ok f1 f2 f3:Value) (p:PlanD) (i j:Nat) (x y:WayD) (row:List Bool) (o:Bool) (w:World) (hp:PlanAt (In w) w p1 p2 p3 p) (hs:p.Small 1048576) (hi:p.ways[i]? = some x) (hj:p.ways[j]? = some y) (hr:p.bars[i]? = some row) (ho:row[j]? = some o) (_hrl:row.length ≤ 1048576)
  (kx:ListOk p.sections x.sections) (kxo:ListOk p.sections x.over) (ky:ListOk p.sections y.sections) (kyo:ListOk p.sections y.over) (h60:p.sections ≤ 60)
  (hok:∃ z,ok = .bool z) (hf1:∃ a l c,f1 = .slice a l c) (hf2:∃ a l c,f2 = .slice a l c) (hf3:∃ a l c,f3 = .slice a l c) :
  Calls Tryz.prog 162 #[.agg #[.int .i64 p.sections,p1,p2,p3,.int .i64 p.hold,ok,f1,f2,f3,.int .i64 (i:Int)],.int .i64 (j:Int)] w fun e w'=>e = .returned (.bool (((j:Int) != (i:Int)) && (o || (B (Meet x.sections y.over) || B (Meet x.over y.sections))))) ∧ Below w.heap.size w w':=by
 obtain ⟨oz,rfl⟩:=hok;obtain ⟨u1,v1,t1,rfl⟩:=hf1;obtain ⟨u2,v2,t2,rfl⟩:=hf2;obtain ⟨u3,v3,t3,rfl⟩:=hf3;obtain ⟨a1,c1,rfl⟩:=hp.1.size;obtain ⟨-,hpw,hpb⟩:=hp;obtain ⟨a2,c2,rfl,hcw⟩:=hpw;obtain ⟨a3,c3,rfl,hcb⟩:=hpb;have hil:i < p.ways.length:=(List.getElem?_eq_some_iff.1 hi).1;have hjl:j < p.ways.length:=(List.getElem?_eq_some_iff.1 hj).1;have hrl':i < p.bars.length:=(List.getElem?_eq_some_iff.1 hr).1;have hol:j < row.length:=(List.getElem?_eq_some_iff.1 ho).1;obtain h0 | ⟨bw,ow,rfl,hbw,hcw⟩:=hcw
 ·omega
 obtain h0 | ⟨bb,ob,rfl,hbb,hcb⟩:=hcb
 ·omega
 obtain ⟨rv,hrv,g0⟩:=hcb i hrl' row hr;obtain ⟨ar,cr,rfl,hcr⟩:=hrv;obtain h0 | ⟨br,or,rfl,hbr,hcr⟩:=hcr
 ·omega
 have g1:=hcr j hol o ho;obtain ⟨x0,x1,x2,x3,x4,hxa,gx0,gx1,gx2,gx3,gx4⟩:=hcw i hil x hi;obtain ⟨y0,y1,y2,y3,y4,hya,gy0,gy1,gy2,gy3,gy4⟩:=hcw j hjl y hj;have hL:=zaa (And.intro hil (And.intro hjl (And.intro hrl' hol)));clear hcw hcb hcr;have T0:=zaw w 134 #[.int .i64 p.sections,.slice a1 p.switches.length c1,.slice (some ⟨bw,ow,none⟩) p.ways.length c2,.slice (some ⟨bb,ob,none⟩) p.bars.length c3,.int .i64 p.hold,.bool oz,.slice u1 v1 t1,.slice u2 v2 t2,.slice u3 v3 t3,.int .i64 (i:Int)];have hia:∀ m:Ext (w.alloc (.cells #[.int .i64 p.sections,.slice a1 p.switches.length c1,.slice (some ⟨bw,ow,none⟩) p.ways.length c2,.slice (some ⟨bb,ob,none⟩) p.bars.length c3,.int .i64 p.hold,.bool oz,.slice u1 v1 t1,.slice u2 v2 t2,.slice u3 v3 t3,.int .i64 (i:Int)] 134)),Calls Tryz.prog 203 #[.agg #[.int .i64 p.sections,.slice a1 p.switches.length c1,.slice (some ⟨bw,ow,none⟩) p.ways.length c2,.slice (some ⟨bb,ob,none⟩) p.bars.length c3,.int .i64 p.hold,.bool oz,.slice u1 v1 t1,.slice u2 v2 t2,.slice u3 v3 t3,.int .i64 (i:Int)],.int .i64 (j:Int)] m.w fun e w'=>e = .returned (.bool ((j:Int) != (i:Int))) ∧ Below m.w.heap.size m.w w':=fun m=>ze9 _ _ _ _ _ _ _ _ _ _ _ m.w
 have hov:∀ m:Ext (w.alloc (.cells #[.int .i64 p.sections,.slice a1 p.switches.length c1,.slice (some ⟨bw,ow,none⟩) p.ways.length c2,.slice (some ⟨bb,ob,none⟩) p.bars.length c3,.int .i64 p.hold,.bool oz,.slice u1 v1 t1,.slice u2 v2 t2,.slice u3 v3 t3,.int .i64 (i:Int)] 134)),Calls Tryz.prog 204 #[.agg #[.int .i64 p.sections,.slice a1 p.switches.length c1,.slice (some ⟨bw,ow,none⟩) p.ways.length c2,.slice (some ⟨bb,ob,none⟩) p.bars.length c3,.int .i64 p.hold],.agg #[x0,x1,x2,x3,x4],.agg #[y0,y1,y2,y3,y4]] m.w fun e w'=>e = .returned (.bool (B (Meet x.sections y.over) || B (Meet x.over y.sections))) ∧ Below m.w.heap.size m.w w':=fun m=>by
  have hb:=(T0.call m.below).below;exact zkm p.sections _ _ _ _ _ _ _ _ _ _ _ _ _ _ x.sections x.over y.sections y.over m.w (hxa.1.keep (In.keep hb).1 (In.keep hb).2) (hxa.2.2.2.1.keep (In.keep hb).1 (In.keep hb).2) (hya.1.keep (In.keep hb).1 (In.keep hb).2) (hya.2.2.2.1.keep (In.keep hb).1 (In.keep hb).2) kx kxo ky kyo h60
 obtain ⟨xa0,xl0,xc0,rfl⟩:∃ a l c,x0 = .slice a l c:=by obtain ⟨a,c,h⟩:=hxa.1.size; exact ⟨_,_,_,h⟩
 obtain ⟨xa1,xl1,xc1,rfl⟩:∃ a l c,x1 = .slice a l c:=by obtain ⟨a,c,h⟩:=hxa.2.1.size; exact ⟨_,_,_,h⟩
 obtain ⟨xa2,xl2,xc2,rfl⟩:∃ a l c,x2 = .slice a l c:=by obtain ⟨a,c,h⟩:=hxa.2.2.1.size; exact ⟨_,_,_,h⟩
 obtain ⟨xa3,xl3,xc3,rfl⟩:∃ a l c,x3 = .slice a l c:=by obtain ⟨a,c,h⟩:=hxa.2.2.2.1.size; exact ⟨_,_,_,h⟩
 obtain ⟨xa4,xl4,xc4,rfl⟩:∃ a l c,x4 = .slice a l c:=by obtain ⟨a,c,h⟩:=hxa.2.2.2.2.size; exact ⟨_,_,_,h⟩
 obtain ⟨ya0,yl0,yc0,rfl⟩:∃ a l c,y0 = .slice a l c:=by obtain ⟨a,c,h⟩:=hya.1.size; exact ⟨_,_,_,h⟩
 obtain ⟨ya1,yl1,yc1,rfl⟩:∃ a l c,y1 = .slice a l c:=by obtain ⟨a,c,h⟩:=hya.2.1.size; exact ⟨_,_,_,h⟩
 obtain ⟨ya2,yl2,yc2,rfl⟩:∃ a l c,y2 = .slice a l c:=by obtain ⟨a,c,h⟩:=hya.2.2.1.size; exact ⟨_,_,_,h⟩
 obtain ⟨ya3,yl3,yc3,rfl⟩:∃ a l c,y3 = .slice a l c:=by obtain ⟨a,c,h⟩:=hya.2.2.2.1.size; exact ⟨_,_,_,h⟩
 obtain ⟨ya4,yl4,yc4,rfl⟩:∃ a l c,y4 = .slice a l c:=by obtain ⟨a,c,h⟩:=hya.2.2.2.2.size; exact ⟨_,_,_,h⟩
 have hne:=Ext.any (w.alloc (.cells #[.int .i64 p.sections,.slice a1 p.switches.length c1,.slice (some ⟨bw,ow,none⟩) p.ways.length c2,.slice (some ⟨bb,ob,none⟩) p.bars.length c3,.int .i64 p.hold,.bool oz,.slice u1 v1 t1,.slice u2 v2 t2,.slice u3 v3 t3,.int .i64 (i:Int)] 134));have G0:=Ext.cell ((T0.below.cell (p:=⟨bb,ob + i,none⟩) hbb).trans g0);have G1:=Ext.cell ((T0.below.cell (p:=⟨br,or + j,none⟩) hbr).trans g1);have Gx0:=Ext.cell ((T0.below.cell (p:=⟨bw,ow + i * 5,none⟩) hbw).trans gx0);have Gx1:=Ext.cell ((T0.below.cell (p:=⟨bw,ow + i * 5 + 1,none⟩) hbw).trans gx1);have Gx2:=Ext.cell ((T0.below.cell (p:=⟨bw,ow + i * 5 + 2,none⟩) hbw).trans gx2);have Gx3:=Ext.cell ((T0.below.cell (p:=⟨bw,ow + i * 5 + 3,none⟩) hbw).trans gx3);have Gx4:=Ext.cell ((T0.below.cell (p:=⟨bw,ow + i * 5 + 4,none⟩) hbw).trans gx4);have Gy0:=Ext.cell ((T0.below.cell (p:=⟨bw,ow + j * 5,none⟩) hbw).trans gy0);have Gy1:=Ext.cell ((T0.below.cell (p:=⟨bw,ow + j * 5 + 1,none⟩) hbw).trans gy1);have Gy2:=Ext.cell ((T0.below.cell (p:=⟨bw,ow + j * 5 + 2,none⟩) hbw).trans gy2);have Gy3:=Ext.cell ((T0.below.cell (p:=⟨bw,ow + j * 5 + 3,none⟩) hbw).trans gy3);have Gy4:=Ext.cell ((T0.below.cell (p:=⟨bw,ow + j * 5 + 4,none⟩) hbw).trans gy4);have R0:=Ext.cell (T0.cell (j:=0) (i:=0) rfl rfl);have R1:=Ext.cell (T0.cell (j:=0) (i:=1) rfl rfl);have R2:=Ext.cell (T0.cell (j:=0) (i:=2) rfl rfl);have R3:=Ext.cell (T0.cell (j:=0) (i:=3) rfl rfl);have R4:=Ext.cell (T0.cell (j:=0) (i:=4) rfl rfl);have R5:=Ext.cell (T0.cell (j:=0) (i:=5) rfl rfl);have R6:=Ext.cell (T0.cell (j:=0) (i:=6) rfl rfl);have R7:=Ext.cell (T0.cell (j:=0) (i:=7) rfl rfl);have R8:=Ext.cell (T0.cell (j:=0) (i:=8) rfl rfl);have R9:=Ext.cell (T0.cell (j:=0) (i:=9) rfl rfl);rw [Nat.add_zero] at R0 R1 R2 R3 R4 R5 R6 R7 R8 R9
 have hil':(i:Int) < (p.ways.length:Int):=by omega
 have hjl':(j:Int) < (p.ways.length:Int):=by omega
 have hrl2:(i:Int) < (p.bars.length:Int):=by omega
 have hol':(j:Int) < (row.length:Int):=by omega
 have HT:=zaa T0;have hbl:p.bars.length ≤ 1048576:=hs.2.2.2.1;have hwl:p.ways.length ≤ 1048576:=hs.2.1;clear g0 g1 gx0 gx1 gx2 gx3 gx4 gy0 gy1 gy2 gy3 gy4 hxa hya hi hj hr ho hs kx kxo ky kyo T0 hbb hbw hbr;generalize (B (Meet x.sections y.over) || B (Meet x.over y.sections)) = ov at hov ⊢;generalize ((j:Int) != (i:Int)) = bij at hia ⊢;have HIA:=zaa hia;have HOV:=zaa hov;clear hia hov
 cases bij
 ·go_enter Tryz.func162,Tryz.ntmps162
  go_wp2_with fail
  refine zaj (by kernel_rfl) (by kernel_rfl) ?_
  repeat (go_big_quiet_step (first | (go_at_call 203; exact zaz (HIA.out _)) | (go_at_call 204; exact zaz (HOV.out _))))
  refine wpQuiet_nil ?_;rintro _ ⟨nq,rfl⟩;go_wp2;go_ret;exact ⟨rfl,(HT.out.call nq.below).below⟩
 ·cases o
  ·go_enter Tryz.func162,Tryz.ntmps162
   go_wp2_with fail
   refine zaj (by kernel_rfl) (by kernel_rfl) ?_
   repeat (go_big_quiet_step (first | (go_at_call 203; exact zaz (HIA.out _)) | (go_at_call 204; exact zaz (HOV.out _))))
   refine wpQuiet_nil ?_;rintro _ ⟨nq,rfl⟩;go_wp2;go_ret;exact ⟨rfl,(HT.out.call nq.below).below⟩
  ·go_enter Tryz.func162,Tryz.ntmps162
   go_wp2_with fail
   refine zaj (by kernel_rfl) (by kernel_rfl) ?_
   repeat (go_big_quiet_step (first | (go_at_call 203; exact zaz (HIA.out _)) | (go_at_call 204; exact zaz (HOV.out _))))
   refine wpQuiet_nil ?_;rintro _ ⟨nq,rfl⟩;go_wp2;go_ret;exact ⟨rfl,(HT.out.call nq.below).below⟩
end Go.Proofs.YtdhinkgjiapigabGreatDoor
namespace Go.Proofs.YtdhinkgjiapigabGreatDoor
open Go.RowKit Go.Deep Go.Shelf
open Classical
set_option maxRecDepth 100000 in
set_option maxHeartbeats 2000000 in
theorem zhw (kf:Nat) (recv:Array Value) (v:Value) (l:List Int) (pr:Int → Bool) (w:World) (hv:Ints (In w) w v l) (hl:l.length ≤ 1048576) (ek:∀ args w,(callFunc kf args).run Tryz.prog w = .ok (.enter kf args) w)
  (hkeep:∀ x W,x ∈ l → Below w.heap.size w W → Calls Tryz.prog kf (recv.push (.int .i64 x)) W fun e W'=>e = .returned (.bool (pr x)) ∧ Below W.heap.size W W') :
  Calls Tryz.prog 231 #[v,.func (.func kf) recv #[]] w fun e w'=>∃ r:Int,e = .returned (.int .i64 r) ∧ decide (0 ≤ r) = l.any pr ∧ Below w.heap.size w w':=by
 obtain ⟨a,cap,rfl,hc⟩:=hv;have HC:=zaa hc;have HK:=zaa hkeep;clear hc hkeep;go_enter Tryz.func231,Tryz.ntmps231;go_wp2
 go_loopw [8] (fun z wr=>∃ (i:Nat),i ≤ l.length ∧ z = .int .i64 i ∧ (l.take i).any pr = false ∧ Below w.heap.size w wr) (fun z _=>l.length - (intOf z).toNat)
 case atStart=>exact ⟨0,Nat.zero_le _,rfl,by simp,Below.refl _ _⟩
 case round=>
  obtain ⟨i,hi,rfl,hall,hb⟩:=hrel;have HA:=zaa hall;have HB:=zaa hb;clear hall;by_cases hlt:i < l.length
  ·obtain h0 | ⟨b,off,rfl,hb0,hc⟩:=HC.out
   ·omega
   obtain ⟨y,hy⟩:=zb4 l hlt;have g0:=hc i hlt y hy;rw [← hb.cell (p:=⟨b,_,none⟩) hb0] at g0;have hq:=HK.out y wr (List.mem_of_getElem? hy) hb;have Hy:=zaa hy
   have hlt':(i:Int) < (l.length:Int):=by omega
   clear hy hc hb
   cases hys:pr y
   ·rw [hys] at hq;have HQ:=zaa hq;have HYS:=zaa hys;clear hq hys;go_wp2;refine HQ.out.mono ?_;rintro e w1 ⟨rfl,hb1⟩;have HB1:=zaa hb1;clear hb1;go_wp2;go_roundw
    case rel=>exact ⟨i + 1,by omega,by go_num,zjx HA.out Hy.out HYS.out,HB.out.trans (HB1.out.mono HB.out.size)⟩
    case measure=>simp [intOf]; omega
   ·rw [hys] at hq;have HQ:=zaa hq;have HYS:=zaa hys;clear hq hys;go_wp2;refine HQ.out.mono ?_;rintro e w1 ⟨rfl,hb1⟩;have HB1:=zaa hb1;clear hb1;go_wp2;go_ret;exact ⟨i,rfl,by rw [zny Hy.out HYS.out]; simp,HB.out.trans (HB1.out.mono HB.out.size)⟩
  ·clear hb;go_wp2;go_ret;exact ⟨-1,rfl,by have:=HA.out; rw [List.take_of_length_le (by omega)] at this; rw [this]; rfl,HB.out⟩
set_option maxHeartbeats 1000000 in
theorem zft (kf:Nat) (recv:Array Value) (v:Value) (l:List Int) (pr:Int → Bool) (w:World) (hv:Ints (In w) w v l) (hl:l.length ≤ 1048576) (ek:∀ args w,(callFunc kf args).run Tryz.prog w = .ok (.enter kf args) w)
  (hkeep:∀ x W,x ∈ l → Below w.heap.size w W → Calls Tryz.prog kf (recv.push (.int .i64 x)) W fun e W'=>e = .returned (.bool (pr x)) ∧ Below W.heap.size W W') :
  Calls Tryz.prog 202 #[v,.func (.func kf) recv #[]] w fun e w'=>e = .returned (.bool (l.any pr)) ∧ Below w.heap.size w w':=by
 have HI:=zaa (zhw kf recv v l pr w hv hl ek hkeep);obtain ⟨a,cap,rfl,-⟩:=hv;clear hkeep;go_enter Tryz.func202,Tryz.ntmps202
 go_wp2_with fail
 refine HI.out.mono ?_;rintro e w1 ⟨r,rfl,hr,hb⟩;have HR:=zaa hr;have HB:=zaa hb;clear hr hb;go_wp2;go_ret;exact ⟨zad (by rw [← HR.out]),HB.out⟩
end Go.Proofs.YtdhinkgjiapigabGreatDoor
namespace Go.Proofs.YtdhinkgjiapigabGreatDoor
open Classical
def zjh (a b:List Int):Bool:=a.any fun x=>b.any (· == x)
theorem zl5 (a b:List Int):B (Meet a b) = zjh a b:=by
 by_cases h:Meet a b
 ·rw [zam h];obtain ⟨x,hx,hy⟩:=h;unfold zjh
  symm
  rw [List.any_eq_true];exact ⟨x,hx,List.any_eq_true.2 ⟨x,hy,by simp⟩⟩
 ·rw [zae h]
  symm
  unfold zjh;rw [Bool.eq_false_iff];intro e;obtain ⟨x,hx,e⟩:=List.any_eq_true.1 e;obtain ⟨y,hy,e⟩:=List.any_eq_true.1 e
  have:y = x:=by simpa using e
  exact h ⟨x,hx,this ▸ hy⟩
def ziy (p:PlanD) (i j:Nat):Bool:=match p.ways[i]?,p.ways[j]?,p.bar i j with
 | some x,some y,some o=>((j:Int) != (i:Int)) && (o || (zjh x.sections y.over || zjh x.over y.sections))
 | _,_,_=>false
def zcc (p:PlanD) (d:FrameD) (i:Nat):List Nat:=(za6 d.ways d.ways.length).filter (ziy p i)
def znw (x:WayD):List Nat:=(x.sections ++ x.over).map Int.toNat
theorem znx {x:WayD} (h:∀ s ∈ x.sections ++ x.over,(0:Int) ≤ s):(znw x).map (fun i:Nat=>(i:Int)) = x.sections ++ x.over:=by
 unfold znw;rw [List.map_map]
 conv=>rhs; rw [← List.map_id (x.sections ++ x.over)]
 exact List.map_congr_left fun s hs=>by have:=h s hs; simp; omega
theorem zgv (x:WayD):(znw x).length = x.sections.length + x.over.length:=by unfold znw; rw [List.length_map,List.length_append]
def zgc (occ:List Bool) (x:WayD):List Nat:=(znw x).filter fun s=>occ.getD s false
def zge (points:List (Int × Int)) (q:Int):Int:=((points[q.toNat]?).map fun y=>y.1).getD 0
def zdb (points:List (Int × Int)) (x:WayD):List (Int × Int):=(x.lies ++ x.flanks).filter fun y=>zge points y.1 != y.2
def zph (ih:Bool) (nb ns:Nat) (lk sk:Bool):Int:=if ih then 2 else if 0 < nb then 3 else if 0 < ns then 4 else if lk then 5 else if sk then 6 else 0
def zew (p:PlanD) (d:FrameD) (i:Nat) (y:Int × Int):Bool:=(zbn p d y.1).any fun z=>z != (i:Int)
def zgd (p:PlanD) (d:FrameD) (y:Int × Int):Bool:=d.occ.getD (p.switches.getD y.1.toNat 0).toNat false
def zit (p:PlanD) (d:FrameD) (i:Nat) (x:WayD) (h:HeldD):Int:=zph (h.state != 0) (zcc p d i).length (zgc d.occ x).length ((zdb d.points x).any (zew p d i)) ((zdb d.points x).any (zgd p d))
end Go.Proofs.YtdhinkgjiapigabGreatDoor
namespace Go.Proofs.YtdhinkgjiapigabGreatDoor
open Go.RowKit Go.Deep Go.Shelf
open Classical
theorem znz {p:PlanD} {i j:Nat} {x y:WayD} {o:Bool} (hx:p.ways[i]? = some x) (hy:p.ways[j]? = some y) (ho:p.bar i j = some o):ziy p i j = (((j:Int) != (i:Int)) && (o || (B (Meet x.sections y.over) || B (Meet x.over y.sections)))):=by
 unfold ziy; rw [hx,hy,ho,zl5,zl5]
set_option maxRecDepth 100000 in
set_option maxHeartbeats 8000000 in
theorem zgy (p1 p2 p3 f1 f2 f3:Value) (p:PlanD) (d:FrameD) (i:Nat) (w:World) (hp:PlanAt (In w) w p1 p2 p3 p) (hf:FrameAt (In w) w f1 f2 f3 d) (hs:p.Small 1048576) (hd:d.Small 1048576) (hR:zas p d) (hi:i < p.ways.length) :
  Calls Tryz.prog 118 #[.agg #[.int .i64 p.sections,p1,p2,p3,.int .i64 p.hold,.bool d.ok,f1,f2,f3,.int .i64 (i:Int)]] w fun e w'=>∃ v,e = .returned v ∧ Below w.heap.size w w' ∧ ∃ m,w'.ownsRow w.heap.size 3 1 v m (zl6 (zcc p d i)):=by
 have KP:=zaa fun (W:World) (h:Below w.heap.size w W)=>hp.keep (Q:=In W) (In.keep h).1 (In.keep h).2;have KH:=zaa fun (W:World) (h:Below w.heap.size w W)=>hf.2.2.keep (Q:=In W) (In.keep h).1 (In.keep h).2;obtain ⟨a1,c1,rfl⟩:=hp.1.size;obtain ⟨a2,c2,rfl⟩:=hp.2.1.size;obtain ⟨a3,c3,rfl⟩:=hp.2.2.size;obtain ⟨o1,m1,rfl⟩:=hf.1.size;obtain ⟨o2,m2,rfl⟩:=hf.2.1.size;obtain ⟨o3,m3,rfl⟩:=hf.2.2.size;have HS:=zaa hs;have HD:=zaa hd;have T0:=zaw w 134 #[.int .i64 p.sections,.slice a1 p.switches.length c1,.slice a2 p.ways.length c2,.slice a3 p.bars.length c3,.int .i64 p.hold,.bool d.ok,.slice o1 d.occ.length m1,.slice o2 d.points.length m2,.slice o3 d.ways.length m3,.int .i64 (i:Int)]
 have hq2:Calls Tryz.prog 112 #[.agg #[.bool d.ok,.slice o1 d.occ.length m1,.slice o2 d.points.length m2,.slice o3 d.ways.length m3]] (w.alloc (.cells #[.int .i64 p.sections,.slice a1 p.switches.length c1,.slice a2 p.ways.length c2,.slice a3 p.bars.length c3,.int .i64 p.hold,.bool d.ok,.slice o1 d.occ.length m1,.slice o2 d.points.length m2,.slice o3 d.ways.length m3,.int .i64 (i:Int)] 134)).drew fun e w3=>e = .returned (.func (.func 153) #[] #[.pointer (some ⟨w.heap.size + 1,0,none⟩)]) ∧ w3 = (w.alloc (.cells #[.int .i64 p.sections,.slice a1 p.switches.length c1,.slice a2 p.ways.length c2,.slice a3 p.bars.length c3,.int .i64 p.hold,.bool d.ok,.slice o1 d.occ.length m1,.slice o2 d.points.length m2,.slice o3 d.ways.length m3,.int .i64 (i:Int)] 134)).drew.alloc (.cells #[.bool d.ok,.slice o1 d.occ.length m1,.slice o2 d.points.length m2,.slice o3 d.ways.length m3] 42) ∧ Boxes w [(134,#[.int .i64 p.sections,.slice a1 p.switches.length c1,.slice a2 p.ways.length c2,.slice a3 p.bars.length c3,.int .i64 p.hold,.bool d.ok,.slice o1 d.occ.length m1,.slice o2 d.points.length m2,.slice o3 d.ways.length m3,.int .i64 (i:Int)])] w3:=by
  refine (zf5 _ _ _ _ _).mono ?_;rintro e w3 ⟨rfl,rfl⟩;exact ⟨by simp,rfl,(T0.call (zaf _)).call (zab _ _)⟩
 have HQ:=zaa hq2
 have hcol:∀ w3 w4,w3 = (w.alloc (.cells #[.int .i64 p.sections,.slice a1 p.switches.length c1,.slice a2 p.ways.length c2,.slice a3 p.bars.length c3,.int .i64 p.hold,.bool d.ok,.slice o1 d.occ.length m1,.slice o2 d.points.length m2,.slice o3 d.ways.length m3,.int .i64 (i:Int)] 134)).drew.alloc (.cells #[.bool d.ok,.slice o1 d.occ.length m1,.slice o2 d.points.length m2,.slice o3 d.ways.length m3] 42) → w4 = (w3.alloc (.cells #[.func (.func 153) #[] #[.pointer (some ⟨w.heap.size + 1,0,none⟩)]] 125)).alloc (.cells #[.func (.func 162) #[.agg #[.int .i64 p.sections,.slice a1 p.switches.length c1,.slice a2 p.ways.length c2,.slice a3 p.bars.length c3,.int .i64 p.hold,.bool d.ok,.slice o1 d.occ.length m1,.slice o2 d.points.length m2,.slice o3 d.ways.length m3,.int .i64 (i:Int)]] #[]] 128) →
   Calls Tryz.prog 155 #[.func (.func 152) #[] #[.pointer (some ⟨w3.heap.size,0,none⟩),.pointer (some ⟨w3.heap.size + 1,0,none⟩)]] w4 fun e w'=>∃ v,e = .returned v ∧ Below w.heap.size w w' ∧ ∃ m,w'.ownsRow w.heap.size 3 1 v m (zl6 (zcc p d i)):=fun w3 w4 hw3 hw4=>by
  have hz3:w3.heap.size = w.heap.size + 2:=by rw [hw3]; simp
  have TB:=zbs (w.alloc (.cells #[.int .i64 p.sections,.slice a1 p.switches.length c1,.slice a2 p.ways.length c2,.slice a3 p.bars.length c3,.int .i64 p.hold,.bool d.ok,.slice o1 d.occ.length m1,.slice o2 d.points.length m2,.slice o3 d.ways.length m3,.int .i64 (i:Int)] 134)).drew 42 125 128 #[.bool d.ok,.slice o1 d.occ.length m1,.slice o2 d.points.length m2,.slice o3 d.ways.length m3] #[.func (.func 153) #[] #[.pointer (some ⟨w.heap.size + 1,0,none⟩)]] #[.func (.func 162) #[.agg #[.int .i64 p.sections,.slice a1 p.switches.length c1,.slice a2 p.ways.length c2,.slice a3 p.bars.length c3,.int .i64 p.hold,.bool d.ok,.slice o1 d.occ.length m1,.slice o2 d.points.length m2,.slice o3 d.ways.length m3,.int .i64 (i:Int)]] #[]];rw [← hw3,← hw4] at TB
  have hz0:(w.alloc (.cells #[.int .i64 p.sections,.slice a1 p.switches.length c1,.slice a2 p.ways.length c2,.slice a3 p.bars.length c3,.int .i64 p.hold,.bool d.ok,.slice o1 d.occ.length m1,.slice o2 d.points.length m2,.slice o3 d.ways.length m3,.int .i64 (i:Int)] 134)).drew.heap.size = w.heap.size + 1:=by simp
  have hz4:w4.heap.size = w.heap.size + 4:=by rw [hw4]; simp; omega
  have Tc:=(T0.call (zaf _)).call TB.below;have hB4:=Tc.below;have k0:=TB.cell (j:=0) (i:=0) rfl rfl;have k1:=TB.cell (j:=0) (i:=1) rfl rfl;have k2:=TB.cell (j:=0) (i:=2) rfl rfl;have k3:=TB.cell (j:=0) (i:=3) rfl rfl;have cV:=TB.cell (j:=1) (i:=0) rfl rfl;have cK:=TB.cell (j:=2) (i:=0) rfl rfl;rw [hz0] at k0 k1 k2 k3 cV cK;have hl:d.ways.length = p.ways.length:=hR.2.2.2.2.1
  have hkeep:∀ x W,x ∈ za6 d.ways d.ways.length → Below w4.heap.size w4 W → Calls Tryz.prog 162 ((#[.agg #[.int .i64 p.sections,.slice a1 p.switches.length c1,.slice a2 p.ways.length c2,.slice a3 p.bars.length c3,.int .i64 p.hold,.bool d.ok,.slice o1 d.occ.length m1,.slice o2 d.points.length m2,.slice o3 d.ways.length m3,.int .i64 (i:Int)]]:Array Value).push (.int .i64 (x:Int))) W fun e W'=>e = .returned (.bool (ziy p i x)) ∧ Below W.heap.size W W':=fun x W hx hW=>by
   have hB:Below w.heap.size w W:=hB4.trans (hW.mono hB4.size);have hlt:=(zeu hx).1;obtain ⟨y,hy⟩:=zac p.ways (zaa rfl) (show x < p.ways.length by omega);obtain ⟨z,hz⟩:=zac p.ways (zaa rfl) hi;obtain ⟨r,b,hr,hrl,hrb,hb⟩:=hR.1.row hi (show x < p.ways.length by omega);have hy':=hR.1.way hy;have hz':=hR.1.way hz;rw [znz hz hy hb];exact zjz _ _ _ _ _ _ _ p i x z y r b W (KP.out W hB) hs hz hy hr hrb (by rw [hrl]; exact hs.2.1) hz'.2.1 hz'.2.2.1 hy'.2.1 hy'.2.2.1 hR.1.parts.1.1.2 ⟨_,rfl⟩ ⟨_,_,_,rfl⟩ ⟨_,_,_,rfl⟩ ⟨_,_,_,rfl⟩
  have hgv:=zc9 153 162 #[.pointer (some ⟨w.heap.size + 1,0,none⟩)] #[.agg #[.int .i64 p.sections,.slice a1 p.switches.length c1,.slice a2 p.ways.length c2,.slice a3 p.bars.length c3,.int .i64 p.hold,.bool d.ok,.slice o1 d.occ.length m1,.slice o2 d.points.length m2,.slice o3 d.ways.length m3,.int .i64 (i:Int)]] w4.heap.size 0 (w.heap.size + 1 + 1) (w.heap.size + 1 + 2) (za6 d.ways d.ways.length) (ziy p i) w4 (by omega) (by omega) (Nat.le_refl _)
   (enters_of Tryz.func153 (by kernel_rfl) rfl) (enters_of Tryz.func162 (by kernel_rfl) rfl) cV cK
   (zd3 _ _ _ _ d.ways w4.heap.size (w.heap.size + 1) w4 (by omega) (Nat.le_refl _) k0 k1 k2 k3 ((KH.out w4 hB4).keep (zax _ _) fun b hb=>hb) HD.out.2.2.1) hkeep
  rw [hz3];refine (zdf 152 _ w4.heap.size (3 + 0) ((za6 d.ways d.ways.length).filter (ziy p i)) w4 (enters_of Tryz.func152 (by kernel_rfl) rfl) (Nat.le_refl _) (Nat.le_trans (List.length_filter_le _ _) (Nat.le_trans (List.length_filter_le _ _) (by rw [List.length_range]; exact HD.out.2.2.1))) hgv).mono ?_;rintro e w5 ⟨v,rfl,hb5,hrow⟩;exact ⟨v,rfl,hB4.trans (hb5.mono hB4.size),_,zb5 hrow hB4.size⟩
 have HCOL:=zaa hcol;have b0:=T0.cell (j:=0) (i:=0) rfl rfl;have b1:=T0.cell (j:=0) (i:=1) rfl rfl;have b2:=T0.cell (j:=0) (i:=2) rfl rfl;have b3:=T0.cell (j:=0) (i:=3) rfl rfl;have b4:=T0.cell (j:=0) (i:=4) rfl rfl;have b5:=T0.cell (j:=0) (i:=5) rfl rfl;have b6:=T0.cell (j:=0) (i:=6) rfl rfl;have b7:=T0.cell (j:=0) (i:=7) rfl rfl;have b8:=T0.cell (j:=0) (i:=8) rfl rfl;have b9:=T0.cell (j:=0) (i:=9) rfl rfl;rw [Nat.add_zero] at b0 b1 b2 b3 b4 b5 b6 b7 b8 b9;clear hq2 hcol hs hd hp hf hR T0;go_enter Tryz.func118,Tryz.ntmps118;go_wp2
 go_region_with (first | (go_at_call 112; refine HQ.out.mono ?_; rintro e w3 ⟨rfl,hw3,T3⟩; have HW3:=zaa hw3; clear hw3; have k0:=T3.cell (j:=0) (i:=0) rfl rfl; have k1:=T3.cell (j:=0) (i:=1) rfl rfl; have k2:=T3.cell (j:=0) (i:=2) rfl rfl; have k3:=T3.cell (j:=0) (i:=3) rfl rfl; have k4:=T3.cell (j:=0) (i:=4) rfl rfl; have k5:=T3.cell (j:=0) (i:=5) rfl rfl; have k6:=T3.cell (j:=0) (i:=6) rfl rfl; have k7:=T3.cell (j:=0) (i:=7) rfl rfl; have k8:=T3.cell (j:=0) (i:=8) rfl rfl; have k9:=T3.cell (j:=0) (i:=9) rfl rfl; rw [Nat.add_zero] at k0 k1 k2 k3 k4 k5 k6 k7 k8 k9) | (go_at_call 111; refine (zeb _ _ _ _ _).mono ?_; rintro e w4 ⟨rfl,hw4⟩; have HW4:=zaa hw4; clear hw4) | (go_at_call 155; refine (HCOL.out _ _ HW3.out HW4.out).mono ?_; rintro e w5 ⟨v,rfl,hb5,hr5⟩; have HB5:=zaa hb5; have HR5:=zaa hr5; clear hb5 hr5))
 all_goals
  go_wp2;go_ret;exact ⟨v,rfl,HB5.out,HR5.out⟩
end Go.Proofs.YtdhinkgjiapigabGreatDoor

import Derived.Test.YtdhinkgjiapigabGreatDoorFrG
import Derived.Test.YtdhinkgjiapigabGreatDoorCopyA
import Derived.Deep.RegionWith
import Derived.DeepKeys
import Derived.Test.YtdhinkgjiapigabGreatDoorFrA
import Derived.Test.YtdhinkgjiapigabGreatDoorSpec7
import Derived.Deep.DeepCutAuto
import Derived.Test.YtdhinkgjiapigabGreatDoorEvA
import Derived.Test.YtdhinkgjiapigabGreatDoorImpl
namespace Go.Proofs.YtdhinkgjiapigabGreatDoor
open Go.RowKit Go.Deep
open Classical
theorem Tryz.boolsNil (a:Addr) (n c:Nat) (w:World):(binOp .eql 27 (.slice (some a) n c) (.slice none 0 0)).run Tryz.prog w = .ok (.bool false) w:=by kernel_rfl
set_option maxRecDepth 100000 in
set_option maxHeartbeats 2000000 in
theorem zed (a:Option Addr) (c:Nat) (l:List Bool) (w:World) (hv:Bools (In w) w (.slice a l.length c) l) (hl:l.length ≤ 1048576) (hpos:0 < l.length) :
  Calls Tryz.prog 184 #[.slice a l.length c] w fun e w'=>∃ v b,e = .returned v ∧ OBools w' v l b ∧ w.heap.size ≤ b ∧ Below w.heap.size w w':=by
 have hb0:=zab w (.cells #[] 4);have N3:=zaa (zfp (hv.keep (In.keep hb0).1 (In.keep hb0).2))
 have N3l:Hid ((l.map Value.bool).length = l.length * 1):=by rw [List.length_map,Nat.mul_one]; rfl
 have N3o:=zaa (zha l)
 have HM5:Hid (0 + l.length ≤ maxLen):=by show 0 + l.length ≤ maxLen; unfold maxLen; omega
 have HM6:Hid ((0 + l.length) * 1 ≤ 140737488355328):=by show (0 + l.length) * 1 ≤ 140737488355328; omega
 have OW:=zaa (zma w w.heap.size rfl);have HZ5:Hid (w.heap.size ≤ (w.alloc (.cells #[] 4)).heap.size):=hb0.size;obtain ⟨nw3,hnw3⟩:∃ nw,nw = l.map Value.bool:=⟨_,rfl⟩;have HN3:=zaa hnw3;rw [← hnw3] at N3 N3l N3o;obtain ⟨a',c',hv',h0 | ⟨b,off,rfl,hb1,-⟩⟩:=hv
 ·omega
 cases hv'
 have HB0:=zaa hb0;have hnil:=Tryz.boolsNil;clear hnw3 hb0;go_enter Tryz.func184,Tryz.ntmps184
 go_wp2_with (at_builtin; refine zai rfl _ _ 27 rfl w.heap.size 4 (.bool false) 1 1 Tryz.underlying27 Tryz.infoBool rfl (by decide) (.slice (some ⟨w.heap.size,0,none⟩) 0 0) 0 [] rfl OW.out _ l.length c nw3 rfl N3l.out N3.out N3o.out HM5.out HM6.out HZ5.out ?_)
 intro u4 w4 hown4 hgr4;obtain ⟨b4,hO4,hb4⟩:=zhb (l:=l) (n:=0 + l.length) (by rw [← HN3.out]; simpa using hown4) (by omega) hpos
 have hbl4:Below w.heap.size (w.alloc (.cells #[] 4)) w4:=(Below.refl _ _).grown hgr4 HZ5.out fun z hz=>by cases hz; exact Nat.le_refl _
 have hfin:Below w.heap.size w w4:=HB0.out.trans hbl4;have HF:=zaa (And.intro hO4 (And.intro hb4 hfin));clear hO4 hb4 hbl4 hfin hown4 hgr4;go_wp2;go_ret;exact ⟨u4,b4,rfl,HF.out.1,HF.out.2.1,HF.out.2.2⟩
def znv (n:Nat) (s:StD) (w:World) (e:Ending) (w':World):Prop:=
 ∃ v b,e = .returned (.agg #[.int .i64 (zao n s).state,.int .i64 (zao n s).gone,v,.bool (zao n s).shown,.int .i64 (zao n s).timer]) ∧ OBools w' v (zao n s).been b ∧ w.heap.size ≤ b ∧ Below w.heap.size w w'
theorem zeh {W:World} {n:Nat} (_hn:0 < n):OBools (W.alloc (.cells (madeCells #[.bool false] n) 4)) (.slice (some ⟨W.heap.size,0,none⟩) n n) (List.replicate n false) W.heap.size:=by
 refine ⟨_,n,n,by rw [List.length_replicate],World.rowIs_made W _ n _,by rw [List.length_replicate]; exact Nat.le_refl _,fun i x hx=>?_⟩;have:=(List.mem_replicate.1 (List.mem_of_getElem? hx)).2;rw [this]
theorem zoe (w:World) (o1 o2 o3:Obj) {n:Nat} (hn:0 < n):OBools ((((w.alloc o1).alloc o2).alloc o3).alloc (.cells (madeCells #[.bool false] n) 4)) (.slice (some ⟨w.heap.size + 1 + 1 + 1,0,none⟩) n n) (List.replicate n false) (w.heap.size + 1 + 1 + 1) ∧ Below w.heap.size w ((((w.alloc o1).alloc o2).alloc o3).alloc (.cells (madeCells #[.bool false] n) 4)):=by
 have hs:(((w.alloc o1).alloc o2).alloc o3).heap.size = w.heap.size + 1 + 1 + 1:=by simp
 have:=zeh (W:=((w.alloc o1).alloc o2).alloc o3) hn;rw [hs] at this;exact ⟨this,(((((Below.refl _ _).alloc (Nat.le_refl _) _).alloc (by simp) _).alloc (by simp; omega) _).alloc (by simp; omega) _)⟩
theorem zl1 (w:World) (o1 o2 o3:Obj) {n:Nat} (hn:0 < n):OBools ((((w.alloc o1).alloc o2).alloc o3).alloc (.cells (madeCells #[.bool false] n) 4)).drew (.slice (some ⟨w.heap.size + 1 + 1 + 1,0,none⟩) n n) (List.replicate n false) (w.heap.size + 1 + 1 + 1) ∧ Below w.heap.size w ((((w.alloc o1).alloc o2).alloc o3).alloc (.cells (madeCells #[.bool false] n) 4)).drew:=by
 obtain ⟨h1,h2⟩:=zoe w o1 o2 o3 hn;exact ⟨h1.but (K:=fun _=>True) (But.of_calls (zaf _)) trivial,h2.trans ((zaf _).mono h2.size)⟩
set_option maxRecDepth 100000 in
set_option maxHeartbeats 2000000 in
theorem zb8 (u0 u1 u2 u3 u4:Value) (secs:List Int) (w:World) (hu:Ints (In w) w u0 secs) (hn1:1 ≤ secs.length) (hn:secs.length ≤ 30) :
  Calls Tryz.prog 149 #[.agg #[],.agg #[u0,u1,u2,u3,u4]] w fun e w'=>znv secs.length .idle w e w':=by
 obtain ⟨a0,c0,rfl,-⟩:=hu;have hmk:=run_make_row' (P:=Tryz.prog) 27 4 (.bool false) 1 Tryz.underlying27 Tryz.infoBool rfl .i64 .i64 secs.length (by omega) (by omega);go_enter Tryz.func149,Tryz.ntmps149;go_wp2;exact bodyPost_ret (v:=.agg #[.int .i64 0,.int .i64 0,.slice (some ⟨w.heap.size + 1 + 1 + 1,0,none⟩) secs.length secs.length,.bool false,.int .i64 0]) (by simp [results,Tryz.results149,go_sem]) rfl ⟨_,_,rfl,(zoe w _ _ _ hn1).1,by omega,(zoe w _ _ _ hn1).2⟩
set_option maxRecDepth 100000 in
set_option maxHeartbeats 2000000 in
theorem zi4 (u0 u1 u2 u3 u4:Value) (secs:List Int) (w:World) (hu:Ints (In w) w u0 secs) (hn1:1 ≤ secs.length) (hn:secs.length ≤ 30) :
  Calls Tryz.prog 295 #[.agg #[],.agg #[u0,u1,u2,u3,u4]] w fun e w'=>znv secs.length .clear w e w':=by
 obtain ⟨a0,c0,rfl,-⟩:=hu;have hmk:=run_make_row' (P:=Tryz.prog) 27 4 (.bool false) 1 Tryz.underlying27 Tryz.infoBool rfl .i64 .i64 secs.length (by omega) (by omega);go_enter Tryz.func295,Tryz.ntmps295;go_wp2;exact bodyPost_ret (v:=.agg #[.int .i64 2,.int .i64 0,.slice (some ⟨w.heap.size + 1 + 1 + 1,0,none⟩) secs.length secs.length,.bool true,.int .i64 0]) (by simp [results,Tryz.results295,go_sem]) rfl ⟨_,_,rfl,(zoe w _ _ _ hn1).1,by omega,(zoe w _ _ _ hn1).2⟩
set_option maxRecDepth 100000 in
set_option maxHeartbeats 2000000 in
theorem zhg (b:Bool) (u0 u1 u2 u3 u4:Value) (secs:List Int) (w:World) (hu:Ints (In w) w u0 secs) (hn1:1 ≤ secs.length) (hn:secs.length ≤ 30) :
  Calls Tryz.prog 225 #[.agg #[.bool b],.agg #[u0,u1,u2,u3,u4]] w fun e w'=>znv secs.length (.set b) w e w':=by
 obtain ⟨a0,c0,rfl,-⟩:=hu;have hmk:=run_make_row' (P:=Tryz.prog) 27 4 (.bool false) 1 Tryz.underlying27 Tryz.infoBool rfl .i64 .i64 secs.length (by omega) (by omega);go_enter Tryz.func225,Tryz.ntmps225;go_wp2
 go_region
 all_goals
  go_wp2;exact bodyPost_ret (v:=.agg #[.int .i64 1,.int .i64 0,.slice (some ⟨w.heap.size + 1 + 1 + 1,0,none⟩) secs.length secs.length,.bool b,.int .i64 0]) (by simp [results,Tryz.results225,go_sem]) rfl ⟨_,_,rfl,(zl1 w _ _ _ hn1).1,by omega,(zl1 w _ _ _ hn1).2⟩
set_option maxRecDepth 100000 in
set_option maxHeartbeats 2000000 in
theorem zcm (t:Int) (u0 u1 u2 u3 u4:Value) (secs:List Int) (w:World) (hu:Ints (In w) w u0 secs) (hn1:1 ≤ secs.length) (hn:secs.length ≤ 30) :
  Calls Tryz.prog 304 #[.agg #[.int .i64 t],.agg #[u0,u1,u2,u3,u4]] w fun e w'=>znv secs.length (.taking t) w e w':=by
 obtain ⟨a0,c0,rfl,-⟩:=hu;have hmk:=run_make_row' (P:=Tryz.prog) 27 4 (.bool false) 1 Tryz.underlying27 Tryz.infoBool rfl .i64 .i64 secs.length (by omega) (by omega);go_enter Tryz.func304,Tryz.ntmps304;go_wp2
 go_region
 all_goals
  go_wp2;exact bodyPost_ret (v:=.agg #[.int .i64 3,.int .i64 0,.slice (some ⟨w.heap.size + 1 + 1 + 1,0,none⟩) secs.length secs.length,.bool true,.int .i64 (t)]) (by simp [results,Tryz.results304,go_sem]) rfl ⟨_,_,rfl,(zl1 w _ _ _ hn1).1,by omega,(zl1 w _ _ _ hn1).2⟩
theorem znn {P:Nat → Prop} {W:World} {u t:Nat} {f:Nat → Value} {l:List Bool} {n c:Nat} (hr:W.rowIs u t 32 f) (hP:P u) (hl:l.length = 30) (h2:∀ (j:Nat) x,l[j]? = some x → f (1 + j) = .bool x) (hn:n ≤ 30):Bools P W (.slice (some ⟨u,1,none⟩) (l.take n).length c) (l.take n):=by
 refine ⟨_,_,rfl,.inr ⟨u,1,rfl,hP,fun i hi x hx=>?_⟩⟩
 have hi':i < n:=by rw [List.length_take] at hi; omega
 rw [List.getElem?_take,if_pos hi'] at hx;rw [hr.cell (by omega),h2 i x hx]
theorem zp8 {w w2:World} {c1 c2:Array Value} {t1 t2:TypeId} {x0 x1 x2 x3 x4:Value} {v:Value} {l:List Bool} {bq:Nat} (hO:OBools w2 v l bq) (T:Boxes w [(t1,c1),(t2,c2),(93,#[x0,x1,x2,x3,x4])] w2) (v0 v1 v2 v3 v4:Value) :
  OBools (((((w2.setCell ⟨w.heap.size + 1 + 1,0,none⟩ v0).setCell ⟨w.heap.size + 1 + 1,1,none⟩ v1).setCell ⟨w.heap.size + 1 + 1,2,none⟩ v2).setCell ⟨w.heap.size + 1 + 1,3,none⟩ v3).setCell ⟨w.heap.size + 1 + 1,4,none⟩ v4) v l bq ∧ Below w.heap.size w (((((w2.setCell ⟨w.heap.size + 1 + 1,0,none⟩ v0).setCell ⟨w.heap.size + 1 + 1,1,none⟩ v1).setCell ⟨w.heap.size + 1 + 1,2,none⟩ v2).setCell ⟨w.heap.size + 1 + 1,3,none⟩ v3).setCell ⟨w.heap.size + 1 + 1,4,none⟩ v4):=by
 have hne:bq ≠ w.heap.size + 1 + 1:=by
  obtain ⟨g,M,c,-,hg,-⟩:=hO;exact zbb hg (T.row 2 _ _ rfl) (by decide)
 have B:But (fun c=>c ≠ w.heap.size + 1 + 1) w2 (((((w2.setCell ⟨w.heap.size + 1 + 1,0,none⟩ v0).setCell ⟨w.heap.size + 1 + 1,1,none⟩ v1).setCell ⟨w.heap.size + 1 + 1,2,none⟩ v2).setCell ⟨w.heap.size + 1 + 1,3,none⟩ v3).setCell ⟨w.heap.size + 1 + 1,4,none⟩ v4):=(((((But.refl _ _).setCell (fun z=>z rfl) _).setCell (fun z=>z rfl) _).setCell (fun z=>z rfl) _).setCell (fun z=>z rfl) _).setCell (fun z=>z rfl) _;exact ⟨hO.but B hne,T.below.trans (B.below T.below.size fun x hx=>by show x ≠ w.heap.size + 1 + 1; omega)⟩
set_option maxRecDepth 100000 in
set_option maxHeartbeats 4000000 in
theorem zkw (g:Int) (l:List Bool) (b:Bool) (u0 u1 u2 u3 u4:Value) (secs:List Int) (w:World) (hu:Ints (In w) w u0 secs) (hn1:1 ≤ secs.length) (hn:secs.length ≤ 30) (hl:l.length = 30) :
  Calls Tryz.prog 297 #[.agg (zbl g l b),.agg #[u0,u1,u2,u3,u4]] w fun e w'=>znv secs.length (.used g l b) w e w':=by
 obtain ⟨a0,c0,rfl,-⟩:=hu;have T0:=zbs w 217 122 93 (zbl g l b) #[.slice a0 secs.length c0,u1,u2,u3,u4] #[.int .i64 0,.int .i64 0,.slice none 0 0,.bool false,.int .i64 0];go_enter Tryz.func297,Tryz.ntmps297;go_wp2;generalize hG:World.alloc (World.alloc (World.alloc w _) _) _ = W0 at T0 ⊢;clear hG;obtain ⟨f,hr,h0,h31,hj⟩:=zmj (T0.row 0 _ _ rfl) hl;rw [Nat.add_zero] at hr
 have hlt:(l.take secs.length).length = secs.length:=by rw [List.length_take]; omega
 have hcl:Calls Tryz.prog 184 #[.slice (some ⟨w.heap.size,1,none⟩) secs.length 30] W0.drew fun e w'=>∃ v bq,e = .returned v ∧ OBools w' v (l.take secs.length) bq ∧ w.heap.size ≤ bq ∧ Boxes w [(217,zbl g l b),(122,#[.slice a0 secs.length c0,u1,u2,u3,u4]),(93,#[.int .i64 0,.int .i64 0,.slice none 0 0,.bool false,.int .i64 0])] w' ∧ ∃ f,w'.rowIs w.heap.size 217 32 f ∧ f 0 = .int .i64 g ∧ f 31 = .bool b:=by
  have hb:=znn (P:=In W0.drew) (c:=30) (zal hr (zaf _)) (zal hr (zaf _)).lt hl hj hn;have hc:=zed (some ⟨w.heap.size,1,none⟩) 30 (l.take secs.length) W0.drew hb (by omega) (by omega);rw [hlt] at hc;refine hc.mono ?_;rintro e w' ⟨v,bq,rfl,hO,hq,hbl⟩;have T2:=(T0.call (zaf _)).call hbl;exact ⟨v,bq,rfl,hO,Nat.le_trans (T0.call (zaf _)).below.size hq,T2,f,zal (zal hr (zaf _)) hbl,h0,h31⟩
 have HCL:=zaa hcl;have c0':=hr.cell (i:=0) (by omega);have c31:=hr.cell (i:=31) (by omega);rw [h0] at c0';rw [h31] at c31;have k0:W0.cell? ⟨w.heap.size + 1,0,none⟩ = some (.slice a0 secs.length c0):=T0.cell (j:=1) (i:=0) rfl rfl;clear hcl hr h0 h31 hj hlt T0
 have hsl:(secs.length:Int) ≤ 30:=by omega
 go_region_with (go_at_call 184; refine HCL.out.mono ?_; rintro e w2 ⟨v,bq,rfl,hO,hq,T2,f2,hr2,g0,g31⟩; have HO:=zaa hO; obtain ⟨gq,Mq,capq,rfl,-,-,-⟩:=hO; have HT2:=zaa T2; have r0:=hr2.cell (i:=0) (by omega); have r31:=hr2.cell (i:=31) (by omega); rw [g0] at r0; rw [g31] at r31; have q0:=T2.cell (j:=2) (i:=0) rfl rfl; have q1:=T2.cell (j:=2) (i:=1) rfl rfl; have q2:=T2.cell (j:=2) (i:=2) rfl rfl; have q3:=T2.cell (j:=2) (i:=3) rfl rfl; have q4:=T2.cell (j:=2) (i:=4) rfl rfl; have y0:=T2.frozen (j:=2) 0 rfl; have y1:=T2.frozen (j:=2) 1 rfl; have y2:=T2.frozen (j:=2) 2 rfl; have y3:=T2.frozen (j:=2) 3 rfl; have y4:=T2.frozen (j:=2) 4 rfl; clear T2 hr2 g0 g31)
 all_goals
  go_wp2;have hfin:=zp8 HO.out HT2.out (.int .i64 4) (.int .i64 g) (.slice (some ⟨bq,0,none⟩) (l.take secs.length).length capq) (.bool b) (.int .i64 0);rw [show (l.take secs.length).length = secs.length by rw [List.length_take]; omega] at hfin;exact bodyPost_ret (v:=.agg #[.int .i64 4,.int .i64 g,.slice (some ⟨bq,0,none⟩) secs.length capq,.bool b,.int .i64 0]) (by simp [results,Tryz.results297,go_sem,q0,q1,q2,q3,q4]) rfl ⟨_,bq,rfl,hfin.1,hq,hfin.2⟩
end Go.Proofs.YtdhinkgjiapigabGreatDoor
namespace Go.Proofs.YtdhinkgjiapigabGreatDoor
open Go.RowKit Go.Deep
open Classical
end Go.Proofs.YtdhinkgjiapigabGreatDoor
namespace Go.Proofs.YtdhinkgjiapigabGreatDoor
open Go.RowKit Go.Deep
open Classical
theorem Tryz.inv_idle_held (v : Value) (w : World) : (method 453 183 v "loop.example/tappet/impl.held").run Tryz.prog w = .ok (149, v) w := by kernel_rfl
theorem Tryz.inv_set_held (v : Value) (w : World) : (method 453 212 v "loop.example/tappet/impl.held").run Tryz.prog w = .ok (225, v) w := by kernel_rfl
theorem Tryz.inv_clear_held (v : Value) (w : World) : (method 453 214 v "loop.example/tappet/impl.held").run Tryz.prog w = .ok (295, v) w := by kernel_rfl
theorem Tryz.inv_taking_held (v : Value) (w : World) : (method 453 258 v "loop.example/tappet/impl.held").run Tryz.prog w = .ok (304, v) w := by kernel_rfl
theorem Tryz.inv_used_held (v : Value) (w : World) : (method 453 217 v "loop.example/tappet/impl.held").run Tryz.prog w = .ok (297, v) w := by kernel_rfl
end Go.Proofs.YtdhinkgjiapigabGreatDoor
namespace Go.Proofs.YtdhinkgjiapigabGreatDoor
open Go.RowKit Go.Deep
open Classical
end Go.Proofs.YtdhinkgjiapigabGreatDoor
namespace Go.Proofs.YtdhinkgjiapigabGreatDoor
open Go.RowKit Go.Deep
open Classical
end Go.Proofs.YtdhinkgjiapigabGreatDoor
namespace Go.Proofs.YtdhinkgjiapigabGreatDoor
open Go.RowKit Go.Deep
open Classical
end Go.Proofs.YtdhinkgjiapigabGreatDoor
namespace Go.Proofs.YtdhinkgjiapigabGreatDoor
open Go.RowKit Go.Deep
open Classical
end Go.Proofs.YtdhinkgjiapigabGreatDoor
namespace Go.Proofs.YtdhinkgjiapigabGreatDoor
open Go.RowKit Go.Deep
open Classical
end Go.Proofs.YtdhinkgjiapigabGreatDoor
namespace Go.Proofs.YtdhinkgjiapigabGreatDoor
open Go.RowKit Go.Deep
open Classical
end Go.Proofs.YtdhinkgjiapigabGreatDoor
namespace Go.Proofs.YtdhinkgjiapigabGreatDoor
open Go.RowKit
open Classical
end Go.Proofs.YtdhinkgjiapigabGreatDoor

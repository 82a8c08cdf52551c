import Derived.Test.YtdhinkgjiapigabGreatDoorSpA
import Derived.Test.YtdhinkgjiapigabGreatDoorToA
import Derived.Deep.RegionWith
import Derived.Test.YtdhinkgjiapigabGreatDoorBase
namespace Go.Proofs.YtdhinkgjiapigabGreatDoor
open Go.RowKit Go.Deep
open Classical
set_option maxHeartbeats 2000000 in
theorem zoi (n:Int) (hd v1 v2 v3 u0 u1 u2 u3 u4:Value) (sw:List Int) (d:WayD) (w:World) (hsw:Ints (In w) w v1 sw) (hw:WayAt (In w) w u0 u1 u2 u3 u4 d)
  (h1:1 ≤ n) (h60:n ≤ 60) (hm:sw.length ≤ 40) (hs:d.Small 1048576) :
  Calls Tryz.prog 174 #[.agg #[.int .i64 n,v1,v2,v3,hd],.agg #[u0,u1,u2,u3,u4]] w fun e w'=>e = .returned (.bool (B (WayOk n sw d))) ∧ Below w.heap.size w w':=by
 have T0:=Bx2.start w 37 122 (.int .i64 n) v1 v2 v3 hd u0 u1 u2 u3 u4;have hk:∀ W,Bx2 w 37 122 (zch (.int .i64 n) v1 v2 v3 hd) (zch u0 u1 u2 u3 u4) W → WayAt (In W) W u0 u1 u2 u3 u4 d ∧ Ints (In W) W v1 sw:=fun W h=>⟨hw.keep (In.keep h.below).1 (In.keep h.below).2,hsw.keep (In.keep h.below).1 (In.keep h.below).2⟩;have HK:=zaa hk;clear hk;obtain ⟨av,cv,rfl,hcv⟩:=hsw;obtain ⟨⟨a0,c0,rfl,hc0⟩,⟨a1,c1,rfl,hc1⟩,⟨a2,c2,rfl,hc2⟩,⟨a3,c3,rfl,hc3⟩,⟨a4,c4,rfl,hc4⟩⟩:=hw;obtain ⟨s0,s1,s2,s3,s4⟩:=hs;have HV:=zaa hcv;have H1:=zaa hc1;have H2:=zaa hc2;clear hcv hc0 hc1 hc2 hc3 hc4;go_enter Tryz.func174,Tryz.ntmps174;by_cases hz:d.sections.length = 0
 ·have hz':((d.sections.length:Int) == 0) = true:=by simpa using hz
  have Hz:=zaa hz;clear hz;go_wp2;go_ret;exact ⟨zad (zae fun h=>h.1 (List.length_eq_zero_iff.1 Hz.out)).symm,T0.below⟩
 have hz':((d.sections.length:Int) == 0) = false:=by simpa using hz
 have Hz:=zaa hz;clear hz
 go_wp2_with fail
 refine (zfw _ d.sections n _ (HK.out _ T0).1.1 s0 h1 h60).mono ?_;rintro e w' ⟨rfl,rfl⟩;by_cases q0:ListOk n d.sections
 case neg=>
  rw [zae q0];go_wp2;go_ret;exact ⟨zad (zae fun h=>q0 h.2.1).symm,T0.below⟩
 rw [zam q0];have Q0:=zaa q0;clear q0
 go_wp2_with fail
 refine (zfw _ d.over n _ (HK.out _ T0).1.2.2.2.1 s3 h1 h60).mono ?_;rintro e w' ⟨rfl,rfl⟩;by_cases q0:ListOk n d.over
 case neg=>
  rw [zae q0];go_wp2;go_ret;exact ⟨zad (zae fun h=>q0 h.2.2.1).symm,T0.below⟩
 rw [zam q0];have Q1:=zaa q0;clear q0
 go_wp2_with fail
 refine (zfw _ d.near n _ (HK.out _ T0).1.2.2.2.2 s4 h1 h60).mono ?_;rintro e w' ⟨rfl,rfl⟩;by_cases q0:ListOk n d.near
 case neg=>
  rw [zae q0];go_wp2;go_ret;exact ⟨zad (zae fun h=>q0 h.2.2.2.1).symm,T0.below⟩
 rw [zam q0];have Q2:=zaa q0;clear q0
 go_wp2_with fail
 refine (zib _ _ _ _ _ _ av sw.length cv d.lies _ rfl (HK.out _ T0).1.2.1 s1 (by omega)).mono ?_;rintro e w1 ⟨rfl,hb⟩;have T1:=T0.call hb;clear T0 hb;obtain ⟨⟨b0,b1,b2,b3,b4⟩,⟨z0,z1,z2,z3,z4⟩⟩:=T1.cells;by_cases q0:LiesOk sw.length d.lies
 case neg=>
  rw [zae q0];go_wp2;go_ret;exact ⟨zad (zae fun h=>q0 h.2.2.2.2.1).symm,T1.below⟩
 rw [zam q0];have Q3:=zaa q0;clear q0
 go_wp2_with fail
 refine (zib _ _ _ _ _ _ av sw.length cv d.flanks _ rfl (HK.out _ T1).1.2.2.1 s2 (by omega)).mono ?_;clear b0 b1 b2 b3 b4 z0 z1 z2 z3 z4;rintro e w2 ⟨rfl,hb⟩;have T2:=T1.call hb;clear T1 hb;obtain ⟨⟨b0,b1,b2,b3,b4⟩,⟨z0,z1,z2,z3,z4⟩⟩:=T2.cells;by_cases q0:LiesOk sw.length d.flanks
 case neg=>
  rw [zae q0];go_wp2;go_ret;exact ⟨zad (zae fun h=>q0 h.2.2.2.2.2.1).symm,T2.below⟩
 rw [zam q0];have Q4:=zaa q0;clear q0;go_wp2;clear b0 b1 b2 b3 b4 z0 z1 z2 z3 z4
 go_loopw [54] (fun i wr=>∃ (k:Nat),k ≤ d.lies.length ∧ i = .int .i64 k ∧ (∀ j x,j < k → d.lies[j]? = some x → zru sw d x) ∧ Bx2 w 37 122 (zch (.int .i64 n) (.slice av sw.length cv) v2 v3 hd) (zch (.slice a0 d.sections.length c0) (.slice a1 d.lies.length c1) (.slice a2 d.flanks.length c2) (.slice a3 d.over.length c3) (.slice a4 d.near.length c4)) wr) (fun i _=>d.lies.length - (intOf i).toNat)
 case atStart=>exact ⟨0,Nat.zero_le _,rfl,fun j _ hj=>by omega,T2⟩
 case round=>
  obtain ⟨k,hk,rfl,hok,T3⟩:=hrel;rename World=>wo;have HO:=zaa hok;clear hok;obtain ⟨⟨b0,b1,b2,b3,b4⟩,⟨z0,z1,z2,z3,z4⟩⟩:=T3.cells;by_cases hlt:k < d.lies.length
  ·obtain h0 | ⟨b,off,rfl,hb0,hc⟩:=H1.out
   ·omega
   obtain ⟨x,hx⟩:=zac d.lies (zaa rfl) hlt;obtain ⟨g0,g1⟩:=hc k hlt x hx;rw [← T3.below.cell (p:=⟨b,_,none⟩) hb0] at g0 g1;have Hx:=zaa hx;clear hx hc;have hsz:=T3.two.lt
   have hsz0:w.heap.size < wo.heap.size:=by omega
   go_wp2;clear b0 b1 b2 b3 b4 z0 z1 z2 z3 z4
   go_loopw [61] (fun i wr=>∃ (q:Nat),q ≤ d.flanks.length ∧ i = .int .i64 q ∧ (∀ j y,j < q → d.flanks[j]? = some y → x.1 ≠ y.1) ∧ Bx2 w 37 122 (zch (.int .i64 n) (.slice av sw.length cv) v2 v3 hd) (zch (.slice a0 d.sections.length c0) (.slice (some ⟨b,off,none⟩) d.lies.length c1) (.slice a2 d.flanks.length c2) (.slice a3 d.over.length c3) (.slice a4 d.near.length c4)) wr ∧ wr.cell? ⟨wo.heap.size,0,none⟩ = some (.int .i64 x.1)) (fun i _=>d.flanks.length - (intOf i).toNat)
   case atStart=>exact ⟨0,Nat.zero_le _,rfl,fun j _ hj=>by omega,T3.call (zab _ _),by simp⟩
   case round=>
    obtain ⟨q,hq,rfl,hne,T4,hxb⟩:=hrel;have HN:=zaa hne;clear hne g0 g1;obtain ⟨⟨b0,b1,b2,b3,b4⟩,⟨z0,z1,z2,z3,z4⟩⟩:=T4.cells;by_cases hqk:q < d.flanks.length
    ·obtain h0 | ⟨bf,off2,rfl,hbf,hc⟩:=H2.out
     ·omega
     obtain ⟨y,hy⟩:=zac d.flanks (zaa rfl) hqk;obtain ⟨g0,g1⟩:=hc q hqk y hy;rw [← T4.below.cell (p:=⟨bf,_,none⟩) hbf] at g0 g1;have Hy:=zaa hy;have T5:=T4.call (zab _ (.cells #[.int .i64 y.1,.int .i64 y.2] 175));have hxb2:=zgw (o:=.cells #[.int .i64 y.1,.int .i64 y.2] 175) hxb;clear hy hc;by_cases he:x.1 = y.1
     ·rw [he] at hxb hxb2;go_wp2;go_ret;refine ⟨zad (zae fun h=>?_).symm,T5.below⟩;exact (h.2.2.2.2.2.2.1 x (List.mem_of_getElem? Hx.out)).1 y (List.mem_of_getElem? Hy.out) he
     ·have he':(x.1 == y.1) = false:=by simpa using he
      have He:=zaa he;clear he;go_wp2;go_roundw
      case rel=>exact ⟨q + 1,by omega,by go_num,fun j z hj hz=>by
       by_cases e:j = q
       ·subst e; rw [Hy.out] at hz; cases hz; exact He.out
       ·exact HN.out j z (by omega) hz,T5,hxb2⟩
      case measure=>simp [intOf]; omega
    ·have hlie:=(Q3.out.1 k hlt x Hx.out).1.1;obtain ⟨hx0,hx1⟩:=hlie;obtain ⟨sv,hsv⟩:∃ sv,sw[x.1.toNat]? = some sv:=⟨sw[x.1.toNat]'(by omega),List.getElem?_eq_getElem _⟩;obtain h0 | ⟨bv,offv,rfl,hbv,hcv⟩:=HV.out
     ·omega
     have gv:=hcv x.1.toNat (by omega) sv hsv;rw [← T4.below.cell (p:=⟨bv,_,none⟩) hbv] at gv
     have hx2:x.1 < (sw.length:Int):=by omega
     have Hsv:=zaa hsv;clear hcv hsv;have hs4:=T4.two.lt
     have hs5:w.heap.size < wr.heap.size:=by omega
     have hs6:wo.heap.size < wr.heap.size:=World.block_lt_of_cell? _ _ hxb;have hs7:bv < wr.heap.size:=World.block_lt_of_cell? _ _ gv;have T6:Bx2 w 37 122 _ _ ((wr.alloc (.cells #[.int .i64 sv] 3)).drew):=(T4.call (zab _ (.cells #[.int .i64 sv] 3))).call (zaf _)
     have hq:Calls Tryz.prog 161 #[.slice (some ⟨wr.heap.size,0,none⟩) 1 1,.slice a0 d.sections.length c0] (wr.alloc (.cells #[.int .i64 sv] 3)).drew fun e w'=>e = .returned (.bool (B (Meet [sv] d.sections))) ∧ w' = (wr.alloc (.cells #[.int .i64 sv] 3)).drew:=by
      refine zbx _ _ [sv] d.sections _ ⟨_,_,rfl,.inr ⟨wr.heap.size,0,rfl,?_,?_⟩⟩ (HK.out _ T6).1.1 (by simp) s0
      ·show wr.heap.size < _; simp
      ·intro i hi z hz
       obtain rfl:i = 0:=by simp at hi; omega
       cases hz
       simp
     have HQ:=zaa hq;clear hq;have T6':=zaa T6;clear T6;by_cases hon:Meet [sv] d.sections
     ·rw [zam hon] at HQ;have Hon:=zaa hon;clear hon;go_wp2
      go_region_with (go_at_call 161; refine HQ.out.mono ?_; rintro e w1 ⟨rfl,rfl⟩)
      all_goals
       go_wp2;go_roundw
       case rel=>exact ⟨k + 1,by omega,by go_num,fun j z hj hz=>by
        by_cases e:j = k
        ·subst e; rw [Hx.out] at hz; cases hz;obtain ⟨t,ht,ht2⟩:=Hon.out;refine ⟨fun y hy=>?_,sv,Hsv.out,by simp at ht; exact ht ▸ ht2⟩;obtain ⟨i,hi⟩:=List.getElem?_of_mem hy;exact HN.out i y (by have:=(List.getElem?_eq_some_iff.1 hi).1; omega) hi
        ·exact HO.out j z (by omega) hz,T6'.out⟩
       case measure=>simp [intOf]; omega
     ·rw [zae hon] at HQ;have Hon:=zaa hon;clear hon;go_wp2
      go_region_with (go_at_call 161; refine HQ.out.mono ?_; rintro e w1 ⟨rfl,rfl⟩)
      all_goals
       go_wp2;go_ret;refine ⟨zad (zae fun h=>?_).symm,T6'.out.below⟩;obtain ⟨t,ht,ht2⟩:=(h.2.2.2.2.2.2.1 x (List.mem_of_getElem? Hx.out)).2;rw [Hsv.out] at ht;exact Hon.out ⟨sv,by simp,by cases ht; exact ht2⟩
  ·go_wp2_with fail
   refine (zbx _ _ d.over d.sections _ (HK.out _ T3).1.2.2.2.1 (HK.out _ T3).1.1 s3 s0).mono ?_;rintro e w' ⟨rfl,rfl⟩;go_wp2;go_ret;refine ⟨zad ?_,T3.below⟩;by_cases hmt:Meet d.over d.sections
   ·rw [zam hmt,zae fun h=>h.2.2.2.2.2.2.2 hmt]; rfl
   ·have hall:∀ x ∈ d.lies,zru sw d x:=fun x hx=>by
     obtain ⟨i,hi⟩:=List.getElem?_of_mem hx;exact HO.out i x (by have:=(List.getElem?_eq_some_iff.1 hi).1; omega) hi
    rw [zae hmt,zam ⟨fun h=>Hz.out (by rw [h]; rfl),Q0.out,Q1.out,Q2.out,Q3.out,Q4.out,hall,hmt⟩]; rfl
end Go.Proofs.YtdhinkgjiapigabGreatDoor
namespace Go.Proofs.YtdhinkgjiapigabGreatDoor
open Go.RowKit Go.Deep
open Classical
structure Bp (w:World) (t tr:TypeId) (f:Nat → Value) (W:World):Prop where
 below:Below w.heap.size w W
 one:W.rowIs w.heap.size t 5 f
 res:∃ g,W.rowIs (w.heap.size + 1) tr 2 g
theorem zan (w:World) (m:Nat):Below w.heap.size w (w.drewN m):=below_drewN (Below.refl _ _) m
theorem Bp.call {w:World} {t tr:TypeId} {f:Nat → Value} {W W':World} (h:Bp w t tr f W) (hb:Below W.heap.size W W'):Bp w t tr f W':=
 ⟨h.below.trans (hb.mono h.below.size),zal h.one hb,h.res.imp fun _ k=>zal k hb⟩
theorem Bp.start (w:World) (t tr:TypeId) (b0 b1 b2 b3 b4 z0 z1:Value):Bp w t tr (zch b0 b1 b2 b3 b4) ((w.alloc (.cells #[b0,b1,b2,b3,b4] t)).alloc (.cells #[z0,z1] tr)):=by
 refine ⟨(((Below.refl _ _).alloc (Nat.le_refl _) _).alloc (by simp) _),(zak _ _ _).alloc _,?_⟩;have:=zak (w.alloc (.cells #[b0,b1,b2,b3,b4] t)) tr #[z0,z1];rw [show (w.alloc (.cells #[b0,b1,b2,b3,b4] t)).heap.size = w.heap.size + 1 by simp] at this;exact ⟨_,this⟩
theorem Bp.cells {w:World} {t tr:TypeId} {b0 b1 b2 b3 b4:Value} {W:World} (h:Bp w t tr (zch b0 b1 b2 b3 b4) W) :
  W.cell? ⟨w.heap.size,0,none⟩ = some b0 ∧ W.cell? ⟨w.heap.size,1,none⟩ = some b1 ∧ W.cell? ⟨w.heap.size,2,none⟩ = some b2 ∧ W.cell? ⟨w.heap.size,3,none⟩ = some b3 ∧ W.cell? ⟨w.heap.size,4,none⟩ = some b4:=
 Bx1.cells ⟨h.below,h.one⟩
theorem Bp.slot {w:World} {t tr:TypeId} {f:Nat → Value} {W:World} (h:Bp w t tr f W) :
  ∃ x y,W.cell? ⟨w.heap.size + 1,0,none⟩ = some x ∧ W.cell? ⟨w.heap.size + 1,1,none⟩ = some y ∧ W.frozen? ⟨w.heap.size + 1,0,none⟩ = false ∧ W.frozen? ⟨w.heap.size + 1,1,none⟩ = false:=by
 obtain ⟨g,hg⟩:=h.res;exact ⟨_,_,hg.cell (i:=0) (by omega),hg.cell (i:=1) (by omega),hg.frozen 0,hg.frozen 1⟩
theorem Bp.ret {w:World} {t tr:TypeId} {f:Nat → Value} {W:World} (h:Bp w t tr f W) (x y:Value):Below w.heap.size w ((W.setCell ⟨w.heap.size + 1,0,none⟩ x).setCell ⟨w.heap.size + 1,1,none⟩ y):=
 (h.below.setCell (by show w.heap.size ≤ w.heap.size + 1; omega) _).setCell (by show w.heap.size ≤ w.heap.size + 1; omega) _
set_option maxRecDepth 100000 in
set_option maxHeartbeats 4000000 in
theorem zh1 (v1 v2 v3:Value) (d:PlanD) (w:World) (hp:PlanAt (In w) w v1 v2 v3 d) (hs:d.Small 1048576) :
  Calls Tryz.prog 131 #[.agg #[.int .i64 d.sections,v1,v2,v3,.int .i64 d.hold]] w fun e w'=>∃ c a,e = .returned (.agg #[.int .i64 c,.int .i64 a]) ∧ FaultBy (zpf d) d c a ∧ Below w.heap.size w w':=by
 have T0:=Bp.start w 37 157 (.int .i64 d.sections) v1 v2 v3 (.int .i64 d.hold) (.int .i64 0) (.int .i64 0);have hk:∀ W,Bp w 37 157 (zch (.int .i64 d.sections) v1 v2 v3 (.int .i64 d.hold)) W → PlanAt (In W) W v1 v2 v3 d:=fun W h=>hp.keep (In.keep h.below).1 (In.keep h.below).2;have HK:=zaa hk;obtain ⟨hs1,hs2,hs3,hs4,hs5⟩:=hs;have HS3:=zaa hs3;have HS5:=zaa hs5;obtain ⟨⟨a1,c1,rfl,hc1⟩,⟨a2,c2,rfl,hc2⟩,⟨a3,c3,rfl,hc3⟩⟩:=hp;have H1:=zaa hc1;have H2:=zaa hc2;have H3:=zaa hc3;clear hc1 hc2 hc3 hk hs3 hs5;go_enter Tryz.func131,Tryz.ntmps131
 go_wp2_with fail
 refine (zbg d.sections 1 60 _).mono ?_;rintro e w' ⟨rfl,rfl⟩;by_cases q0:InR d.sections 1 60
 case neg=>
  rw [zae q0];go_wp2;exact bodyPost_ret (v:=.agg #[.int .i64 1,.int .i64 0]) (by simp [results,Tryz.results131,go_sem]) rfl ⟨1,0,rfl,zj2 fun h=>q0 h.1,(((Below.refl _ _).alloc (Nat.le_refl _) _).alloc (by simp) _)⟩
 rw [zam q0];have Q0:=zaa q0;by_cases q1:d.switches.length ≤ 40
 case neg=>
  go_wp2;exact bodyPost_ret (v:=.agg #[.int .i64 1,.int .i64 0]) (by simp [results,Tryz.results131,go_sem]) rfl ⟨1,0,rfl,zj2 fun h=>q1 h.2.1,(((Below.refl _ _).alloc (Nat.le_refl _) _).alloc (by simp) _)⟩
 by_cases q2:d.ways.length ≤ 100
 case neg=>
  go_wp2;exact bodyPost_ret (v:=.agg #[.int .i64 1,.int .i64 0]) (by simp [results,Tryz.results131,go_sem]) rfl ⟨1,0,rfl,zj2 fun h=>q2 h.2.2.1,(((Below.refl _ _).alloc (Nat.le_refl _) _).alloc (by simp) _)⟩
 go_wp2_with fail
 refine (zbg d.hold 1 300 _).mono ?_;rintro e w' ⟨rfl,rfl⟩;by_cases q3:InR d.hold 1 300
 case neg=>
  rw [zae q3];go_wp2;exact bodyPost_ret (v:=.agg #[.int .i64 1,.int .i64 0]) (by simp [results,Tryz.results131,go_sem]) rfl ⟨1,0,rfl,zj2 fun h=>q3 h.2.2.2,(((Below.refl _ _).alloc (Nat.le_refl _) _).alloc (by simp) _)⟩
 rw [zam q3];have N1:Hid (¬ zmm d):=fun h=>h ⟨q0,q1,q2,q3⟩;obtain ⟨n1,n60⟩:=q0;clear q3 Q0;go_wp2
 go_loopw [39] (fun i wr=>∃ (k:Nat),k ≤ d.switches.length ∧ i = .int .i64 k ∧ (∀ j,j < k → ¬ zjw d j) ∧ Bp w 37 157 (zch (.int .i64 d.sections) (.slice a1 d.switches.length c1) (.slice a2 d.ways.length c2) (.slice a3 d.bars.length c3) (.int .i64 d.hold)) wr) (fun i _=>d.switches.length - (intOf i).toNat)
 case atStart=>exact ⟨0,Nat.zero_le _,rfl,fun j hj=>by omega,T0⟩
 case round=>
  obtain ⟨k,hk,rfl,hok,T1⟩:=hrel;rename World=>wa;have HO:=zaa hok;clear hok T0;obtain ⟨b0,b1,b2,b3,b4⟩:=T1.cells;obtain ⟨r0,r1,y0,y1,f0,f1⟩:=T1.slot;by_cases hlt:k < d.switches.length
  ·obtain h0 | ⟨b,off,rfl,hb0,hc⟩:=H1.out
   ·omega
   obtain ⟨x,hx⟩:=zac d.switches (zaa rfl) hlt;have g0:=hc k hlt x hx;rw [← T1.below.cell (p:=⟨b,_,none⟩) hb0] at g0;have Hx:=zaa hx;clear hx hc
   go_wp2_with fail
   refine (zbg x 0 (d.sections - 1) _).mono ?_;rintro e w' ⟨rfl,rfl⟩;by_cases hin:InR x 0 (d.sections - 1)
   ·rw [zam hin];have Hin:=zaa hin;clear hin;go_wp2;go_roundw
    case rel=>exact ⟨k + 1,by omega,by go_num,zcq HO.out fun h=>(zgo Hx.out).1 h Hin.out,T1⟩
    case measure=>simp [intOf]; omega
   ·rw [zae hin];have Hin:=zaa hin;clear hin;go_wp2;exact bodyPost_ret (v:=.agg #[.int .i64 2,.int .i64 k]) (by simp [results,Tryz.results131,go_sem,y0,y1]) rfl ⟨2,k,rfl,zqh N1.out ⟨(zgo Hx.out).2 Hin.out,HO.out⟩,T1.ret _ _⟩
  ·have N2:Hid (∀ k,¬ zjw d k):=no2 HO.out (by omega);clear HO;go_wp2;clear b0 b1 b2 b3 b4 y0 y1 f0 f1
   go_loopw [56] (fun i wr=>∃ (k:Nat),k ≤ d.ways.length ∧ i = .int .i64 k ∧ (∀ j,j < k → ¬ zk1 d j) ∧ Bp w 37 157 (zch (.int .i64 d.sections) (.slice a1 d.switches.length c1) (.slice a2 d.ways.length c2) (.slice a3 d.bars.length c3) (.int .i64 d.hold)) wr) (fun i _=>d.ways.length - (intOf i).toNat)
   case atStart=>exact ⟨0,Nat.zero_le _,rfl,fun j hj=>by omega,T1⟩
   case round=>
    obtain ⟨k2,hk2,rfl,hok,T2⟩:=hrel;rename World=>wb;have HO:=zaa hok;clear hok T1;obtain ⟨b0,b1,b2,b3,b4⟩:=T2.cells;obtain ⟨r0,r1,y0,y1,f0,f1⟩:=T2.slot;by_cases hlt2:k2 < d.ways.length
    ·obtain h0 | ⟨b,off,rfl,hb0,hc⟩:=H2.out
     ·omega
     obtain ⟨x,hx⟩:=zac d.ways (zaa rfl) hlt2;obtain ⟨u0,u1,u2,u3,u4,hw,g0,g1,g2,g3,g4⟩:=hc k2 hlt2 x hx;rw [← T2.below.cell (p:=⟨b,_,none⟩) hb0] at g0 g1 g2 g3 g4;have hsx:=HS3.out x (List.mem_of_getElem? hx);have Hx:=zaa hx;have hsz:=World.block_lt_of_cell? _ _ y0;simp only at hsz
     have hsz0:w.heap.size < wb.heap.size:=by omega
     have T3:=T2.call (zab _ (.cells #[u0,u1,u2,u3,u4] 122));have hq:=zoi d.sections (.int .i64 d.hold) (.slice a1 d.switches.length c1) (.slice (some ⟨b,off,none⟩) d.ways.length c2) (.slice a3 d.bars.length c3) u0 u1 u2 u3 u4 d.switches x _ (HK.out _ T3).1 (hw.keep (In.keep T3.below).1 (In.keep T3.below).2) n1 n60 q1 hsx;have HQ:=zaa hq;obtain ⟨⟨p0,o0,rfl,-⟩,⟨p1,o1,rfl,-⟩,⟨p2,o2,rfl,-⟩,⟨p3,o3,rfl,-⟩,⟨p4,o4,rfl,-⟩⟩:=hw;clear hx hc hq hsx
     go_wp2_with fail
     refine HQ.out.mono ?_;rintro e w3 ⟨rfl,hb3⟩;have T4:=T3.call hb3;clear T2 T3 b0 b1 b2 b3 b4 y0 y1 f0 f1 g0 g1 g2 g3 g4 HQ hb3 hsz hsz0;obtain ⟨r0,r1,y0,y1,f0,f1⟩:=T4.slot;by_cases hin:WayOk d.sections d.switches x
     ·rw [zam hin];have Hin:=zaa hin;clear hin;go_wp2;go_roundw
      case rel=>exact ⟨k2 + 1,by omega,by go_num,zcq HO.out fun h=>(ze5 Hx.out).1 h Hin.out,T4⟩
      case measure=>simp [intOf]; omega
     ·rw [zae hin];have Hin:=zaa hin;clear hin;go_wp2;exact bodyPost_ret (v:=.agg #[.int .i64 3,.int .i64 k2]) (by simp [results,Tryz.results131,go_sem,y0,y1]) rfl ⟨3,k2,rfl,zqi N1.out N2.out ⟨(ze5 Hx.out).2 Hin.out,HO.out⟩,T4.ret _ _⟩
    ·have N3:Hid (∀ k,¬ zk1 d k):=no3 HO.out (by omega);clear HO;by_cases hlen:d.bars.length = d.ways.length
     case neg=>
      have hl':((d.bars.length:Int) != (d.ways.length:Int)) = true:=by simp; omega
      have Hl:=zaa hlen;clear hlen;go_wp2;exact bodyPost_ret (v:=.agg #[.int .i64 4,.int .i64 0]) (by simp [results,Tryz.results131,go_sem,y0,y1]) rfl ⟨4,0,rfl,zn6 N1.out N2.out N3.out Hl.out,T2.ret _ _⟩
     have hl':((d.bars.length:Int) != (d.ways.length:Int)) = false:=by simp; omega
     have Hl:=zaa hlen;clear hlen;go_wp2;clear b0 b1 b2 b3 b4 y0 y1 f0 f1
     go_loopw [79] (fun i wr=>∃ (k:Nat),k ≤ d.bars.length ∧ i = .int .i64 k ∧ (∀ j,j < k → ¬ zlv d j) ∧ Bp w 37 157 (zch (.int .i64 d.sections) (.slice a1 d.switches.length c1) (.slice a2 d.ways.length c2) (.slice a3 d.bars.length c3) (.int .i64 d.hold)) wr) (fun i _=>d.bars.length - (intOf i).toNat)
     case atStart=>exact ⟨0,Nat.zero_le _,rfl,fun j hj=>by omega,T2⟩
     case round=>
      obtain ⟨k3,hk3,rfl,hok,T3⟩:=hrel;rename World=>wc;have HO:=zaa hok;clear hok T2;obtain ⟨b0,b1,b2,b3,b4⟩:=T3.cells;obtain ⟨r0,r1,y0,y1,f0,f1⟩:=T3.slot;by_cases hlt3:k3 < d.bars.length
      ·obtain h0 | ⟨b,off,rfl,hb0,hc⟩:=H3.out
       ·omega
       obtain ⟨x,hx⟩:=zac d.bars (zaa rfl) hlt3;obtain ⟨u0,⟨p0,o0,rfl,-⟩,g0⟩:=hc k3 hlt3 x hx;rw [← T3.below.cell (p:=⟨b,_,none⟩) hb0] at g0;have Hx:=zaa hx;clear hx hc;by_cases hin:x.length = d.ways.length
       ·have hin':((x.length:Int) != (d.ways.length:Int)) = false:=by simp; omega
        have Hin:=zaa hin;clear hin;go_wp2;go_roundw
        case rel=>exact ⟨k3 + 1,by omega,by go_num,zcq HO.out fun h=>(zec Hx.out).1 h Hin.out,T3⟩
        case measure=>simp [intOf]; omega
       ·have hin':((x.length:Int) != (d.ways.length:Int)) = true:=by simp; omega
        have Hin:=zaa hin;clear hin;go_wp2;exact bodyPost_ret (v:=.agg #[.int .i64 4,.int .i64 k3]) (by simp [results,Tryz.results131,go_sem,y0,y1]) rfl ⟨4,k3,rfl,zn7 N1.out N2.out N3.out Hl.out ⟨(zec Hx.out).2 Hin.out,HO.out⟩,T3.ret _ _⟩
      ·have N4:Hid (∀ k,¬ zlv d k):=no4 HO.out (by omega);clear HO;go_wp2;clear b0 b1 b2 b3 b4 y0 y1 f0 f1
       go_loopw [96] (fun i wr=>∃ (k:Nat),k ≤ d.bars.length ∧ i = .int .i64 k ∧ (∀ j,j < k → ¬ zpf d j) ∧ Bp w 37 157 (zch (.int .i64 d.sections) (.slice a1 d.switches.length c1) (.slice a2 d.ways.length c2) (.slice a3 d.bars.length c3) (.int .i64 d.hold)) wr) (fun i _=>d.bars.length - (intOf i).toNat)
       case atStart=>exact ⟨0,Nat.zero_le _,rfl,fun j hj=>by omega,T3⟩
       case round=>
        obtain ⟨i,hi,rfl,hok,T4⟩:=hrel;rename World=>wd;have HO:=zaa hok;clear hok T3;obtain ⟨b0,b1,b2,b3,b4⟩:=T4.cells;obtain ⟨r0,r1,y0,y1,f0,f1⟩:=T4.slot;by_cases hlt4:i < d.bars.length
        ·obtain h0 | ⟨b,off,rfl,hb0,hc⟩:=H3.out
         ·omega
         obtain h0 | ⟨b2,off2,rfl,hb2,hcw⟩:=H2.out
         ·exact absurd Hl.out (by omega)
         have hnw:i < d.ways.length:=by have:=Hl.out; omega
         obtain ⟨ri,hri⟩:=zac d.bars (zaa rfl) hlt4;obtain ⟨u0,hu0,g0⟩:=hc i hlt4 ri hri;have hril:ri.length = d.ways.length:=Classical.byContradiction fun h=>N4.out i ⟨ri,hri,h⟩;obtain ⟨p0,o0,rfl,hq0⟩:=hu0;obtain h0 | ⟨bi,oi,rfl,hbi,hci⟩:=hq0
         ·omega
         rw [← T4.below.cell (p:=⟨b,_,none⟩) hb0] at g0;have Hri:=zaa hri;have Hril:=zaa hril;have HCI:=zaa hci;have HCC:=zaa hc;have HCW:=zaa hcw;clear hri hril hci hc hcw;go_wp2;clear b0 b1 b2 b3 b4 y0 y1 f0 f1 g0
         go_loopw [103] (fun z wr=>∃ (k:Nat),k ≤ ri.length ∧ z = .int .i64 k ∧ (∀ j,j < k → ¬ Pair d i j) ∧ Bp w 37 157 (zch (.int .i64 d.sections) (.slice a1 d.switches.length c1) (.slice (some ⟨b2,off2,none⟩) d.ways.length c2) (.slice (some ⟨b,off,none⟩) d.bars.length c3) (.int .i64 d.hold)) wr) (fun z _=>ri.length - (intOf z).toNat)
         case atStart=>exact ⟨0,Nat.zero_le _,rfl,fun j hj=>by omega,T4⟩
         case round=>
          obtain ⟨k,hk,rfl,hok,T5⟩:=hrel;have HN:=zaa hok;clear hok T4;by_cases hlt5:k < ri.length
          ·obtain ⟨b0,b1,bw,bb,b4⟩:=T5.cells;obtain ⟨r0,r1,y0,y1,f0,f1⟩:=T5.slot
           have hkw:k < d.ways.length:=by have:=Hril.out; omega
           have hkb:k < d.bars.length:=by have:=Hl.out; omega
           obtain ⟨x,hx⟩:=zac ri (zaa rfl) hlt5;obtain ⟨rk,hrk⟩:=zac d.bars (zaa rfl) hkb;have hrkl:rk.length = d.ways.length:=Classical.byContradiction fun h=>N4.out k ⟨rk,hrk,h⟩;obtain ⟨u1,⟨p1,o1,rfl,hq1⟩,g1⟩:=HCC.out k hkb rk hrk;obtain h0 | ⟨bk,ok,rfl,hbk,hck⟩:=hq1
           ·omega
           obtain ⟨y,hy⟩:=zac rk (zaa rfl) (show i < rk.length by omega);obtain ⟨vi,hvi⟩:=zac d.ways (zaa rfl) hnw;obtain ⟨vk,hvk⟩:=zac d.ways (zaa rfl) hkw;obtain ⟨s0,_,_,_,_,hwi,g2,-,-,-,-⟩:=HCW.out i hnw vi hvi;obtain ⟨s1,_,_,_,_,hwk,g3,-,-,-,-⟩:=HCW.out k hkw vk hvk;have gx:=HCI.out k hlt5 x hx;have gy:=hck i (by omega) y hy;rw [← T5.below.cell (p:=⟨b,_,none⟩) hb0] at g1;rw [← T5.below.cell (p:=⟨bi,_,none⟩) hbi] at gx;rw [← T5.below.cell (p:=⟨bk,_,none⟩) hbk] at gy;rw [← T5.below.cell (p:=⟨b2,_,none⟩) hb2] at g2 g3;have hpair:=zmb (zh5 Hri.out hx) (zh5 hrk hy) hvi hvk;have HPA:=zaa hpair
           have hq:∀ j,Calls Tryz.prog 161 #[s0,s1] (wr.drewN j) fun e w'=>e = .returned (.bool (B (Meet vi.sections vk.sections))) ∧ w' = wr.drewN j:=fun j=>
            zbx s0 s1 vi.sections vk.sections (wr.drewN j) (hwi.1.keep (In.keep (T5.call (zan _ j)).below).1 (In.keep (T5.call (zan _ j)).below).2) (hwk.1.keep (In.keep (T5.call (zan _ j)).below).1 (In.keep (T5.call (zan _ j)).below).2) (HS3.out vi (List.mem_of_getElem? hvi)).1 (HS3.out vk (List.mem_of_getElem? hvk)).1
           have HQ:=zaa hq
           have i1:(k:Int) < (d.bars.length:Int):=by omega
           have i2:(i:Int) < (rk.length:Int):=by omega
           have i3:(i:Int) < (d.ways.length:Int):=by omega
           have i4:(k:Int) < (d.ways.length:Int):=by omega
           clear hx hrk hrkl hy hvi hvk hwi hwk hck hpair hq b0 b1 b4;by_cases hik:i = k
           ·have hik':((i:Int) != (k:Int)) = false:=by simp; omega
            have HIK:=zaa hik;clear hik
            cases x <;> cases y
            case' false.false=>
             go_wp2
             go_quiet (fail)
             go_wp2;go_roundw
             case rel=>exact ⟨k + 1,by omega,by go_num,zcq HN.out fun hp=>by rcases HPA.out.1 hp with h | h; exact h rfl; exact h.1 HIK.out,T5.call (zan _ _)⟩
             case measure=>simp [intOf]; omega
            case' true.true=>
             go_wp2
             go_quiet (fail)
             go_wp2;go_roundw
             case rel=>exact ⟨k + 1,by omega,by go_num,zcq HN.out fun hp=>by rcases HPA.out.1 hp with h | h; exact h rfl; exact h.1 HIK.out,T5.call (zan _ _)⟩
             case measure=>simp [intOf]; omega
            case' false.true=>
             go_wp2
             go_quiet (fail)
             go_wp2;exact bodyPost_ret (v:=.agg #[.int .i64 5,.int .i64 i]) (by simp [results,Tryz.results131,go_sem,y0,y1]) rfl ⟨5,i,rfl,zef N1.out N2.out N3.out Hl.out N4.out ⟨⟨by have:=Hl.out; omega,k,by omega,HPA.out.2 (.inl (by decide))⟩,HO.out⟩,(T5.call (zan _ _)).ret _ _⟩
            case' true.false=>
             go_wp2
             go_quiet (fail)
             go_wp2;exact bodyPost_ret (v:=.agg #[.int .i64 5,.int .i64 i]) (by simp [results,Tryz.results131,go_sem,y0,y1]) rfl ⟨5,i,rfl,zef N1.out N2.out N3.out Hl.out N4.out ⟨⟨by have:=Hl.out; omega,k,by omega,HPA.out.2 (.inl (by decide))⟩,HO.out⟩,(T5.call (zan _ _)).ret _ _⟩
           ·have hik':((i:Int) != (k:Int)) = true:=by simp; omega
            have HIK:=zaa hik;clear hik
            cases x <;> cases y
            case' true.true=>
             go_wp2
             go_quiet (fail)
             go_wp2;go_roundw
             case rel=>exact ⟨k + 1,by omega,by go_num,zcq HN.out fun hp=>by rcases HPA.out.1 hp with h | h; exact h rfl; exact Bool.noConfusion h.2.1,T5.call (zan _ _)⟩
             case measure=>simp [intOf]; omega
            case' false.true=>
             go_wp2
             go_quiet (fail)
             go_wp2;exact bodyPost_ret (v:=.agg #[.int .i64 5,.int .i64 i]) (by simp [results,Tryz.results131,go_sem,y0,y1]) rfl ⟨5,i,rfl,zef N1.out N2.out N3.out Hl.out N4.out ⟨⟨by have:=Hl.out; omega,k,by omega,HPA.out.2 (.inl (by decide))⟩,HO.out⟩,(T5.call (zan _ _)).ret _ _⟩
            case' true.false=>
             go_wp2
             go_quiet (fail)
             go_wp2;exact bodyPost_ret (v:=.agg #[.int .i64 5,.int .i64 i]) (by simp [results,Tryz.results131,go_sem,y0,y1]) rfl ⟨5,i,rfl,zef N1.out N2.out N3.out Hl.out N4.out ⟨⟨by have:=Hl.out; omega,k,by omega,HPA.out.2 (.inl (by decide))⟩,HO.out⟩,(T5.call (zan _ _)).ret _ _⟩
            case' false.false=>
             by_cases hmt:Meet vi.sections vk.sections
             ·rw [zam hmt] at HQ;have HM:=zaa hmt;clear hmt;go_wp2
              go_quiet ((go_at_call 161; exact Calls.quiet_of_same (HQ.out _)))
              go_wp2;exact bodyPost_ret (v:=.agg #[.int .i64 5,.int .i64 i]) (by simp [results,Tryz.results131,go_sem,y0,y1]) rfl ⟨5,i,rfl,zef N1.out N2.out N3.out Hl.out N4.out ⟨⟨by have:=Hl.out; omega,k,by omega,HPA.out.2 (.inr ⟨HIK.out,by first | trivial | rfl,HM.out⟩)⟩,HO.out⟩,(T5.call (zan _ _)).ret _ _⟩
             ·rw [zae hmt] at HQ;have HM:=zaa hmt;clear hmt;go_wp2
              go_quiet ((go_at_call 161; exact Calls.quiet_of_same (HQ.out _)))
              go_wp2;go_roundw
              case rel=>exact ⟨k + 1,by omega,by go_num,zcq HN.out fun hp=>by rcases HPA.out.1 hp with h | h; exact h rfl; exact HM.out h.2.2,T5.call (zan _ _)⟩
              case measure=>simp [intOf]; omega
          ·go_wp2;go_roundw
           case rel=>exact ⟨i + 1,by omega,by go_num,zcq HO.out fun hb=>by
            obtain ⟨-,q,hq,hp⟩:=hb
            exact HN.out q (by have:=Hril.out; omega) hp,T5⟩
           case measure=>simp [intOf]; omega
        ·have N5:Hid (∀ k,¬ zpf d k):=fun k hb=>HO.out k (by have:=hb.1; have:=Hl.out; omega) hb;go_wp2;exact bodyPost_ret (v:=.agg #[.int .i64 0,.int .i64 0]) (by simp [results,Tryz.results131,go_sem,y0,y1]) rfl ⟨0,0,rfl,zqg N1.out N2.out N3.out Hl.out N4.out N5.out,T4.ret _ _⟩
end Go.Proofs.YtdhinkgjiapigabGreatDoor
namespace Go.Proofs.YtdhinkgjiapigabGreatDoor
open Go.RowKit Go.Deep
open Classical
def Right (d:PlanD):Prop:=FaultBy (zpf d) d 0 0
theorem zkn {d:PlanD} {c a:Int} (h:FaultBy (zpf d) d c a):c = 0 ↔ Right d:=by
 constructor
 ·rintro rfl
  have ha:a = 0:=by
   rcases h with ⟨-,h,-⟩ | ⟨-,⟨k,-,h,-⟩ | ⟨-,⟨k,-,h,-⟩ | ⟨-,⟨-,h,-⟩ | ⟨-,⟨k,-,h,-⟩ | ⟨-,⟨k,-,h,-⟩ | ⟨-,-,h⟩⟩⟩⟩⟩⟩
   all_goals first | exact h | omega
  rw [ha] at h;exact h
 ·exact fun hr=>(FaultBy.uniq _ _ _ _ _ _ h hr).1
set_option maxHeartbeats 400000 in
theorem zl2 (v1 v2 v3:Value) (d:PlanD) (w:World) (hp:PlanAt (In w) w v1 v2 v3 d) (hs:d.Small 1048576) :
  Calls Tryz.prog 64 #[.agg #[.int .i64 d.sections,v1,v2,v3,.int .i64 d.hold]] w fun e w'=>e = .returned (.bool (B (Right d))) ∧ Below w.heap.size w w':=by
 have T0:=zaw w 37 #[.int .i64 d.sections,v1,v2,v3,.int .i64 d.hold];have hp0:=hp.keep (In.keep T0.below).1 (In.keep T0.below).2;clear hp;go_enter Tryz.func64,Tryz.ntmps64
 go_wp2_with fail
 refine (zh1 v1 v2 v3 d _ hp0 hs).mono ?_;rintro e w1 ⟨c,a,rfl,hf,hb⟩;have hr:=zkn hf;have T1:=T0.call hb;have T2:=T1.call (zab _ (.cells #[.int .i64 c,.int .i64 a] 157));have HR:=zaa hr;clear hr hf T0 T1 hb hp0;by_cases hc:c = 0
 ·subst hc;have e1:B (Right d) = true:=zam (HR.out.1 rfl);have E1:=zaa e1;clear e1;go_wp2;go_ret;exact ⟨zad (by rw [E1.out]),T2.below⟩
 ·have hc':(c == 0) = false:=by simpa using hc
  have e1:B (Right d) = false:=zae fun h=>hc (HR.out.2 h);have E1:=zaa e1;clear e1;go_wp2;go_ret;exact ⟨zad (by rw [E1.out]),T2.below⟩
theorem Right.parts {p:PlanD} (h:Right p):(InR p.sections 1 60 ∧ p.switches.length ≤ 40 ∧ p.ways.length ≤ 100 ∧ InR p.hold 1 300) ∧ (∀ k,¬ zjw p k) ∧ (∀ k,¬ zk1 p k) ∧ p.bars.length = p.ways.length ∧ (∀ k,¬ zlv p k) ∧ ∀ k,¬ zpf p k:=by
 rcases h with ⟨-,h,-⟩ | ⟨h1,⟨k,-,h,-⟩ | ⟨h2,⟨k,-,h,-⟩ | ⟨h3,⟨-,h,-⟩ | ⟨h4,⟨k,-,h,-⟩ | ⟨h5,⟨k,-,h,-⟩ | ⟨h6,-,h⟩⟩⟩⟩⟩⟩
 all_goals first | (exfalso; omega) | skip
 exact ⟨Decidable.byContradiction h1,h2,h3,Decidable.byContradiction h4,h5,h6⟩
end Go.Proofs.YtdhinkgjiapigabGreatDoor

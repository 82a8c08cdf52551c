import Derived.Test.YtdhinkgjiapigabGreatDoorBase
import Derived.Test.YtdhinkgjiapigabGreatDoorCopyA
namespace Go.Proofs.YtdhinkgjiapigabGreatDoor
open Go.RowKit Go.Deep
set_option maxRecDepth 100000 in
set_option maxHeartbeats 2000000 in
theorem zlh (n hd ok p1 p2 p3 f1 f2 f3:Value) (ways:List WayD) (helds:List HeldD) (i:Nat) (x:WayD) (h:HeldD) (s:Int) (w:World) (hp:Ways (In w) w p2 ways) (hf:Helds (In w) w f3 helds)
  (hi:ways[i]? = some x) (hj:helds[i]? = some h) (_hw:ways.length ≤ 1048576) (_hh:helds.length ≤ 1048576) (hs:x.sections.length ≤ 1048576) (hg:0 ≤ h.gone) :
  Calls Tryz.prog 109 #[.agg #[n,p1,p2,p3,hd],.agg #[ok,f1,f2,f3],.int .i64 i,.int .i64 s] w fun e w'=>e = .returned (.bool (zb7 x h s)) ∧ Below w.heap.size w w':=by
 obtain ⟨ap,cp,rfl,hcp⟩:=hp;obtain ⟨af,cf,rfl,hcf⟩:=hf;have hil:i < ways.length:=(List.getElem?_eq_some_iff.1 hi).1;have hjl:i < helds.length:=(List.getElem?_eq_some_iff.1 hj).1;obtain h0 | ⟨b,off,rfl,hb0,hcw⟩:=hcp
 ·omega
 obtain h0 | ⟨bf,of,rfl,hbf,hch⟩:=hcf
 ·omega
 obtain ⟨v0,v1,v2,v3,v4,⟨⟨a0,k0,rfl,hx0⟩,-⟩,g0,-,-,-,-⟩:=hcw i hil x hi;obtain ⟨u2,-,j0,j1,-⟩:=hch i hjl h hj;have T0:=zbc w 37 42 #[n,p1,.slice (some ⟨b,off,none⟩) ways.length cp,p3,hd] #[ok,f1,f2,.slice (some ⟨bf,of,none⟩) helds.length cf];have HX:=zaa hx0
 have hil':(i:Int) < (ways.length:Int):=by omega
 have hjl':(i:Int) < (helds.length:Int):=by omega
 have G0:=ckb g0 T0.below;have J0:=ckb j0 T0.below;have J1:=ckb j1 T0.below;clear hcw hch hi hj hx0 g0 j0 j1;go_enter Tryz.func109,Tryz.ntmps109;by_cases z0:h.state = 0
 ·have z0':(h.state == 0) = true:=by simp [z0]
  have Z0:=zaa z0;clear z0;go_wp2;go_ret;exact ⟨zad (zf6 hg fun q=>q.1 Z0.out).symm,T0.below⟩
 have z0':(h.state == 0) = false:=by simp [z0]
 have Z0:=zaa z0;clear z0;go_wp2
 go_loop [25] (fun z=>∃ (k:Nat),k ≤ x.sections.length ∧ z = .int .i64 k ∧ ∀ j:Nat,j < k → x.sections[j]? = some s → ¬ h.gone ≤ j) (fun z=>x.sections.length - (intOf z).toNat)
 case atStart=>exact ⟨0,by omega,rfl,fun j hj=>by omega⟩
 case round=>
  obtain ⟨k,hk,rfl,hall⟩:=hrel;have HA:=zaa hall;clear hall;by_cases hlt:k < x.sections.length
  ·obtain h0 | ⟨bs,os,rfl,hbs,hcs⟩:=HX.out
   ·omega
   obtain ⟨y,hy⟩:=zac x.sections (zaa rfl) hlt;have gy:=ckb (hcs k hlt y hy) T0.below;have Hy:=zaa hy;clear hy hcs;by_cases e1:y = s
   ·have e1':(y == s) = true:=by simp [e1]
    have E1:=zaa e1;clear e1;by_cases e2:h.gone ≤ (k:Int)
    ·have E2:=zaa e2;go_wp2;go_ret;exact ⟨zad ((zh9 hg).2 ⟨Z0.out,k,by rw [Hy.out,E1.out],E2.out⟩).symm,T0.below⟩
    ·have e2':decide (h.gone ≤ (k:Int)) = false:=by simpa using e2
     have E2:=zaa e2;clear e2;go_wp2
     go_round
     case rel=>exact ⟨k + 1,by omega,by go_num,fun j hj hs=>by
      by_cases e:j = k
      ·subst e; exact E2.out
      ·exact HA.out j (by omega) hs⟩
     case measure=>simp [intOf]; omega
   ·have e1':(y == s) = false:=by simp [e1]
    have E1:=zaa e1;clear e1;go_wp2
    go_round
    case rel=>exact ⟨k + 1,by omega,by go_num,fun j hj hs=>by
     by_cases e:j = k
     ·subst e; rw [Hy.out] at hs; cases hs; exact absurd rfl E1.out
     ·exact HA.out j (by omega) hs⟩
    case measure=>simp [intOf]; omega
  ·go_wp2;go_ret
   exact ⟨zad (zf6 hg fun q=>by
    obtain ⟨-,j,hj,hgj⟩:=q;have:=HA.out j (by have:=(List.getElem?_eq_some_iff.1 hj).1; omega) hj
    omega).symm,T0.below⟩
set_option maxRecDepth 100000 in
set_option maxHeartbeats 2000000 in
theorem zlj (n hd ok p1 p2 p3 f1 f2 f3:Value) (sw:List Int) (ways:List WayD) (helds:List HeldD) (i:Nat) (x:WayD) (h:HeldD) (q:Nat) (w:World) (hsw:Ints (In w) w p1 sw) (hp:Ways (In w) w p2 ways) (hf:Helds (In w) w f3 helds)
  (hi:ways[i]? = some x) (hj:helds[i]? = some h) (hw:ways.length ≤ 1048576) (hh:helds.length ≤ 1048576) (hs:x.Small 1048576) (hg:0 ≤ h.gone) (hq:q < sw.length) (_hsl:sw.length ≤ 1048576) :
  Calls Tryz.prog 143 #[.agg #[n,p1,p2,p3,hd],.agg #[ok,f1,f2,f3],.int .i64 i,.int .i64 q] w fun e w'=>e = .returned (.int .i64 (zdc sw x h q)) ∧ Below w.heap.size w w':=by
 have HP:=zaa hp;have HF:=zaa hf;have HI:=zaa hi;have HJ:=zaa hj;obtain ⟨a1,c1,rfl,hc1⟩:=hsw;obtain ⟨ap,cp,rfl,hcp⟩:=hp;obtain ⟨af,cf,rfl,hcf⟩:=hf;have hil:i < ways.length:=(List.getElem?_eq_some_iff.1 hi).1;have hjl:i < helds.length:=(List.getElem?_eq_some_iff.1 hj).1;obtain h0 | ⟨b1,o1,rfl,hb1,hc1⟩:=hc1
 ·omega
 obtain h0 | ⟨b,off,rfl,hb0,hcw⟩:=hcp
 ·omega
 obtain h0 | ⟨bf,of,rfl,hbf,hch⟩:=hcf
 ·omega
 obtain ⟨v0,v1,v2,v3,v4,⟨-,⟨a2,k2,rfl,hx2⟩,⟨a3,k3,rfl,hx3⟩,-⟩,-,g1,g2,-,-⟩:=hcw i hil x hi;obtain ⟨u2,-,j0,-⟩:=hch i hjl h hj;obtain ⟨sq,hsq⟩:=zac sw (zaa rfl) hq;have s0:=hc1 q hq sq hsq;have T0:=zbc w 37 42 #[n,.slice (some ⟨b1,o1,none⟩) sw.length c1,.slice (some ⟨b,off,none⟩) ways.length cp,p3,hd] #[ok,f1,f2,.slice (some ⟨bf,of,none⟩) helds.length cf];have HX2:=zaa hx2;have HX3:=zaa hx3;have HSQ:=zaa hsq
 have hil':(i:Int) < (ways.length:Int):=by omega
 have hjl':(i:Int) < (helds.length:Int):=by omega
 have hq':(q:Int) < (sw.length:Int):=by omega
 have J0:=ckb j0 T0.below;have G2:=ckb g2 T0.below;have HG1:=zaa g1;have HS0:=zaa s0;obtain ⟨hsx,hsl2,hsl3,-⟩:=hs;clear hcw hch hi hj hx2 hx3 g1 g2 j0 hsq s0 hc1;go_enter Tryz.func143,Tryz.ntmps143;by_cases z0:h.state = 0
 ·have z0':(h.state == 0) = true:=by simp [z0]
  have Z0:=zaa z0;clear z0;go_wp2;go_ret;exact ⟨zfz (ze1 Z0.out).symm,T0.below⟩
 have z0':(h.state == 0) = false:=by simp [z0]
 have Z0:=zaa z0;clear z0;go_wp2
 go_loopw [27] (fun z wr=>∃ (k:Nat),k ≤ x.flanks.length ∧ z = .int .i64 k ∧ (∀ (j:Nat) y,j < k → x.flanks[j]? = some y → (y.1 == (q:Int)) = false) ∧ Boxes w [(37,#[n,.slice (some ⟨b1,o1,none⟩) sw.length c1,.slice (some ⟨b,off,none⟩) ways.length cp,p3,hd]),(42,#[ok,f1,f2,.slice (some ⟨bf,of,none⟩) helds.length cf])] wr) (fun z _=>x.flanks.length - (intOf z).toNat)
 case atStart=>exact ⟨0,by omega,rfl,fun j _ hj=>by omega,T0⟩
 case round=>
  obtain ⟨k,hk,rfl,hall,T1⟩:=hrel;have HA:=zaa hall;clear hall T0 J0 G2;by_cases hlt:k < x.flanks.length
  ·obtain h0 | ⟨bs,os,rfl,hbs,hcs⟩:=HX3.out
   ·omega
   obtain ⟨y,hy⟩:=zac x.flanks (zaa rfl) hlt;obtain ⟨g0,g1⟩:=hcs k hlt y hy;rw [← T1.below.cell (p:=⟨bs,_,none⟩) hbs] at g0 g1;have Hy:=zaa hy;have T2:=T1.call (zab wr (.cells #[.int .i64 y.1,.int .i64 y.2] 175));clear hy hcs;by_cases e1:y.1 = (q:Int)
   ·have e1':(y.1 == (q:Int)) = true:=by simp [e1]
    have E1:=zaa e1';clear e1;go_wp2;go_ret;exact ⟨zfz (zgg Z0.out (zf3 HA.out Hy.out E1.out)).symm,T2.below⟩
   ·have e1':(y.1 == (q:Int)) = false:=by simp [e1]
    have E1:=zaa e1';clear e1;go_wp2;go_roundw
    case rel=>exact ⟨k + 1,by omega,by go_num,fun j y' hj hy'=>by
     by_cases e:j = k
     ·subst e; rw [Hy.out] at hy'; cases hy'; exact E1.out
     ·exact HA.out j y' (by omega) hy',T2⟩
    case measure=>simp [intOf]; omega
  ·have hnf:x.flanks.find? (fun y=>y.1 == (q:Int)) = none:=zf2 HA.out (by omega);have HNF:=zaa hnf;have r2:wr.cell? ⟨w.heap.size,2,none⟩ = some (.slice (some ⟨b,off,none⟩) ways.length cp):=T1.cell (j:=0) (i:=2) rfl rfl;have G1:=ckb HG1.out T1.below;clear hnf HA;go_wp2;clear r2 G1;rename World=>wo
   go_loopw [45] (fun z wr=>∃ (k:Nat),k ≤ x.lies.length ∧ z = .int .i64 k ∧ (∀ (j:Nat) y,j < k → x.lies[j]? = some y → (y.1 == (q:Int) && zb7 x h (sw.getD (q:Int).toNat 0)) = false) ∧ Boxes w [(37,#[n,.slice (some ⟨b1,o1,none⟩) sw.length c1,.slice (some ⟨b,off,none⟩) ways.length cp,p3,hd]),(42,#[ok,f1,f2,.slice (some ⟨bf,of,none⟩) helds.length cf])] wr) (fun z _=>x.lies.length - (intOf z).toNat)
   case atStart=>exact ⟨0,by omega,rfl,fun j _ hj=>by omega,T1⟩
   case round=>
    obtain ⟨k2,hk2,rfl,hall,T2⟩:=hrel;have HA:=zaa hall;clear hall T1;by_cases hlt2:k2 < x.lies.length
    ·obtain h0 | ⟨bs,os,rfl,hbs,hcs⟩:=HX2.out
     ·omega
     obtain ⟨⟨ya,yb⟩,hy⟩:=zac x.lies (zaa rfl) hlt2;obtain ⟨g0,g1⟩:=hcs k2 hlt2 (ya,yb) hy;simp only at g0 g1;rw [← T2.below.cell (p:=⟨bs,_,none⟩) hbs] at g0 g1;have Hy:=zaa hy;have T3:=T2.call (zab wr (.cells #[.int .i64 ya,.int .i64 yb] 175))
     have hgd:sw.getD (q:Int).toNat 0 = sq:=by rw [Int.toNat_natCast,List.getD_eq_getElem?_getD,HSQ.out]; rfl
     have HGD:=zaa hgd;clear hy hcs hgd;have hneX:=Ext.any (wr.alloc (.cells #[.int .i64 ya,.int .i64 yb] 175));have E0:=Ext.cell (show (wr.alloc (.cells #[.int .i64 ya,.int .i64 yb] 175)).cell? ⟨wr.heap.size,0,none⟩ = some (.int .i64 ya) by simp);have E1:=Ext.cell (show (wr.alloc (.cells #[.int .i64 ya,.int .i64 yb] 175)).cell? ⟨wr.heap.size,1,none⟩ = some (.int .i64 yb) by simp);have P0:=Ext.cell (show (wr.alloc (.cells #[.int .i64 ya,.int .i64 yb] 175)).cell? ⟨w.heap.size,0,none⟩ = some n from T3.cell (j:=0) (i:=0) rfl rfl);have P1:=Ext.cell (show (wr.alloc (.cells #[.int .i64 ya,.int .i64 yb] 175)).cell? ⟨w.heap.size,1,none⟩ = some (.slice (some ⟨b1,o1,none⟩) sw.length c1) from T3.cell (j:=0) (i:=1) rfl rfl);have P2:=Ext.cell (show (wr.alloc (.cells #[.int .i64 ya,.int .i64 yb] 175)).cell? ⟨w.heap.size,2,none⟩ = some (.slice (some ⟨b,off,none⟩) ways.length cp) from T3.cell (j:=0) (i:=2) rfl rfl);have P3:=Ext.cell (show (wr.alloc (.cells #[.int .i64 ya,.int .i64 yb] 175)).cell? ⟨w.heap.size,3,none⟩ = some p3 from T3.cell (j:=0) (i:=3) rfl rfl);have P4:=Ext.cell (show (wr.alloc (.cells #[.int .i64 ya,.int .i64 yb] 175)).cell? ⟨w.heap.size,4,none⟩ = some hd from T3.cell (j:=0) (i:=4) rfl rfl);have F0:=Ext.cell (show (wr.alloc (.cells #[.int .i64 ya,.int .i64 yb] 175)).cell? ⟨w.heap.size + 1,0,none⟩ = some ok from T3.cell (j:=1) (i:=0) rfl rfl);have F1:=Ext.cell (show (wr.alloc (.cells #[.int .i64 ya,.int .i64 yb] 175)).cell? ⟨w.heap.size + 1,1,none⟩ = some f1 from T3.cell (j:=1) (i:=1) rfl rfl)
     have F2:=Ext.cell (show (wr.alloc (.cells #[.int .i64 ya,.int .i64 yb] 175)).cell? ⟨w.heap.size + 1,2,none⟩ = some f2 from T3.cell (j:=1) (i:=2) rfl rfl);have F3:=Ext.cell (show (wr.alloc (.cells #[.int .i64 ya,.int .i64 yb] 175)).cell? ⟨w.heap.size + 1,3,none⟩ = some (.slice (some ⟨bf,of,none⟩) helds.length cf) from T3.cell (j:=1) (i:=3) rfl rfl);have S0:=Ext.cell (ckb HS0.out T3.below)
     have hcall:∀ nn:Ext (wr.alloc (.cells #[.int .i64 ya,.int .i64 yb] 175)),Calls Tryz.prog 109 #[.agg #[n,.slice (some ⟨b1,o1,none⟩) sw.length c1,.slice (some ⟨b,off,none⟩) ways.length cp,p3,hd],.agg #[ok,f1,f2,.slice (some ⟨bf,of,none⟩) helds.length cf],.int .i64 i,.int .i64 sq] nn.w fun e w'=>e = .returned (.bool (zb7 x h sq)) ∧ Below nn.w.heap.size nn.w w':=fun nn=>by
      have hB:=T3.below.trans (nn.below.mono T3.below.size);exact zlh _ _ _ _ _ _ _ _ _ ways helds i x h sq nn.w (HP.out.keep (In.keep hB).1 (In.keep hB).2) (HF.out.keep (In.keep hB).1 (In.keep hB).2) HI.out HJ.out hw hh hsx hg
     have HC:=zaa hcall;clear hcall
     have stp:(ya == (q:Int) && zb7 x h (sw.getD (q:Int).toNat 0)) = false → ∀ (j:Nat) y',j < k2 + 1 → x.lies[j]? = some y' → (y'.1 == (q:Int) && zb7 x h (sw.getD (q:Int).toNat 0)) = false:=fun hs j y' hj hy'=>by
      by_cases e:j = k2
      ·subst e; rw [Hy.out] at hy'; cases hy'; exact hs
      ·exact HA.out j y' (by omega) hy'
     have STEP:=zaa stp;clear stp;by_cases e1:ya = (q:Int)
     ·subst e1
      have EE:Hid (((q:Int) == (q:Int)) = true):=by show ((q:Int) == (q:Int)) = true; simp
      cases hhb:zb7 x h sq
      ·rw [hhb] at HC;have HHB:=zaa hhb;clear hhb;go_wp2;refine zaj (by kernel_rfl) (by kernel_rfl) ?_
       repeat (go_big_quiet_step ((go_at_call 109; exact zaz (HC.out _))))
       refine wpQuiet_nil ?_;rintro _ ⟨nn,rfl⟩;go_wp2;go_roundw
       case rel=>exact ⟨k2 + 1,by omega,by go_num,STEP.out (by rw [HGD.out,HHB.out,Bool.and_false]),T3.call nn.below⟩
       case measure=>simp [intOf]; omega
      ·rw [hhb] at HC;have HHB:=zaa hhb;clear hhb;go_wp2;refine zaj (by kernel_rfl) (by kernel_rfl) ?_
       repeat (go_big_quiet_step ((go_at_call 109; exact zaz (HC.out _))))
       refine wpQuiet_nil ?_;rintro _ ⟨nn,rfl⟩;go_wp2;go_ret;exact ⟨zfz (ziq Z0.out HNF.out (zf3 HA.out Hy.out (by rw [HGD.out,HHB.out,EE.out]; rfl))).symm,(T3.call nn.below).below⟩
     ·have e1':(ya == (q:Int)) = false:=by simp [e1]
      have EE:=zaa e1';clear e1;go_wp2;refine zaj (by kernel_rfl) (by kernel_rfl) ?_
      repeat (go_big_quiet_step ((go_at_call 109; exact zaz (HC.out _))))
      refine wpQuiet_nil ?_;rintro _ ⟨nn,rfl⟩;go_wp2;go_roundw
      case rel=>exact ⟨k2 + 1,by omega,by go_num,STEP.out (by rw [EE.out,Bool.false_and]),T3.call nn.below⟩
      case measure=>simp [intOf]; omega
    ·have hnl:x.lies.find? (fun y=>y.1 == (q:Int) && zb7 x h (sw.getD (q:Int).toNat 0)) = none:=zf2 HA.out (by omega);have HNL:=zaa hnl;clear hnl;go_wp2;go_ret;exact ⟨zfz (ze2 Z0.out HNF.out HNL.out).symm,T2.below⟩
end Go.Proofs.YtdhinkgjiapigabGreatDoor
namespace Go.Proofs.YtdhinkgjiapigabGreatDoor
open Go.RowKit Go.Deep
theorem Boxes.but {w:World} {bs:List (TypeId × Array Value)} {W W':World} {K:Nat → Prop} (h:Boxes w bs W) (hB:But K W W') (hK:∀ c,c < w.heap.size + bs.length → K c):Boxes w bs W':=by
 refine ⟨h.below.trans (hB.below h.below.size fun c hc=>hK c (by omega)),fun j t c hj=>?_⟩;have hjl:=(List.getElem?_eq_some_iff.1 hj).1;exact hB.row (h.row j t c hj) (hK _ (by omega))
theorem zbm {W W':World} {base:Nat} {e size:Nat} {v:Value} {n:Nat} {xs:List Value} (hown:W.ownsRow base e size v n xs) (hg:W.grownBy W' v.ownBlock) {B:Nat} (hB:B ≤ base) (hBW:B ≤ W.heap.size):Below B W W':=
 (Below.refl _ _).grown hg hBW fun _k hk=>Nat.le_trans hB (zat hown hk).1
def zcg (l:List Int):List Value:=l.map (Value.int .i64)
theorem zc4 (a b:List Int):zcg (a ++ b) = zcg a ++ zcg b:=List.map_append
theorem zbt (l:List Int):(zcg l).length = l.length:=List.length_map _
theorem zb2 {w:World} {base:Nat} {v:Value} {l:List Int} {n:Nat} (h:w.ownsRow base 3 1 v n (zcg l)):n = l.length ∧ Ints (fun c=>base ≤ c ∧ c < w.heap.size) w v l:=by
 have hn:n = l.length:=by have:=h.1; rw [zbt] at this; omega
 refine ⟨hn,?_⟩;subst hn;rcases Nat.eq_zero_or_pos l.length with e | e
 ·obtain ⟨-,⟨rfl,-⟩ | ⟨g,cap,cur,rfl,-⟩⟩:=h
  ·exact ⟨none,0,by rw [e],.inl e⟩
  ·exact ⟨_,cap,rfl,.inl e⟩
 ·obtain ⟨g,cap,f,rfl,hb,hr,hc,hf⟩:=zdt h e;exact ⟨_,cap,rfl,.inr ⟨g,0,rfl,⟨hb,hr.lt⟩,fun i hi x hx=>by rw [Nat.zero_add,hr.cell (by omega),hf i (.int .i64 x) (by unfold zcg; rw [List.getElem?_map,hx]; rfl)]⟩⟩
set_option maxRecDepth 100000 in
set_option maxHeartbeats 2000000 in
theorem zg7 (n hd ok p1 p2 p3 f1 f2 f3:Value) (p:PlanD) (d:FrameD) (q:Nat) (w:World) (hsw:Ints (In w) w p1 p.switches) (hp:Ways (In w) w p2 p.ways) (hf:Helds (In w) w f3 d.ways)
  (hl:d.ways.length = p.ways.length) (hs:p.Small 1048576) (hg:∀ (i:Nat) h,d.ways[i]? = some h → 0 ≤ h.gone) (hq:q < p.switches.length) :
  Calls Tryz.prog 89 #[.agg #[n,p1,p2,p3,hd],.agg #[ok,f1,f2,f3],.int .i64 q] w fun e w'=>∃ v,e = .returned v ∧ Below w.heap.size w w' ∧ ∃ m,w'.ownsRow (w.heap.size + 1 + 1) 3 1 v m (zcg (zbn p d q)):=by
 have HSW:=zaa hsw;have HP:=zaa hp;have HF:=zaa hf;have HL:=zaa hl;have HG:=zaa hg;have HS:=zaa hs;obtain ⟨a1,c1,rfl,-⟩:=hsw;obtain ⟨ap,cp,rfl,-⟩:=hp;obtain ⟨af,cf,rfl,-⟩:=hf;obtain ⟨hs1,hs2,-⟩:=hs;have T0:=zbc w 37 42 #[n,.slice a1 p.switches.length c1,.slice ap p.ways.length cp,p3,hd] #[ok,f1,f2,.slice af d.ways.length cf];clear hl hg;go_enter Tryz.func89,Tryz.ntmps89;go_wp2
 go_loopw [7,12] (fun o z wr=>∃ (i m:Nat) (v:Value),i ≤ p.ways.length ∧ z = .int .i64 i ∧ o = v ∧ wr.ownsRow (w.heap.size + 1 + 1) 3 1 v m (zcg (((List.range i).filter fun j=>decide (0 < zcs p d q j)).map fun j:Nat=>(j:Int))) ∧ Boxes w [(37,#[n,.slice a1 p.switches.length c1,.slice ap p.ways.length cp,p3,hd]),(42,#[ok,f1,f2,.slice af d.ways.length cf])] wr) (fun _ z _=>p.ways.length - (intOf z).toNat)
 case atStart=>exact ⟨0,0,_,by omega,rfl,rfl,World.ownsRow_nil _ _ _ _,T0⟩
 case round=>
  obtain ⟨i,m,v,hi,rfl,rfl,hown,T1⟩:=hrel;have HOW:=zaa hown;clear T0 hown;by_cases hlt:i < p.ways.length
  ·obtain ⟨x,hx⟩:=zac p.ways (zaa rfl) hlt;obtain ⟨h,hh⟩:=zac d.ways (zaa HL.out) hlt;have r0:wr.cell? ⟨w.heap.size,0,none⟩ = some n:=T1.cell (j:=0) (i:=0) rfl rfl;have r1:wr.cell? ⟨w.heap.size,1,none⟩ = some (.slice a1 p.switches.length c1):=T1.cell (j:=0) (i:=1) rfl rfl;have r2:wr.cell? ⟨w.heap.size,2,none⟩ = some (.slice ap p.ways.length cp):=T1.cell (j:=0) (i:=2) rfl rfl;have r3:wr.cell? ⟨w.heap.size,3,none⟩ = some p3:=T1.cell (j:=0) (i:=3) rfl rfl;have r4:wr.cell? ⟨w.heap.size,4,none⟩ = some hd:=T1.cell (j:=0) (i:=4) rfl rfl;have t0:wr.cell? ⟨w.heap.size + 1,0,none⟩ = some ok:=T1.cell (j:=1) (i:=0) rfl rfl;have t1:wr.cell? ⟨w.heap.size + 1,1,none⟩ = some f1:=T1.cell (j:=1) (i:=1) rfl rfl;have t2:wr.cell? ⟨w.heap.size + 1,2,none⟩ = some f2:=T1.cell (j:=1) (i:=2) rfl rfl;have t3:wr.cell? ⟨w.heap.size + 1,3,none⟩ = some (.slice af d.ways.length cf):=T1.cell (j:=1) (i:=3) rfl rfl
   have hwa:zcs p d q i = zdc p.switches x h q:=by unfold zcs; rw [hx,hh]
   have HWA:=zaa hwa
   have hcall:=zlj n hd ok (.slice a1 p.switches.length c1) (.slice ap p.ways.length cp) p3 f1 f2 (.slice af d.ways.length cf) p.switches p.ways d.ways i x h q wr (HSW.out.keep (In.keep T1.below).1 (In.keep T1.below).2) (HP.out.keep (In.keep T1.below).1 (In.keep T1.below).2) (HF.out.keep (In.keep T1.below).1 (In.keep T1.below).2)
    hx hh hs2 (by have:=HL.out; omega) (HS.out.2.2.1 x (List.mem_of_getElem? hx)) (HG.out i h hh) hq hs1
   have HC:=zaa hcall;clear hx hh hwa hcall
   go_wp2_with fail
   refine HC.out.mono ?_;rintro e w2 ⟨rfl,hb2⟩;have T2:=T1.call hb2;have HOW2:=za3 (K:=fun _=>True) HOW.out (But.of_calls hb2) fun _ _=>trivial;clear r0 r1 r2 r3 r4 t0 t1 t2 t3 HC;obtain ⟨wt,hwt⟩:∃ c,zdc p.switches x h q = c:=⟨_,rfl⟩;rw [hwt];have HWT:Hid (zcs p d q i = wt):=HWA.out.trans hwt;clear hwt HWA;by_cases e1:0 < wt
   ·have e1':decide (0 < wt) = true:=by simpa using e1
    have E1:=zaa e1;clear e1;have hbY:=zab w2 (.cells #[.int .i64 (i:Int)] 3);have OWY:=zaa (za3 (K:=fun _=>True) HOW2 (But.of_calls hbY) fun _ _=>trivial);have TY:=T2.call hbY
    have SRC:Hid (1 = 0 ∨ ∃ A,(some (⟨w2.heap.size,0,none⟩:Addr)) = some A ∧ ∀ j u,([.int .i64 (i:Int)]:List Value)[j]? = some u → (w2.alloc (.cells #[.int .i64 (i:Int)] 3)).cell? (A.add j) = some u):=by
     refine .inr ⟨_,rfl,fun j u hj=>?_⟩;rw [zbp,Nat.zero_add];have hj1:j < 1:=(List.getElem?_eq_some_iff.1 hj).1
     obtain rfl:j = 0:=by omega
     rw [(zak w2 3 #[.int .i64 (i:Int)]).cell (by simp)];exact hj
    have ONE:Hid (∀ u ∈ ([.int .i64 (i:Int)]:List Value),u.oneCell' = true):=by
     intro u hu;simp at hu;subst hu;rfl
    have hm:m ≤ i:=by
     have h1:=HOW.out.1;rw [zbt] at h1;have h2:=zg2 (fun j=>decide (0 < zcs p d q j)) i;omega
    have HM7:Hid (m + 1 ≤ maxLen):=by show m + 1 ≤ maxLen; unfold maxLen; omega
    have HM8:Hid ((m + 1) * 8 ≤ 140737488355328):=by show (m + 1) * 8 ≤ 140737488355328; omega
    have HZY:Hid (w.heap.size + 1 + 1 ≤ (w2.alloc (.cells #[.int .i64 (i:Int)] 3)).heap.size):=TY.lt (j:=1) rfl;obtain ⟨xs,hxs⟩:∃ xs,xs = zcg (((List.range i).filter fun j=>decide (0 < zcs p d q j)).map fun j:Nat=>(j:Int)):=⟨_,rfl⟩;have HXS:=zaa hxs;rw [← hxs] at OWY;have HTY:=zaa TY;clear hxs TY hbY HOW2 T2
    go_wp2_with (at_builtin; refine zai rfl _ _ 22 rfl (w.heap.size + 1 + 1) 3 (.int .i64 0) 1 8 Tryz.underlying22 Tryz.infoInt rfl (by decide) _ m xs rfl OWY.out (some ⟨w2.heap.size,0,none⟩) 1 1 [.int .i64 (i:Int)] rfl rfl SRC.out ONE.out HM7.out HM8.out HZY.out ?_)
    intro u5 w5 hown5 hgr5
    have T5:=HTY.out.but (W':=w5) (K:=fun c=>c < w.heap.size + 1 + 1) (But.of_below (zbm OWY.out hgr5 (Nat.le_refl _) HZY.out) fun _ _ z=>z) fun c hc=>by simpa using hc
    have hown6:w5.ownsRow (w.heap.size + 1 + 1) 3 1 u5 (m + 1) (zcg (((List.range (i + 1)).filter fun j=>decide (0 < zcs p d q j)).map fun j:Nat=>(j:Int))):=by
     rw [zg3,if_pos (by rw [HWT.out]; simpa using E1.out),zc4,← HXS.out];exact hown5
    have HO6:=zaa hown6;clear hown5 hown6 hgr5 OWY SRC ONE HTY;go_wp2;go_roundw
    case rel=>exact ⟨i + 1,m + 1,_,by omega,by go_num,rfl,HO6.out,T5⟩
    case measure=>simp [intOf]; omega
   ·have e1':decide (0 < wt) = false:=by simpa using e1
    have E1:=zaa e1;clear e1;go_wp2;go_roundw
    case rel=>exact ⟨i + 1,m,_,by omega,by go_num,rfl,by rw [zg3,if_neg (by rw [HWT.out]; simpa using E1.out),List.append_nil]; exact HOW2,T2⟩
    case measure=>simp [intOf]; omega
  ·have hin:i = p.ways.length:=by omega
   have HIN:=zaa hin;clear hin;go_wp2;go_ret;exact ⟨_,rfl,T1.below,m,by have:=HOW.out; rw [HIN.out] at this; exact this⟩
end Go.Proofs.YtdhinkgjiapigabGreatDoor

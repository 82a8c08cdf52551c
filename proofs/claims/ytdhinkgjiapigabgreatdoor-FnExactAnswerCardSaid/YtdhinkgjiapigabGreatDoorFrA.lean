import Derived.Test.YtdhinkgjiapigabGreatDoorToA
import Derived.Test.YtdhinkgjiapigabGreatDoorImpl
import Derived.Test.YtdhinkgjiapigabGreatDoorBase
namespace Go.Proofs.YtdhinkgjiapigabGreatDoor
open Go.RowKit Go.Deep
theorem zb4 {α:Type} (l:List α) {i:Nat} (h:i < l.length):∃ x,l[i]? = some x:=⟨l[i],List.getElem?_eq_getElem h⟩
set_option maxRecDepth 100000 in
set_option maxHeartbeats 2000000 in
theorem zcl (ok f1 f2 f3 v:Value) (occ:List Bool) (l:List Int) (w:World) (hf1:Bools (In w) w f1 occ) (hv:Ints (In w) w v l) (hl:l.length ≤ 1048576) (_ho:occ.length ≤ 1048576) (hin:∀ s ∈ l,0 ≤ s ∧ s < occ.length) :
  Calls Tryz.prog 151 #[.agg #[ok,f1,f2,f3],v] w fun e w'=>e = .returned (.bool (!(l.all (zdr occ)))) ∧ Below w.heap.size w w':=by
 obtain ⟨a1,c1,rfl,q1⟩:=hf1;obtain ⟨av,cv,rfl,qv⟩:=hv;have HQ1:=zaa q1;have HQV:=zaa qv;have HIN:=zaa hin;have T0:=zaw w 42 #[ok,.slice a1 occ.length c1,f2,f3];clear q1 qv hin;go_enter Tryz.func151,Tryz.ntmps151;go_wp2
 go_loop [9] (fun z=>∃ (q:Nat),q ≤ l.length ∧ z = .int .i64 q ∧ (l.take q).all (zdr occ) = true) (fun z=>l.length - (intOf z).toNat)
 case atStart=>exact ⟨0,Nat.zero_le _,rfl,by simp⟩
 case round=>
  obtain ⟨q,hq,rfl,hall⟩:=hrel;have HA:=zaa hall;clear hall;by_cases hql:q < l.length
  ·obtain h0 | ⟨bl,ol,rfl,hbl,hc⟩:=HQV.out
   ·omega
   obtain ⟨y,hy⟩:=zb4 l hql;have g0:=hc q hql y hy;rw [← T0.below.cell (p:=⟨bl,_,none⟩) hbl] at g0;obtain ⟨hy0,hy1⟩:=HIN.out y (List.mem_of_getElem? hy);obtain h0 | ⟨bp,op,rfl,hbp,hcp⟩:=HQ1.out
   ·omega
   obtain ⟨pt,hpt⟩:∃ pt,occ[y.toNat]? = some pt:=⟨occ[y.toNat]'(by omega),List.getElem?_eq_getElem _⟩;have j0:=hcp y.toNat (by omega) pt hpt;rw [← T0.below.cell (p:=⟨bp,_,none⟩) hbp] at j0
   have hlb:zdr occ y = !pt:=by unfold zdr; rw [hpt]
   have HLB:=zaa hlb;have Hy:=zaa hy;clear hy hc hcp hpt hlb
   cases pt with
   | true=>
    go_wp2;go_ret;exact ⟨zad (by rw [zh4 Hy.out (by rw [HLB.out]; rfl)]; rfl),T0.below⟩
   | false=>
    go_wp2
    go_round
    case rel=>exact ⟨q + 1,by omega,by go_num,zgn HA.out Hy.out (by rw [HLB.out]; rfl)⟩
    case measure=>simp [intOf]; omega
  ·go_wp2;go_ret;exact ⟨zad (by rw [ziw HA.out (by omega)]; rfl),T0.below⟩
set_option maxRecDepth 100000 in
set_option maxHeartbeats 2000000 in
theorem zkb (ok f1 f2 f3 v:Value) (points l:List (Int × Int)) (w:World) (hf2:Lies (In w) w f2 points) (hv:Lies (In w) w v l) (hl:l.length ≤ 1048576) (_ho:points.length ≤ 1048576) (hin:∀ y ∈ l,0 ≤ y.1 ∧ y.1 < points.length) :
  Calls Tryz.prog 150 #[.agg #[ok,f1,f2,f3],v] w fun e w'=>e = .returned (.bool (l.all (zk2 points))) ∧ Below w.heap.size w w':=by
 obtain ⟨a1,c1,rfl,q1⟩:=hf2;obtain ⟨av,cv,rfl,qv⟩:=hv;have HQ1:=zaa q1;have HQV:=zaa qv;have HIN:=zaa hin;have T0:=zaw w 42 #[ok,f1,.slice a1 points.length c1,f3];clear q1 qv hin;go_enter Tryz.func150,Tryz.ntmps150;go_wp2
 go_loopw [9] (fun z wr=>∃ (q:Nat),q ≤ l.length ∧ z = .int .i64 q ∧ (l.take q).all (zk2 points) = true ∧ Boxes w [(42,#[ok,f1,.slice a1 points.length c1,f3])] wr) (fun z _=>l.length - (intOf z).toNat)
 case atStart=>exact ⟨0,Nat.zero_le _,rfl,by simp,T0⟩
 case round=>
  obtain ⟨q,hq,rfl,hall,T3⟩:=hrel;have HA:=zaa hall;clear hall T0;by_cases hql:q < l.length
  ·obtain h0 | ⟨bl,ol,rfl,hbl,hc⟩:=HQV.out
   ·omega
   obtain ⟨y,hy⟩:=zb4 l hql;obtain ⟨g0,g1⟩:=hc q hql y hy;rw [← T3.below.cell (p:=⟨bl,_,none⟩) hbl] at g0 g1;obtain ⟨hy0,hy1⟩:=HIN.out y (List.mem_of_getElem? hy);obtain h0 | ⟨bp,op,rfl,hbp,hcp⟩:=HQ1.out
   ·omega
   obtain ⟨pt,hpt⟩:∃ pt,points[y.1.toNat]? = some pt:=⟨points[y.1.toNat]'(by omega),List.getElem?_eq_getElem _⟩;obtain ⟨j0,j1⟩:=hcp y.1.toNat (by omega) pt hpt;have T4:=T3.call (zab _ (.cells #[.int .i64 y.1,.int .i64 y.2] 175));rw [← T4.below.cell (p:=⟨bp,_,none⟩) hbp] at j0 j1
   have m0:(wr.alloc (.cells #[.int .i64 y.1,.int .i64 y.2] 175)).cell? ⟨wr.heap.size,0,none⟩ = some (.int .i64 y.1):=by simp
   have m1:(wr.alloc (.cells #[.int .i64 y.1,.int .i64 y.2] 175)).cell? ⟨wr.heap.size,1,none⟩ = some (.int .i64 y.2):=by simp
   have fr:(wr.alloc (.cells #[.int .i64 y.1,.int .i64 y.2] 175)).cell? ⟨w.heap.size,2,none⟩ = some (.slice (some ⟨bp,op,none⟩) points.length c1):=T4.cell (j:=0) (i:=2) rfl rfl
   have hlb:zk2 points y = (pt.1 == y.2 && pt.2 == y.2):=by unfold zk2; rw [hpt]
   have HLB:=zaa hlb;have Hy:=zaa hy;clear hy hc hcp hpt hlb;by_cases e0:pt.1 = y.2
   ·by_cases e1:pt.2 = y.2
    ·have t0:(pt.1 == y.2) = true:=by simp [e0]
     have t1:(pt.2 == y.2) = true:=by simp [e1]
     have E:=zaa (And.intro e0 e1);clear e0 e1;go_wp2
     go_quiet (fail)
     go_wp2;go_roundw
     case rel=>exact ⟨q + 1,by omega,by go_num,zgn HA.out Hy.out (by rw [HLB.out,E.out.1,E.out.2]; simp),T4.call (zci _ _)⟩
     case measure=>simp [intOf]; omega
    ·have t0:(pt.1 == y.2) = true:=by simp [e0]
     have t1:(pt.2 == y.2) = false:=by simp [e1]
     have E:=zaa e1;clear e0 e1;go_wp2
     go_quiet (fail)
     go_wp2;go_ret;exact ⟨zad (zh4 Hy.out (by rw [HLB.out]; simp [E.out])).symm,(T4.call (zci _ _)).below⟩
   ·have t0:(pt.1 == y.2) = false:=by simp [e0]
    have E:=zaa e0;clear e0;go_wp2
    go_quiet (fail)
    go_wp2;go_ret;exact ⟨zad (zh4 Hy.out (by rw [HLB.out]; simp [E.out])).symm,(T4.call (zci _ _)).below⟩
  ·go_wp2;go_ret;exact ⟨zad (ziw HA.out (by omega)).symm,T3.below⟩
end Go.Proofs.YtdhinkgjiapigabGreatDoor
namespace Go.Proofs.YtdhinkgjiapigabGreatDoor
open Go.RowKit Go.Deep
open Classical
set_option maxRecDepth 100000 in
set_option maxHeartbeats 1000000 in
theorem zia (ok f1 f2 f3:Value) (helds:List HeldD) (i:Nat) (h:HeldD) (w:World) (hf:Helds (In w) w f3 helds) (hi:helds[i]? = some h) (_hl:helds.length ≤ 1048576) :
  Calls Tryz.prog 139 #[.agg #[ok,f1,f2,f3],.int .i64 i] w fun e w'=>e = .returned (.bool (h.state != 0)) ∧ Below w.heap.size w w':=by
 obtain ⟨af,cf,rfl,hcf⟩:=hf;have hjl:i < helds.length:=(List.getElem?_eq_some_iff.1 hi).1;obtain h0 | ⟨bf,of,rfl,hbf,hch⟩:=hcf
 ·omega
 obtain ⟨u2,-,j0,-,-,-,-⟩:=hch i hjl h hi;have T0:=zaw w 42 #[ok,f1,f2,.slice (some ⟨bf,of,none⟩) helds.length cf];have g0:=(T0.below.cell (p:=⟨bf,of + i * 5,none⟩) hbf).trans j0
 have hjl':(i:Int) < (helds.length:Int):=by omega
 clear j0 hch hi;go_enter Tryz.func139,Tryz.ntmps139;go_wp2;go_ret;exact ⟨rfl,T0.below⟩
end Go.Proofs.YtdhinkgjiapigabGreatDoor
namespace Go.Proofs.YtdhinkgjiapigabGreatDoor
open Go.RowKit Go.Deep
open Classical
set_option maxRecDepth 100000 in
set_option maxHeartbeats 2000000 in
theorem znd (ok f1 f2 f3 u0 u1 u2 u3 u4:Value) (occ:List Bool) (points:List (Int × Int)) (x:WayD) (w:World) (hf1:Bools (In w) w f1 occ) (hf2:Lies (In w) w f2 points) (hx:WayAt (In w) w u0 u1 u2 u3 u4 x)
  (hs:x.Small 30) (hl:∀ y,(y ∈ x.lies ∨ y ∈ x.flanks) → 0 ≤ y.1 ∧ y.1 < points.length) (hc:∀ s,(s ∈ x.sections ∨ s ∈ x.over) → 0 ≤ s ∧ s < occ.length) (hz:points.length ≤ 1048576 ∧ occ.length ≤ 1048576) :
  Calls Tryz.prog 108 #[.agg #[ok,f1,f2,f3],.agg #[u0,u1,u2,u3,u4]] w fun e w'=>e = .returned (.bool (za9 occ points x)) ∧ Below w.heap.size w w':=by
 have T0:=zbc w 42 122 #[ok,f1,f2,f3] #[u0,u1,u2,u3,u4];have hk1:∀ W,Below w.heap.size w W → Bools (In W) W f1 occ:=fun W h=>hf1.keep (In.keep h).1 (In.keep h).2;have hk2:∀ W,Below w.heap.size w W → Lies (In W) W f2 points:=fun W h=>hf2.keep (In.keep h).1 (In.keep h).2;have hk3:∀ W,Below w.heap.size w W → WayAt (In W) W u0 u1 u2 u3 u4 x:=fun W h=>hx.keep (In.keep h).1 (In.keep h).2;have K1:=zaa hk1;have K2:=zaa hk2;have K3:=zaa hk3;have HL:=zaa hl;have HC:=zaa hc;obtain ⟨s0,s1,s2,s3,s4⟩:=hs;obtain ⟨z1,z2⟩:=hz;obtain ⟨a0,c0,rfl⟩:=hx.1.size;obtain ⟨a1,c1,rfl⟩:=hx.2.1.size;obtain ⟨a2,c2,rfl⟩:=hx.2.2.1.size;obtain ⟨a3,c3,rfl⟩:=hx.2.2.2.1.size;clear hk1 hk2 hk3 hf1 hf2 hx hl hc
 have hpv:za9 occ points x = ((x.lies.all (zk2 points) && x.flanks.all (zk2 points)) && (x.sections.all (zdr occ) && x.over.all (zdr occ))):=by unfold za9; rw [List.all_append,List.all_append]
 have HP:=zaa hpv;clear hpv;go_enter Tryz.func108,Tryz.ntmps108
 go_wp2_with fail
 refine (zkb ok f1 f2 f3 _ points x.lies _ (K2.out _ T0.below) (K3.out _ T0.below).2.1 (by omega) z1 fun y hy=>HL.out y (.inl hy)).mono ?_;rintro e w1 ⟨rfl,hb⟩;have T1:=T0.call hb;clear T0 hb;have b0:=T1.cell (j:=0) (i:=0) rfl rfl;have b1:=T1.cell (j:=0) (i:=1) rfl rfl;have b2:=T1.cell (j:=0) (i:=2) rfl rfl;have b3:=T1.cell (j:=0) (i:=3) rfl rfl;have d0:=T1.cell (j:=1) (i:=0) rfl rfl;have d1:=T1.cell (j:=1) (i:=1) rfl rfl;have d2:=T1.cell (j:=1) (i:=2) rfl rfl;have d3:=T1.cell (j:=1) (i:=3) rfl rfl;have d4:=T1.cell (j:=1) (i:=4) rfl rfl;rw [Nat.add_zero] at b0 b1 b2 b3
 cases h1:x.lies.all (zk2 points) with
 | false=>
  have H1:=zaa h1;clear h1;go_wp2;go_ret;exact ⟨zad (by rw [HP.out,H1.out]; simp),T1.below⟩
 | true=>
 have H1:=zaa h1;clear h1
 go_wp2_with fail
 refine (zkb ok f1 f2 f3 _ points x.flanks _ (K2.out _ T1.below) (K3.out _ T1.below).2.2.1 (by omega) z1 fun y hy=>HL.out y (.inr hy)).mono ?_;clear b0 b1 b2 b3 d0 d1 d2 d3 d4;rintro e w2 ⟨rfl,hb⟩;have T2:=T1.call hb;clear T1 hb;have b0:=T2.cell (j:=0) (i:=0) rfl rfl;have b1:=T2.cell (j:=0) (i:=1) rfl rfl;have b2:=T2.cell (j:=0) (i:=2) rfl rfl;have b3:=T2.cell (j:=0) (i:=3) rfl rfl;have d0:=T2.cell (j:=1) (i:=0) rfl rfl;have d1:=T2.cell (j:=1) (i:=1) rfl rfl;have d2:=T2.cell (j:=1) (i:=2) rfl rfl;have d3:=T2.cell (j:=1) (i:=3) rfl rfl;have d4:=T2.cell (j:=1) (i:=4) rfl rfl;rw [Nat.add_zero] at b0 b1 b2 b3
 cases h2:x.flanks.all (zk2 points) with
 | false=>
  have H2:=zaa h2;clear h2;go_wp2;go_ret;exact ⟨zad (by rw [HP.out,H2.out]; simp),T2.below⟩
 | true=>
 have H2:=zaa h2;clear h2
 go_wp2_with fail
 refine (zcl ok f1 f2 f3 _ occ x.sections _ (K1.out _ T2.below) (K3.out _ T2.below).1 (by omega) z2 fun y hy=>HC.out y (.inl hy)).mono ?_;clear b0 b1 b2 b3 d0 d1 d2 d3 d4;rintro e w3 ⟨rfl,hb⟩;have T3:=T2.call hb;clear T2 hb;have b0:=T3.cell (j:=0) (i:=0) rfl rfl;have b1:=T3.cell (j:=0) (i:=1) rfl rfl;have b2:=T3.cell (j:=0) (i:=2) rfl rfl;have b3:=T3.cell (j:=0) (i:=3) rfl rfl;have d0:=T3.cell (j:=1) (i:=0) rfl rfl;have d1:=T3.cell (j:=1) (i:=1) rfl rfl;have d2:=T3.cell (j:=1) (i:=2) rfl rfl;have d3:=T3.cell (j:=1) (i:=3) rfl rfl;have d4:=T3.cell (j:=1) (i:=4) rfl rfl;rw [Nat.add_zero] at b0 b1 b2 b3
 cases h3:x.sections.all (zdr occ) with
 | false=>
  have H3:=zaa h3;clear h3;go_wp2;go_ret;exact ⟨zad (by rw [HP.out,H3.out]; simp),T3.below⟩
 | true=>
 have H3:=zaa h3;clear h3
 go_wp2_with fail
 refine (zcl ok f1 f2 f3 _ occ x.over _ (K1.out _ T3.below) (K3.out _ T3.below).2.2.2.1 (by omega) z2 fun y hy=>HC.out y (.inr hy)).mono ?_;clear b0 b1 b2 b3 d0 d1 d2 d3 d4;rintro e w4 ⟨rfl,hb⟩;have T4:=T3.call hb;clear T3 hb
 cases h4:x.over.all (zdr occ) <;>
 ·have H4:=zaa h4;clear h4;go_wp2;go_ret;exact ⟨zad (by rw [HP.out,H1.out,H2.out,H3.out,H4.out]; rfl),T4.below⟩
end Go.Proofs.YtdhinkgjiapigabGreatDoor

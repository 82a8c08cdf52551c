import Derived.Test.YtdhinkgjiapigabGreatDoorSpec3
import Derived.Test.YtdhinkgjiapigabGreatDoorToA
import Derived.Test.YtdhinkgjiapigabGreatDoorBase
namespace Go.Proofs.YtdhinkgjiapigabGreatDoor
open Go.RowKit Go.Deep
theorem ckb {W W':World} {b o:Nat} {v:Value} (h:W.cell? ⟨b,o,none⟩ = some v) (hb:Below W.heap.size W W'):W'.cell? ⟨b,o,none⟩ = some v:=
 (hb.cell (p:=⟨b,o,none⟩) (World.block_lt_of_cell? _ _ h)).trans h
set_option maxRecDepth 100000 in
set_option maxHeartbeats 2000000 in
theorem zka (n hd ok:Value) (p1 p2 p3 f1 f2 f3:Value) (ways:List WayD) (f:FrameD) (i:Nat) (x:WayD) (w:World) (hp:Ways (In w) w p2 ways) (hf1:Bools (In w) w f1 f.occ) (hf2:Lies (In w) w f2 f.points)
  (hi:ways[i]? = some x) (_hw:ways.length ≤ 100) (hs:x.Small 30)
  (hl:∀ y,(y ∈ x.lies ∨ y ∈ x.flanks) → 0 ≤ y.1 ∧ y.1 < f.points.length) (hc:∀ s,(s ∈ x.sections ∨ s ∈ x.over) → 0 ≤ s ∧ s < f.occ.length) (_hz:f.points.length ≤ 1048576 ∧ f.occ.length ≤ 1048576) :
  Calls Tryz.prog 106 #[.agg #[n,p1,p2,p3,hd],.agg #[ok,f1,f2,f3],.int .i64 i] w fun e w'=>e = .returned (.bool (za9 f.occ f.points x)) ∧ Below w.heap.size w w':=by
 obtain ⟨ap,cp,rfl,hcp⟩:=hp;have hil:i < ways.length:=(List.getElem?_eq_some_iff.1 hi).1;obtain h0 | ⟨b,off,rfl,hb0,hcw⟩:=hcp
 ·omega
 obtain ⟨v0,v1,v2,v3,v4,hx,g0,g1,g2,g3,g4⟩:=hcw i hil x hi;obtain ⟨hx0,hx1,hx2,hx3,hx4⟩:=hx;obtain ⟨a1,c1,rfl,q1⟩:=hf1;obtain ⟨a2,c2,rfl,q2⟩:=hf2;have HQ1:=zaa q1;have HQ2:=zaa q2;have HL:=zaa hl;have HCC:=zaa hc;have HSX:=zaa hs;have T0:=zbs w 37 42 122 #[n,p1,.slice (some ⟨b,off,none⟩) ways.length cp,p3,hd] #[ok,.slice a1 f.occ.length c1,.slice a2 f.points.length c2,f3] #[v0,v1,v2,v3,v4];obtain ⟨b0,k0,rfl,-⟩:=id hx0;obtain ⟨b1,k1,rfl,-⟩:=id hx1;obtain ⟨b2,k2,rfl,-⟩:=id hx2;obtain ⟨b3,k3,rfl,-⟩:=id hx3;obtain ⟨b4,k4,rfl,-⟩:=hx4
 have hil':(i:Int) < (ways.length:Int):=by omega
 have hbl:b < w.heap.size:=hb0;clear q1 q2 hl hc hs hcw;go_enter Tryz.func106,Tryz.ntmps106;go_wp2;have T1:=T0.call (zab _ (.cells #[.slice b1 x.lies.length k1,.slice b2 x.flanks.length k2] 120));clear T0 g0 g1 g2 g3 g4
 go_loopw [27] (fun z wr=>∃ (k:Nat),k ≤ 2 ∧ z = .int .i64 k ∧ (∀ j l,j < k → [x.lies,x.flanks][j]? = some l → l.all (zk2 f.points) = true) ∧ Boxes w [(37,#[n,p1,.slice (some ⟨b,off,none⟩) ways.length cp,p3,hd]),(42,#[ok,.slice a1 f.occ.length c1,.slice a2 f.points.length c2,f3]),(122,#[.slice b0 x.sections.length k0,.slice b1 x.lies.length k1,.slice b2 x.flanks.length k2,.slice b3 x.over.length k3,.slice b4 x.near.length k4])] wr ∧
   wr.cell? ⟨w.heap.size + 1 + 1 + 1,0,none⟩ = some (.slice b1 x.lies.length k1) ∧ wr.cell? ⟨w.heap.size + 1 + 1 + 1,1,none⟩ = some (.slice b2 x.flanks.length k2)) (fun z _=>2 - (intOf z).toNat)
 case atStart=>exact ⟨0,by omega,rfl,fun j l hj=>by omega,T1,by rw [World.cell?_alloc_at _ _ _ _ (by simp)]; rfl,by rw [World.cell?_alloc_at _ _ _ _ (by simp)]; rfl⟩
 case round=>
  obtain ⟨k,hk,rfl,hok,T2,l0,l1⟩:=hrel;rename World=>wo;have HO:=zaa hok;clear hok T1;by_cases hk2:k < 2
  ·obtain ⟨lk,ak,ck,hlk,hll,hcell,hmem⟩:∃ (lk:List (Int × Int)) (ak:Option Addr) (ck:Nat),[x.lies,x.flanks][k]? = some lk ∧ Lies (In w) w (.slice ak lk.length ck) lk ∧ wo.cell? ⟨w.heap.size + 1 + 1 + 1,k,none⟩ = some (.slice ak lk.length ck) ∧ ∀ y ∈ lk,0 ≤ y.1 ∧ y.1 < f.points.length:=by
    rcases k with _ | _ | k
    ·exact ⟨x.lies,b1,k1,rfl,hx1,l0,fun y hy=>HL.out y (.inl hy)⟩
    ·exact ⟨x.flanks,b2,k2,rfl,hx2,l1,fun y hy=>HL.out y (.inr hy)⟩
    ·omega
   have hlen:lk.length ≤ 30:=by
    rcases k with _ | _ | k
    ·cases hlk; exact HSX.out.2.1
    ·cases hlk; exact HSX.out.2.2.1
    ·omega
   have HLK:=zaa hlk;have HM:=zaa hmem;obtain ⟨a',c',hv',hcl⟩:=hll
   cases hv'
   have HCL:=zaa hcl;have L0:=zaa l0;have L1:=zaa l1;clear hlk hmem hcl l0 l1;go_wp2;clear hcell
   go_loopw [33] (fun z wr=>∃ (q:Nat),q ≤ lk.length ∧ z = .int .i64 q ∧ (lk.take q).all (zk2 f.points) = true ∧ Boxes w [(37,#[n,p1,.slice (some ⟨b,off,none⟩) ways.length cp,p3,hd]),(42,#[ok,.slice a1 f.occ.length c1,.slice a2 f.points.length c2,f3]),(122,#[.slice b0 x.sections.length k0,.slice b1 x.lies.length k1,.slice b2 x.flanks.length k2,.slice b3 x.over.length k3,.slice b4 x.near.length k4])] wr ∧ Below wo.heap.size wo wr) (fun z _=>lk.length - (intOf z).toNat)
   case atStart=>exact ⟨0,Nat.zero_le _,rfl,by simp,T2,Below.refl _ _⟩
   case round=>
    obtain ⟨q,hq,rfl,hall,T3,hbo⟩:=hrel;have HA:=zaa hall;clear hall;by_cases hql:q < lk.length
    ·obtain h0 | ⟨bl,ol,rfl,hbl2,hc⟩:=HCL.out
     ·omega
     obtain ⟨y,hy⟩:=zac lk (zaa rfl) hql;obtain ⟨g0,g1⟩:=hc q hql y hy;rw [← T3.below.cell (p:=⟨bl,_,none⟩) hbl2] at g0 g1;obtain ⟨hy0,hy1⟩:=HM.out y (List.mem_of_getElem? hy);obtain h0 | ⟨bp,op,rfl,hbp,hcp⟩:=HQ2.out
     ·omega
     obtain ⟨pt,hpt⟩:∃ pt,f.points[y.1.toNat]? = some pt:=⟨f.points[y.1.toNat]'(by omega),List.getElem?_eq_getElem _⟩;obtain ⟨j0,j1⟩:=hcp y.1.toNat (by omega) pt hpt;have T4:=T3.call (zab _ (.cells #[.int .i64 y.1,.int .i64 y.2] 175));rw [← T4.below.cell (p:=⟨bp,_,none⟩) hbp] at j0 j1
     have m0:(wr.alloc (.cells #[.int .i64 y.1,.int .i64 y.2] 175)).cell? ⟨wr.heap.size,0,none⟩ = some (.int .i64 y.1):=by simp
     have m1:(wr.alloc (.cells #[.int .i64 y.1,.int .i64 y.2] 175)).cell? ⟨wr.heap.size,1,none⟩ = some (.int .i64 y.2):=by simp
     have fr:(wr.alloc (.cells #[.int .i64 y.1,.int .i64 y.2] 175)).cell? ⟨w.heap.size + 1,2,none⟩ = some (.slice (some ⟨bp,op,none⟩) f.points.length c2):=T4.cell (j:=1) (i:=2) rfl rfl
     have hlb:zk2 f.points y = (pt.1 == y.2 && pt.2 == y.2):=by unfold zk2; rw [hpt]
     have HLB:=zaa hlb;have Hy:=zaa hy;have hbo4:=hbo.alloc hbo.size (.cells #[.int .i64 y.1,.int .i64 y.2] 175);have HBO:=zaa hbo4;clear hy hc hcp hpt hlb hbo hbo4;by_cases e0:pt.1 = y.2
     ·by_cases e1:pt.2 = y.2
      ·have t0:(pt.1 != y.2) = false:=by simp [e0]
       have t1:(pt.2 != y.2) = false:=by simp [e1]
       have E:=zaa (And.intro e0 e1);clear e0 e1;go_wp2
       go_quiet (fail)
       go_wp2;go_roundw
       case rel=>exact ⟨q + 1,by omega,by go_num,zgn HA.out Hy.out (by rw [HLB.out,E.out.1,E.out.2]; simp),T4.call (zan _ _),below_drewN HBO.out _⟩
       case measure=>simp [intOf]; omega
      ·have t0:(pt.1 != y.2) = false:=by simp [e0]
       have t1:(pt.2 != y.2) = true:=by simp [e1]
       have E:=zaa e1;clear e0 e1;go_wp2
       go_quiet (fail)
       go_wp2;go_ret;refine ⟨zad ?_,(T4.call (zan _ _)).below⟩;exact (zih HLK.out (zh4 Hy.out (by rw [HLB.out]; simp [E.out]))).symm
     ·have t0:(pt.1 != y.2) = true:=by simp [e0]
      have E:=zaa e0;clear e0;go_wp2
      go_quiet (fail)
      go_wp2;go_ret;refine ⟨zad ?_,(T4.call (zan _ _)).below⟩;exact (zih HLK.out (zh4 Hy.out (by rw [HLB.out]; simp [E.out]))).symm
    ·have hfin:=ziw HA.out (by omega);have HFI:=zaa hfin;clear hfin;go_wp2;go_roundw
     case rel=>exact ⟨k + 1,by omega,by go_num,fun j l hj hjl=>by
      by_cases e:j = k
      ·subst e; rw [HLK.out] at hjl; cases hjl; exact HFI.out
      ·exact HO.out j l (by omega) hjl,T3,ckb L0.out hbo,ckb L1.out hbo⟩
     case measure=>simp [intOf]; omega
  ·have w0:wo.cell? ⟨w.heap.size + 1 + 1,0,none⟩ = some (.slice b0 x.sections.length k0):=T2.cell (j:=2) (i:=0) rfl rfl;have w3:wo.cell? ⟨w.heap.size + 1 + 1,3,none⟩ = some (.slice b3 x.over.length k3):=T2.cell (j:=2) (i:=3) rfl rfl;have N1:Hid (∀ j l,j < 2 → [x.lies,x.flanks][j]? = some l → l.all (zk2 f.points) = true):=fun j l hj=>HO.out j l (by omega);clear HO l0 l1;go_wp2;have T3:=T2.call (zab _ (.cells #[.slice b0 x.sections.length k0,.slice b3 x.over.length k3] 22));clear T2 w0 w3
   go_loopw [67] (fun z wr=>∃ (k:Nat),k ≤ 2 ∧ z = .int .i64 k ∧ (∀ j l,j < k → [x.sections,x.over][j]? = some l → l.all (zdr f.occ) = true) ∧ Boxes w [(37,#[n,p1,.slice (some ⟨b,off,none⟩) ways.length cp,p3,hd]),(42,#[ok,.slice a1 f.occ.length c1,.slice a2 f.points.length c2,f3]),(122,#[.slice b0 x.sections.length k0,.slice b1 x.lies.length k1,.slice b2 x.flanks.length k2,.slice b3 x.over.length k3,.slice b4 x.near.length k4])] wr ∧
     wr.cell? ⟨wo.heap.size,0,none⟩ = some (.slice b0 x.sections.length k0) ∧ wr.cell? ⟨wo.heap.size,1,none⟩ = some (.slice b3 x.over.length k3)) (fun z _=>2 - (intOf z).toNat)
   case atStart=>exact ⟨0,by omega,rfl,fun j l hj=>by omega,T3,by simp,by simp⟩
   case round=>
    obtain ⟨k5,hk5,rfl,hok,T4,l0,l1⟩:=hrel;rename World=>wp;have HO:=zaa hok;clear hok T3;by_cases hk6:k5 < 2
    ·obtain ⟨lk,ak,ck,hlk,hll,hcell,hmem⟩:∃ (lk:List Int) (ak:Option Addr) (ck:Nat),[x.sections,x.over][k5]? = some lk ∧ Ints (In w) w (.slice ak lk.length ck) lk ∧ wp.cell? ⟨wo.heap.size,k5,none⟩ = some (.slice ak lk.length ck) ∧ ∀ y ∈ lk,0 ≤ y ∧ y < f.occ.length:=by
      rcases k5 with _ | _ | k5
      ·exact ⟨x.sections,b0,k0,rfl,hx0,l0,fun y hy=>HCC.out y (.inl hy)⟩
      ·exact ⟨x.over,b3,k3,rfl,hx3,l1,fun y hy=>HCC.out y (.inr hy)⟩
      ·omega
     have hlen:lk.length ≤ 30:=by
      rcases k5 with _ | _ | k5
      ·cases hlk; exact HSX.out.1
      ·cases hlk; exact HSX.out.2.2.2.1
      ·omega
     have HLK:=zaa hlk;have HM:=zaa hmem;obtain ⟨a',c',hv',hcl⟩:=hll
     cases hv'
     have HCL:=zaa hcl;have L0:=zaa l0;have L1:=zaa l1;clear hlk hmem hcl l0 l1;go_wp2;clear hcell
     go_loop [73] (fun z=>∃ (q:Nat),q ≤ lk.length ∧ z = .int .i64 q ∧ (lk.take q).all (zdr f.occ) = true) (fun z=>lk.length - (intOf z).toNat)
     case atStart=>exact ⟨0,Nat.zero_le _,rfl,by simp⟩
     case round=>
      obtain ⟨q,hq,rfl,hall⟩:=hrel;have HA:=zaa hall;clear hall;by_cases hql:q < lk.length
      ·obtain h0 | ⟨bl,ol,rfl,hbl2,hc⟩:=HCL.out
       ·omega
       obtain ⟨y,hy⟩:=zac lk (zaa rfl) hql;have g0:=hc q hql y hy;rw [← T4.below.cell (p:=⟨bl,_,none⟩) hbl2] at g0;obtain ⟨hy0,hy1⟩:=HM.out y (List.mem_of_getElem? hy);obtain h0 | ⟨bp,op,rfl,hbp,hcp⟩:=HQ1.out
       ·omega
       obtain ⟨pt,hpt⟩:∃ pt,f.occ[y.toNat]? = some pt:=⟨f.occ[y.toNat]'(by omega),List.getElem?_eq_getElem _⟩;have j0:=hcp y.toNat (by omega) pt hpt;rw [← T4.below.cell (p:=⟨bp,_,none⟩) hbp] at j0;have fr:wp.cell? ⟨w.heap.size + 1,1,none⟩ = some (.slice (some ⟨bp,op,none⟩) f.occ.length c1):=T4.cell (j:=1) (i:=1) rfl rfl
       have hlb:zdr f.occ y = !pt:=by unfold zdr; rw [hpt]
       have HLB:=zaa hlb;have Hy:=zaa hy;clear hy hc hcp hpt hlb
       cases pt
       ·go_wp2
        go_round
        case rel=>exact ⟨q + 1,by omega,by go_num,zgn HA.out Hy.out (by rw [HLB.out]; rfl)⟩
        case measure=>simp [intOf]; omega
       ·go_wp2;go_ret;exact ⟨zad (zne HLK.out (zh4 Hy.out (by rw [HLB.out]; rfl))).symm,T4.below⟩
      ·have hfin:=ziw HA.out (by omega);have HFI:=zaa hfin;clear hfin;go_wp2;go_roundw
       case rel=>exact ⟨k5 + 1,by omega,by go_num,fun j l hj hjl=>by
        by_cases e:j = k5
        ·subst e; rw [HLK.out] at hjl; cases hjl; exact HFI.out
        ·exact HO.out j l (by omega) hjl,T4,L0.out,L1.out⟩
       case measure=>simp [intOf]; omega
    ·go_wp2;go_ret;exact ⟨zad (znf N1.out fun j l hj=>HO.out j l (by omega)).symm,T4.below⟩
end Go.Proofs.YtdhinkgjiapigabGreatDoor
namespace Go.Proofs.YtdhinkgjiapigabGreatDoor
open Go.RowKit Go.Deep
open Classical
def zcn (hold:Int) (n:Nat) (h:HeldD):Prop:=
 InR h.state 0 4 ∧ h.been.length = n ∧ InR h.gone 0 ((n:Int) - 1) ∧ (h.state ≠ 4 → (∀ (k:Nat) b,h.been[k]? = some b → b = false) ∧ h.gone = 0) ∧ (∀ k:Nat,(k:Int) < h.gone → h.been[k]? = some true) ∧
 (h.state = 3 → h.shown = true ∧ InR h.timer 1 hold) ∧ (h.state ≠ 3 → h.timer = 0 ∧ (h.state = 0 → h.shown = false) ∧ (h.state = 2 → h.shown = true))
set_option maxRecDepth 100000 in
set_option maxHeartbeats 2000000 in
theorem zm3 (n ok:Value) (hold:Int) (p1 p2 p3 f1 f2 f3:Value) (ways:List WayD) (helds:List HeldD) (i:Nat) (x:WayD) (h:HeldD) (w:World) (hp:Ways (In w) w p2 ways) (hf:Helds (In w) w f3 helds)
  (hi:ways[i]? = some x) (hj:helds[i]? = some h) (_hw:ways.length ≤ 100) (hs:x.Small 30) (hwl:helds.length = ways.length) (hbl0:h.been.length ≤ 1048576) :
  Calls Tryz.prog 66 #[.agg #[n,p1,p2,p3,.int .i64 hold],.agg #[ok,f1,f2,f3],.int .i64 i] w fun e w'=>e = .returned (.bool (B (zcn hold x.sections.length h))) ∧ Below w.heap.size w w':=by
 obtain ⟨ap,cp,rfl,hcp⟩:=hp;obtain ⟨af,cf,rfl,hcf⟩:=hf;have hil:i < ways.length:=(List.getElem?_eq_some_iff.1 hi).1;have hjl:i < helds.length:=(List.getElem?_eq_some_iff.1 hj).1;obtain h0 | ⟨b,off,rfl,hb0,hcw⟩:=hcp
 ·omega
 obtain h0 | ⟨bf,of,rfl,hbf,hch⟩:=hcf
 ·omega
 obtain ⟨v0,v1,v2,v3,v4,⟨⟨a0,k0,rfl,-⟩,-⟩,g0,-,-,-,-⟩:=hcw i hil x hi;obtain ⟨u2,⟨a2,k2,rfl,hbe⟩,j0,j1,j2,j3,j4⟩:=hch i hjl h hj;have HBE:=zaa hbe;have T0:=zbs w 37 42 93 #[n,p1,.slice (some ⟨b,off,none⟩) ways.length cp,p3,.int .i64 hold] #[ok,f1,f2,.slice (some ⟨bf,of,none⟩) helds.length cf] #[.int .i64 h.state,.int .i64 h.gone,.slice a2 h.been.length k2,.bool h.shown,.int .i64 h.timer]
 have hil':(i:Int) < (ways.length:Int):=by omega
 have hjl':(i:Int) < (helds.length:Int):=by omega
 have hsl:x.sections.length ≤ 30:=hs.1;have hbl:b < w.heap.size:=hb0;have hbl2:bf < w.heap.size:=hbf;have G0:=ckb g0 T0.below;clear hbe hcw hch hi hj hs hwl g0;go_enter Tryz.func66,Tryz.ntmps66
 go_wp2_with fail
 refine (zbg h.state 0 4 _).mono ?_;rintro e w' ⟨rfl,rfl⟩;by_cases q0:InR h.state 0 4
 case neg=>
  rw [zae q0];have Q:=zaa q0;clear q0;go_wp2;go_ret;exact ⟨zad (zae fun h=>Q.out h.1).symm,T0.below⟩
 rw [zam q0];have Q0:=zaa q0;clear q0;by_cases q1:h.been.length = x.sections.length
 case neg=>
  have q1':((h.been.length:Int) != (x.sections.length:Int)) = true:=by simp; omega
  have Q:=zaa q1;clear q1;go_wp2;go_ret;exact ⟨zad (zae fun h=>Q.out h.2.1).symm,T0.below⟩
 have q1':((h.been.length:Int) != (x.sections.length:Int)) = false:=by simp; omega
 have Q1:=zaa q1;clear q1
 go_wp2_with fail
 refine (zbg h.gone 0 ((x.sections.length:Int) - 1) _).mono ?_;rintro e w' ⟨rfl,rfl⟩;by_cases q2:InR h.gone 0 ((x.sections.length:Int) - 1)
 case neg=>
  rw [zae q2];have Q:=zaa q2;clear q2;go_wp2;go_ret;exact ⟨zad (zae fun h=>Q.out h.2.2.1).symm,T0.below⟩
 rw [zam q2];have Q2:=zaa q2;obtain ⟨hg0,hg1⟩:=q2;clear G0 j0 j1 j2 j3 j4;by_cases q4:h.state = 4
 ·have q4':(h.state != 4) = false:=by simp [q4]
  have q4'':(h.state == 3) = false:=by simp [q4]
  have q40:(h.state != 0) = true:=by simp [q4]
  have q42:(h.state != 2) = true:=by simp [q4]
  have Q4:=zaa q4;clear q4;go_wp2
  go_loop [11] (fun z=>∃ (k:Nat),(k:Int) ≤ h.gone ∧ z = .int .i64 k ∧ ∀ j:Nat,j < k → h.been[j]? = some true) (fun z=>h.gone.toNat - (intOf z).toNat)
  case atStart=>exact ⟨0,by omega,rfl,fun j hj=>by omega⟩
  case round=>
   obtain ⟨k,hk,rfl,hall⟩:=hrel;have HA:=zaa hall;clear hall;by_cases hlt:(k:Int) < h.gone
   ·have hkb:k < h.been.length:=by have:=Q1.out; omega
    obtain h0 | ⟨bb,ob,rfl,hbb,hcb⟩:=HBE.out
    ·omega
    obtain ⟨y,hy⟩:=zac h.been (zaa rfl) hkb;have gy:=ckb (hcb k hkb y hy) T0.below
    have hkb':(k:Int) < (h.been.length:Int):=by omega
    have Hy:=zaa hy;clear hy hcb
    cases y
    ·go_wp2;go_ret;refine ⟨zad (zae fun hh=>?_).symm,T0.below⟩;have:=hh.2.2.2.2.1 k hlt;rw [Hy.out] at this
     cases this
    ·go_wp2
     go_round
     case rel=>exact ⟨k + 1,by omega,by go_num,fun j hj=>by
      by_cases e:j = k
      ·subst e; exact Hy.out
      ·exact HA.out j (by omega)⟩
     case measure=>simp [intOf]; omega
   ·have N5:Hid (∀ k:Nat,(k:Int) < h.gone → h.been[k]? = some true):=fun j hj=>HA.out j (by omega);by_cases q5:h.timer = 0
    ·have q5':(h.timer == 0) = true:=by simp [q5]
     have Q5:=zaa q5;clear q5;go_wp2;go_ret;refine ⟨zad ?_,T0.below⟩;rw [zam ⟨Q0.out,Q1.out,Q2.out,fun e=>absurd Q4.out e,N5.out,fun e=>absurd (Q4.out.symm.trans e) (by omega),fun _=>⟨Q5.out,fun e=>absurd (Q4.out.symm.trans e) (by omega),fun e=>absurd (Q4.out.symm.trans e) (by omega)⟩⟩]
    ·have q5':(h.timer == 0) = false:=by simp [q5]
     have Q5:=zaa q5;clear q5;go_wp2;go_ret;refine ⟨zad ?_,T0.below⟩;rw [zae fun hh=>Q5.out (hh.2.2.2.2.2.2 (by rw [Q4.out]; omega)).1]
 ·have q4':(h.state != 4) = true:=by simp [q4]
  have Q4:=zaa q4;clear q4;go_wp2
  go_loop [49] (fun z=>∃ (k:Nat),k ≤ h.been.length ∧ z = .int .i64 k ∧ ∀ (j:Nat) b,j < k → h.been[j]? = some b → b = false) (fun z=>h.been.length - (intOf z).toNat)
  case atStart=>exact ⟨0,by omega,rfl,fun j b hj=>by omega⟩
  case round=>
   obtain ⟨k,hk,rfl,hall⟩:=hrel;have HA:=zaa hall;clear hall;by_cases hlt:k < h.been.length
   ·obtain h0 | ⟨bb,ob,rfl,hbb,hcb⟩:=HBE.out
    ·omega
    obtain ⟨y,hy⟩:=zac h.been (zaa rfl) hlt;have gy:=ckb (hcb k hlt y hy) T0.below;have Hy:=zaa hy;clear hy hcb
    cases y
    ·go_wp2
     go_round
     case rel=>exact ⟨k + 1,by omega,by go_num,fun j b hj hb=>by
      by_cases e:j = k
      ·subst e; rw [Hy.out] at hb; cases hb; rfl
      ·exact HA.out j b (by omega) hb⟩
     case measure=>simp [intOf]; omega
    ·go_wp2;go_ret;refine ⟨zad (zae fun hh=>?_).symm,T0.below⟩;exact Bool.noConfusion ((hh.2.2.2.1 Q4.out).1 k true Hy.out)
   ·have N4:Hid (∀ (k:Nat) b,h.been[k]? = some b → b = false):=fun j b hb=>HA.out j b (by have:=(List.getElem?_eq_some_iff.1 hb).1; omega) hb;clear HA;by_cases q5:h.gone = 0
    case neg=>
     have q5':(h.gone != 0) = true:=by simp [q5]
     have Q5:=zaa q5;clear q5;go_wp2;go_ret;exact ⟨zad (zae fun hh=>Q5.out (hh.2.2.2.1 Q4.out).2).symm,T0.below⟩
    have q5':(h.gone != 0) = false:=by simp [q5]
    have Q5:=zaa q5
    have hgz:h.gone ≤ 0:=by omega
    clear q5;go_wp2;refine wp_loop_rounds 1 ?_;rw [rounds_succ]
    have N5:Hid (∀ k:Nat,(k:Int) < h.gone → h.been[k]? = some true):=fun j hj=>by omega
    by_cases q6:h.state = 3
    ·have q6':(h.state == 3) = true:=by simp [q6]
     have Q6:=zaa q6;clear q6;have TB:=T0.below;have TBH:=zaa TB;clear TB;by_cases hsh:h.shown = true
     ·have HSH:=zaa hsh
      go_wp2_with fail
      refine (zbg h.timer 1 hold _).mono ?_;rintro e w' ⟨rfl,rfl⟩;go_wp2;go_ret;refine ⟨zad ?_,by have t:=TBH.out; rw [HSH.out] at t; exact t⟩;by_cases q7:InR h.timer 1 hold
      ·rw [zam q7,zam ⟨Q0.out,Q1.out,Q2.out,fun _=>⟨N4.out,Q5.out⟩,N5.out,fun _=>⟨HSH.out,q7⟩,fun e=>absurd Q6.out e⟩]
      ·rw [zae q7,zae fun hh=>q7 (hh.2.2.2.2.2.1 Q6.out).2]
     ·have hsh':h.shown = false:=by simpa using hsh
      have HSH:=zaa hsh';clear hsh;go_wp2;go_ret;refine ⟨zad (zae fun hh=>?_).symm,by have t:=TBH.out; rw [HSH.out] at t; exact t⟩;have:=(hh.2.2.2.2.2.1 Q6.out).1;rw [HSH.out] at this
      cases this
    ·have q6':(h.state == 3) = false:=by simp [q6]
     have Q6:=zaa q6;clear q6;have TB:=T0.below;have TBH:=zaa TB;clear TB;by_cases q7:h.timer = 0
     case neg=>
      have q7':(h.timer == 0) = false:=by simp [q7]
      have Q7:=zaa q7;clear q7;go_wp2;go_ret;exact ⟨zad (zae fun hh=>Q7.out (hh.2.2.2.2.2.2 Q6.out).1).symm,TBH.out⟩
     have q7':(h.timer == 0) = true:=by simp [q7]
     have Q7:=zaa q7;clear q7
     have fin:(h.state = 0 → h.shown = false) → (h.state = 2 → h.shown = true) → B (zcn hold x.sections.length h) = true:=
      fun a b=>zam ⟨Q0.out,Q1.out,Q2.out,fun _=>⟨N4.out,Q5.out⟩,N5.out,fun e=>absurd e Q6.out,fun _=>⟨Q7.out,a,b⟩⟩
     have F:=zaa fin;clear fin;by_cases q8:h.state = 0
     ·have q8':(h.state != 0) = false:=by simp [q8]
      have q9':(h.state != 2) = true:=by simp [q8]
      have Q8:=zaa q8;clear q8;by_cases hsh:h.shown = true
      ·have HSH:=zaa hsh;go_wp2;go_ret;refine ⟨zad (zae fun hh=>?_).symm,by have t:=TBH.out; rw [HSH.out] at t; exact t⟩;have:=(hh.2.2.2.2.2.2 Q6.out).2.1 Q8.out;rw [HSH.out] at this
       cases this
      ·have hsh':h.shown = false:=by simpa using hsh
       have HSH:=zaa hsh';clear hsh;go_wp2;go_ret;exact ⟨zad (F.out (fun _=>HSH.out) (fun e=>absurd (Q8.out.symm.trans e) (by omega))).symm,by have t:=TBH.out; rw [HSH.out] at t; exact t⟩
     ·have q8':(h.state != 0) = true:=by simp [q8]
      have Q8:=zaa q8;clear q8;by_cases q9:h.state = 2
      ·have q9':(h.state != 2) = false:=by simp [q9]
       have Q9:=zaa q9;clear q9;by_cases hsh:h.shown = true
       ·have HSH:=zaa hsh;go_wp2;go_ret;exact ⟨zad (F.out (fun e=>absurd e Q8.out) (fun _=>HSH.out)).symm,by have t:=TBH.out; rw [HSH.out] at t; exact t⟩
       ·have hsh':h.shown = false:=by simpa using hsh
        have HSH:=zaa hsh';clear hsh;go_wp2;go_ret;refine ⟨zad (zae fun hh=>?_).symm,by have t:=TBH.out; rw [HSH.out] at t; exact t⟩;have:=(hh.2.2.2.2.2.2 Q6.out).2.2 Q9.out;rw [HSH.out] at this
        cases this
      ·have q9':(h.state != 2) = true:=by simp [q9]
       have Q9:=zaa q9;clear q9;go_wp2;go_ret;exact ⟨zad (F.out (fun e=>absurd e Q8.out) (fun e=>absurd e Q9.out)).symm,TBH.out⟩
end Go.Proofs.YtdhinkgjiapigabGreatDoor

import Derived.Test.YtdhinkgjiapigabGreatDoorSpec5
import Derived.Test.YtdhinkgjiapigabGreatDoorSettle2
import Derived.Test.YtdhinkgjiapigabGreatDoorCopyA
namespace Go.Proofs.YtdhinkgjiapigabGreatDoor
open Go.RowKit Go.Deep
open Classical
set_option maxRecDepth 100000 in
set_option maxHeartbeats 4000000 in
theorem zm5 (ok ok' f1 f2 f3 g1 g2 g3:Value) (la lb:List HeldD) (w:World) (hf:Helds (In w) w f3 la) (hg:Helds (In w) w g3 lb)
  (hl:la.length = lb.length) (h100:la.length ≤ 1048576) (hb:∀ (i:Nat) x y,la[i]? = some x → lb[i]? = some y → x.been.length = y.been.length ∧ x.been.length ≤ 1048576) :
  Calls Tryz.prog 69 #[.agg #[ok,f1,f2,f3],.agg #[ok',g1,g2,g3]] w fun e w'=>e = .returned (.bool (B (la = lb))) ∧ Below w.heap.size w w':=by
 obtain ⟨af,cf,rfl,hcf⟩:=hf;obtain ⟨ag,cg,rfl,hcg⟩:=hg;have HF:=zaa hcf;have HG:=zaa hcg;have HB:=zaa hb;have T0:=zbc w 42 42 #[ok,f1,f2,.slice af la.length cf] #[ok',g1,g2,.slice ag lb.length cg];have HL:=zaa hl;clear hcf hcg hb hl;go_enter Tryz.func69,Tryz.ntmps69;go_wp2
 go_loopw [12] (fun z wr=>∃ (k:Nat),k ≤ la.length ∧ z = .int .i64 k ∧ (∀ j:Nat,j < k → la[j]? = lb[j]?) ∧ Boxes w [(42,#[ok,f1,f2,.slice af la.length cf]),(42,#[ok',g1,g2,.slice ag lb.length cg])] wr) (fun z _=>la.length - (intOf z).toNat)
 case atStart=>exact ⟨0,by omega,rfl,fun j hj=>by omega,T0⟩
 case round=>
  obtain ⟨k,hk,rfl,hall,T1⟩:=hrel;have HA:=zaa hall;clear hall T0;by_cases hlt:k < la.length
  ·obtain h0 | ⟨bf,of,rfl,hbf,hcf⟩:=HF.out
   ·omega
   obtain h0 | ⟨bg,og,rfl,hbg,hcg⟩:=HG.out
   ·have:=HL.out; omega
   obtain ⟨x,hx⟩:=zac la (zaa rfl) hlt;obtain ⟨y,hy⟩:=zac lb (zaa HL.out.symm) hlt;obtain ⟨v2,hbe,p0,p1,p2,p3,p4⟩:=hcf k hlt x hx;obtain ⟨u2,hbe',q0,q1,q2,q3,q4⟩:=hcg k (by have:=HL.out; omega) y hy;obtain ⟨a6,c6,rfl,hb6⟩:=hbe;obtain ⟨a7,c7,rfl,hb7⟩:=hbe';rw [← T1.below.cell (p:=⟨bf,_,none⟩) hbf] at p0 p1 p2 p3 p4;rw [← T1.below.cell (p:=⟨bg,_,none⟩) hbg] at q0 q1 q2 q3 q4;obtain ⟨hbl,hbm⟩:=HB.out k x y hx hy;obtain ⟨xs,hxs⟩:∃ c,x.shown = c:=⟨_,rfl⟩;obtain ⟨ys,hys⟩:∃ c,y.shown = c:=⟨_,rfl⟩;rw [hxs] at p3;rw [hys] at q3;have HXS:=zaa hxs;have HYS:=zaa hys;clear hxs hys;have X0:=zbc wr 93 93 #[.int .i64 x.state,.int .i64 x.gone,.slice a6 x.been.length c6,.bool xs,.int .i64 x.timer] #[.int .i64 y.state,.int .i64 y.gone,.slice a7 y.been.length c7,.bool ys,.int .i64 y.timer];have T2:=T1.call X0.below;have r0:wr.cell? ⟨w.heap.size,3,none⟩ = some (.slice (some ⟨bf,of,none⟩) la.length cf):=T1.cell (j:=0) (i:=3) rfl rfl;have r1:wr.cell? ⟨w.heap.size + 1,3,none⟩ = some (.slice (some ⟨bg,og,none⟩) lb.length cg):=T1.cell (j:=1) (i:=3) rfl rfl
   have hk1:(k:Int) < (la.length:Int):=by omega
   have hk2:(k:Int) < (lb.length:Int):=by have:=HL.out; omega
   have HBL:=zaa hbl;clear hbl;have H6:=zaa hb6;have H7:=zaa hb7;have Hx:=zaa hx;have Hy:=zaa hy;have r1':=ckb r1 (zab wr (.cells #[.int .i64 x.state,.int .i64 x.gone,.slice a6 x.been.length c6,.bool xs,.int .i64 x.timer] 93));have q0':=ckb q0 (zab wr (.cells #[.int .i64 x.state,.int .i64 x.gone,.slice a6 x.been.length c6,.bool xs,.int .i64 x.timer] 93));have q1':=ckb q1 (zab wr (.cells #[.int .i64 x.state,.int .i64 x.gone,.slice a6 x.been.length c6,.bool xs,.int .i64 x.timer] 93));have q2':=ckb q2 (zab wr (.cells #[.int .i64 x.state,.int .i64 x.gone,.slice a6 x.been.length c6,.bool xs,.int .i64 x.timer] 93));have q3':=ckb q3 (zab wr (.cells #[.int .i64 x.state,.int .i64 x.gone,.slice a6 x.been.length c6,.bool xs,.int .i64 x.timer] 93));have q4':=ckb q4 (zab wr (.cells #[.int .i64 x.state,.int .i64 x.gone,.slice a6 x.been.length c6,.bool xs,.int .i64 x.timer] 93));clear hb6 hb7 hx hy hcf hcg T1
   have no:¬ x = y → ∀ {W:World},Below w.heap.size w W → (Ending.returned (.bool false) = .returned (.bool (B (la = lb))) ∧ Below w.heap.size w W):=fun hne W hW=>⟨zad (zae fun e=>hne (by
    have h1:=Hx.out;rw [e,Hy.out] at h1
    exact (Option.some.inj h1).symm)).symm,hW⟩
   have NO:=zaa @no;clear no;by_cases z0:x.state = y.state
   case neg=>
    have z0':(x.state != y.state) = true:=by simp [z0]
    have Z0:=zaa z0;clear z0;go_wp2;go_ret;exact NO.out (fun e=>Z0.out (by rw [e])) T2.below
   have z0':(x.state != y.state) = false:=by simp [z0]
   have Z0:=zaa z0;clear z0;by_cases z1:x.gone = y.gone
   case neg=>
    have z1':(x.gone != y.gone) = true:=by simp [z1]
    have Z1:=zaa z1;clear z1;go_wp2;go_ret;exact NO.out (fun e=>Z1.out (by rw [e])) T2.below
   have z1':(x.gone != y.gone) = false:=by simp [z1]
   have Z1:=zaa z1;clear z1;by_cases z2:xs = ys
   case neg=>
    have Z2:=zaa z2;clear z2;have hn:¬ x = y:=fun e=>Z2.out (by rw [← HXS.out,← HYS.out,e]);have HNE:=zaa hn;clear hn
    cases xs <;> cases ys
    ·exact absurd rfl Z2.out
    ·go_wp2;go_ret;exact NO.out HNE.out T2.below
    ·go_wp2;go_ret;exact NO.out HNE.out T2.below
    ·exact absurd rfl Z2.out
   subst z2;have Z2:Hid (x.shown = y.shown):=HXS.out.trans HYS.out.symm;by_cases z3:x.timer = y.timer
   case neg=>
    have z3':(x.timer != y.timer) = true:=by simp [z3]
    have Z3:=zaa z3;clear z3;go_wp2;go_ret;exact NO.out (fun e=>Z3.out (by rw [e])) T2.below
   have z3':(x.timer != y.timer) = false:=by simp [z3]
   have Z3:=zaa z3;clear z3;have X1:=X0;go_wp2;rename World=>wo;clear p0 p1 p2 p3 p4 q0 q1 q2 q3 q4 q0' q1' q2' q3' q4' r0 r1 r1'
   go_loopw [54] (fun z wr=>∃ (q:Nat),q ≤ x.been.length ∧ z = .int .i64 q ∧ (∀ j:Nat,j < q → x.been[j]? = y.been[j]?) ∧ Boxes wo [(93,#[.int .i64 x.state,.int .i64 x.gone,.slice a6 x.been.length c6,.bool xs,.int .i64 x.timer]),(93,#[.int .i64 y.state,.int .i64 y.gone,.slice a7 y.been.length c7,.bool xs,.int .i64 y.timer])] wr ∧ Boxes w [(42,#[ok,f1,f2,.slice (some ⟨bf,of,none⟩) la.length cf]),(42,#[ok',g1,g2,.slice (some ⟨bg,og,none⟩) lb.length cg])] wr) (fun z _=>x.been.length - (intOf z).toNat)
   case atStart=>exact ⟨0,by omega,rfl,fun j hj=>by omega,X1,T2⟩
   case round=>
    obtain ⟨q,hq,rfl,heq,X2,T3⟩:=hrel;have HE:=zaa heq;clear heq X0 X1 T2;by_cases hlt2:q < x.been.length
    ·obtain h0 | ⟨b6,o6,rfl,hb6,hc6⟩:=H6.out
     ·omega
     obtain h0 | ⟨b7,o7,rfl,hb7,hc7⟩:=H7.out
     ·have:=HBL.out; omega
     obtain ⟨s,hs⟩:=zac x.been (zaa rfl) hlt2;obtain ⟨t,ht⟩:=zac y.been (zaa HBL.out.symm) hlt2;have gs:=hc6 q hlt2 s hs;have gt:=hc7 q (by have:=HBL.out; omega) t ht;rw [← T3.below.cell (p:=⟨b6,_,none⟩) hb6] at gs;rw [← T3.below.cell (p:=⟨b7,_,none⟩) hb7] at gt;have m2:wr.cell? ⟨wo.heap.size,2,none⟩ = some (.slice (some ⟨b6,o6,none⟩) x.been.length c6):=X2.cell (j:=0) (i:=2) rfl rfl;have n2:wr.cell? ⟨wo.heap.size + 1,2,none⟩ = some (.slice (some ⟨b7,o7,none⟩) y.been.length c7):=X2.cell (j:=1) (i:=2) rfl rfl
     have hq1:(q:Int) < (x.been.length:Int):=by omega
     have hq2:(q:Int) < (y.been.length:Int):=by have:=HBL.out; omega
     have Hs:=zaa hs;have Ht:=zaa ht;clear hs ht hc6 hc7;by_cases est:s = t
     ·subst est;go_wp2
      go_quiet (fail)
      go_wp2;go_roundw
      case rel=>exact ⟨q + 1,by omega,by go_num,fun j hj=>by
       by_cases e:j = q
       ·subst e; rw [Hs.out,Ht.out]
       ·exact HE.out j (by omega),X2.call (zan _ _),T3.call (zan _ _)⟩
      case measure=>simp [intOf]; omega
     ·have hn:¬ x = y:=fun e=>est (by
       have h1:=Hs.out;rw [e,Ht.out] at h1
       exact (Option.some.inj h1).symm)
      have HNE:=zaa hn;have EST:=zaa est;clear hn est
      cases s <;> cases t
      ·exact absurd rfl EST.out
      ·go_wp2
       go_quiet (fail)
       go_wp2;go_ret;exact NO.out HNE.out (T3.call (zan _ _)).below
      ·go_wp2
       go_quiet (fail)
       go_wp2;go_ret;exact NO.out HNE.out (T3.call (zan _ _)).below
      ·exact absurd rfl EST.out
    ·have hxy:la[k]? = lb[k]?:=by
      have hbe:x.been = y.been:=by
       apply List.ext_getElem?;intro j;by_cases hj:j < q
       ·exact HE.out j hj
       ·rw [List.getElem?_eq_none (by omega),List.getElem?_eq_none (by have:=HBL.out; omega)]
      rw [Hx.out,Hy.out];have e0:=Z0.out;have e1:=Z1.out;have e2:=Z2.out;have e3:=Z3.out
      cases x; cases y
      simp only at e0 e1 e2 e3 hbe;rw [e0,e1,e2,e3,hbe]
     have HXY:=zaa hxy;clear hxy;go_wp2;go_roundw
     case rel=>exact ⟨k + 1,by omega,by go_num,fun j hj=>by
      by_cases e:j = k
      ·subst e; exact HXY.out
      ·exact HA.out j (by omega),T3⟩
     case measure=>simp [intOf]; omega
  ·go_wp2;go_ret;refine ⟨zad (zam ?_).symm,T1.below⟩;apply List.ext_getElem?;intro j;by_cases hj:j < k
   ·exact HA.out j hj
   ·rw [List.getElem?_eq_none (by omega),List.getElem?_eq_none (by have:=HL.out; omega)]
end Go.Proofs.YtdhinkgjiapigabGreatDoor
namespace Go.Proofs.YtdhinkgjiapigabGreatDoor
open Go.RowKit Go.Deep
open Classical
theorem Right.way {p:PlanD} (h:Right p) {i:Nat} {x:WayD} (hx:p.ways[i]? = some x):WayOk p.sections p.switches x:=
 Decidable.byContradiction fun hn=>h.parts.2.2.1 i ((ze5 hx).2 hn)
theorem ListOk.mem {n:Int} {l:List Int} (h:ListOk n l) {s:Int} (hs:s ∈ l):0 ≤ s ∧ s < n:=by
 obtain ⟨j,hj⟩:=List.getElem?_of_mem hs;have:=(h.1 j (List.getElem?_eq_some_iff.1 hj).1 s hj).1;exact ⟨this.1,by have:=this.2; omega⟩
theorem LiesOk.mem {m:Nat} {l:List (Int × Int)} (h:LiesOk m l) {y:Int × Int} (hy:y ∈ l):0 ≤ y.1 ∧ y.1 < m:=by
 obtain ⟨j,hj⟩:=List.getElem?_of_mem hy;have:=(h.1 j (List.getElem?_eq_some_iff.1 hj).1 y hj).1.1;exact ⟨this.1,by have:=this.2; omega⟩
theorem WayOk.small {n:Int} {sw:List Int} {x:WayD} (h:WayOk n sw x):x.Small 30:=⟨h.2.1.2,h.2.2.2.2.1.2,h.2.2.2.2.2.1.2,h.2.2.1.2,h.2.2.2.1.2⟩
theorem Right.row {p:PlanD} (h:Right p) {i k:Nat} (hi:i < p.ways.length) (hk:k < p.ways.length):∃ r b,p.bars[i]? = some r ∧ r.length = p.ways.length ∧ r[k]? = some b ∧ p.bar i k = some b:=by
 obtain ⟨-,-,-,h4,h5,-⟩:=h.parts;obtain ⟨r,hr⟩:=zac p.bars (zaa h4) hi;have hl:r.length = p.ways.length:=Decidable.byContradiction fun hn=>h5 i ((zec hr).2 hn);obtain ⟨b,hb⟩:=zac r (zaa hl) hk;exact ⟨r,b,hr,hl,hb,zh5 hr hb⟩
def zqr (p:PlanD) (d:FrameD) (i:Nat):Prop:=∀ x h,p.ways[i]? = some x → d.ways[i]? = some h →
 zcn p.hold x.sections.length h ∧ ∀ k g,i ≠ k → d.ways[k]? = some g → p.bar i k = some true → h.state ≠ 0 → g.state = 0
def zeo (x:Int × Int):Prop:=InR x.1 1 2 ∧ InR x.2 0 2
def zas (p:PlanD) (d:FrameD):Prop:=
 Right p ∧ d.ok = true ∧ (d.occ.length:Int) = p.sections ∧ d.points.length = p.switches.length ∧ d.ways.length = p.ways.length ∧ (∀ (k:Nat) x,d.points[k]? = some x → zeo x) ∧ (∀ i,i < d.ways.length → zqr p d i) ∧ d.ways = (zbu p.ways d).ways
theorem zh0 {occ:List Bool} {points:List (Int × Int)} {x:WayD} {h:HeldD} (hl:h.been.length = x.sections.length):(zar occ points x h).been.length = x.sections.length:=by
 have hp:∀ g:HeldD,g.been.length = x.sections.length → (zcb occ x.sections g).been.length = x.sections.length:=fun g hg=>by
  unfold zcb;split
  ·show (List.replicate _ false).length = _;rw [List.length_replicate,za4 hg]
  ·exact za4 hg
 have hc:∀ g:HeldD,g.been.length = x.sections.length → (zep occ points x g).been.length = x.sections.length:=fun g hg=>by
  unfold zep;split
  ·split <;> exact hg
  ·exact hg
 have hu:(znm occ x h).been.length = x.sections.length:=by
  unfold znm
  split <;> exact hl
 unfold zar zgk;split
 ·exact hl
 ·split
  ·exact hp _ (hc _ hu)
  ·exact hc _ hu
theorem zd0 {p:PlanD} {d:FrameD} (hr:Right p) (ho:(d.occ.length:Int) = p.sections) (hp:d.points.length = p.switches.length) (hw:d.ways.length = p.ways.length) (h:∀ i,i < d.ways.length → zqr p d i):Fits p.ways d:=by
 obtain ⟨⟨h1,h2,h3,-⟩,-⟩:=hr.parts;refine ⟨hw,h3,by have:=h1.2; omega,by omega,fun i x g hx hg=>?_⟩;have hk:=hr.way hx;obtain ⟨⟨-,hb,hgo,-⟩,-⟩:=h i (List.getElem?_eq_some_iff.1 hg).1 x g hx hg;refine ⟨hb,List.length_pos_iff.2 hk.1,hk.small,hgo.1,by have:=hgo.2; omega,fun y hy=>?_,fun s hs=>?_⟩
 ·rw [hp];rcases hy with hy | hy
  ·exact hk.2.2.2.2.1.mem hy
  ·exact hk.2.2.2.2.2.1.mem hy
 ·rw [ho];rcases hs with hs | hs
  ·exact hk.2.1.mem hs
  ·exact hk.2.2.1.mem hs
set_option maxRecDepth 100000 in
set_option maxHeartbeats 4000000 in
theorem zhi (v1 v2 v3 f1 f2 f3:Value) (p:PlanD) (d:FrameD) (w:World) (hp:PlanAt (In w) w v1 v2 v3 p) (hf:FrameAt (In w) w f1 f2 f3 d) (hs:p.Small 1048576) (hd:d.Small 1048576) :
  Calls Tryz.prog 15 #[.agg #[.int .i64 p.sections,v1,v2,v3,.int .i64 p.hold],.agg #[.bool d.ok,f1,f2,f3]] w fun e w'=>e = .returned (.bool (B (zas p d))) ∧ Below w.heap.size w w':=by
 obtain ⟨okb,hok⟩:∃ c,d.ok = c:=⟨_,rfl⟩;rw [hok];have HOK:=zaa hok;clear hok;have HP:=zaa hp;have HF:=zaa hf;have HS:=zaa hs;have HD:=zaa hd;obtain ⟨⟨a1,c1,rfl,-⟩,⟨a2,c2,rfl,-⟩,⟨a3,c3,rfl,-⟩⟩:=id hp;obtain ⟨⟨a4,c4,rfl,-⟩,⟨a5,c5,rfl,-⟩,⟨a6,c6,rfl,-⟩⟩:=id hf;have T0:=zbc w 37 42 #[.int .i64 p.sections,.slice a1 p.switches.length c1,.slice a2 p.ways.length c2,.slice a3 p.bars.length c3,.int .i64 p.hold] #[.bool okb,.slice a4 d.occ.length c4,.slice a5 d.points.length c5,.slice a6 d.ways.length c6];have hp0:=hp.keep (In.keep T0.below).1 (In.keep T0.below).2;obtain ⟨hs1,hs2,-,hs4,-⟩:=hs;obtain ⟨hd1,hd2,hd3,-⟩:=hd;clear hp hf;go_enter Tryz.func15,Tryz.ntmps15
 go_wp2_with fail
 refine (zl2 _ _ _ p _ hp0 HS.out).mono ?_;rintro e w1 ⟨rfl,hb1⟩;have T1:=T0.call hb1;clear T0 hb1 hp0;have r0:w1.cell? ⟨w.heap.size,0,none⟩ = some (.int .i64 p.sections):=T1.cell (j:=0) (i:=0) rfl rfl;have r1:w1.cell? ⟨w.heap.size,1,none⟩ = some (.slice a1 p.switches.length c1):=T1.cell (j:=0) (i:=1) rfl rfl;have r2:w1.cell? ⟨w.heap.size,2,none⟩ = some (.slice a2 p.ways.length c2):=T1.cell (j:=0) (i:=2) rfl rfl;have t0:w1.cell? ⟨w.heap.size + 1,0,none⟩ = some (.bool okb):=T1.cell (j:=1) (i:=0) rfl rfl;have t1:w1.cell? ⟨w.heap.size + 1,1,none⟩ = some (.slice a4 d.occ.length c4):=T1.cell (j:=1) (i:=1) rfl rfl;have t2:w1.cell? ⟨w.heap.size + 1,2,none⟩ = some (.slice a5 d.points.length c5):=T1.cell (j:=1) (i:=2) rfl rfl;have t3:w1.cell? ⟨w.heap.size + 1,3,none⟩ = some (.slice a6 d.ways.length c6):=T1.cell (j:=1) (i:=3) rfl rfl;have NO:Hid (¬ zas p d → ∀ W:World,Below w.heap.size w W → (Ending.returned (.bool false) = .returned (.bool (B (zas p d))) ∧ Below w.heap.size w W)):=fun hn W hW=>⟨zad (zae hn).symm,hW⟩;by_cases q0:Right p
 case neg=>
  rw [zae q0];have Q0:=zaa q0;clear q0;go_wp2;go_ret;exact NO.out (fun h=>Q0.out h.1) _ T1.below
 rw [zam q0];have Q0:=zaa q0;clear q0
 cases okb
 case false=>
  go_wp2;go_ret;exact NO.out (fun h=>by have:=h.2.1; rw [HOK.out] at this; cases this) _ T1.below
 by_cases q1:(d.occ.length:Int) = p.sections
 case neg=>
  have q1':((d.occ.length:Int) != p.sections) = true:=by simp [q1]
  have Q1:=zaa q1;clear q1;go_wp2;go_ret;exact NO.out (fun h=>Q1.out h.2.2.1) _ T1.below
 have q1':((d.occ.length:Int) != p.sections) = false:=by simp [q1]
 have Q1:=zaa q1;clear q1;by_cases q2:d.points.length = p.switches.length
 case neg=>
  have q2':((d.points.length:Int) != (p.switches.length:Int)) = true:=by simp; omega
  have Q2:=zaa q2;clear q2;go_wp2;go_ret;exact NO.out (fun h=>Q2.out h.2.2.2.1) _ T1.below
 have q2':((d.points.length:Int) != (p.switches.length:Int)) = false:=by simp; omega
 have Q2:=zaa q2;clear q2;by_cases q3:d.ways.length = p.ways.length
 case neg=>
  have q3':((d.ways.length:Int) != (p.ways.length:Int)) = true:=by simp; omega
  have Q3:=zaa q3;clear q3;go_wp2;go_ret;exact NO.out (fun h=>Q3.out h.2.2.2.2.1) _ T1.below
 have q3':((d.ways.length:Int) != (p.ways.length:Int)) = false:=by simp; omega
 have Q3:=zaa q3;clear q3;go_wp2;clear r0 r1 r2 t0 t1 t2 t3
 go_loopw [47] (fun z wr=>∃ (k:Nat),k ≤ d.points.length ∧ z = .int .i64 k ∧ (∀ (j:Nat) x,j < k → d.points[j]? = some x → zeo x) ∧ Boxes w [(37,#[.int .i64 p.sections,.slice a1 p.switches.length c1,.slice a2 p.ways.length c2,.slice a3 p.bars.length c3,.int .i64 p.hold]),(42,#[.bool true,.slice a4 d.occ.length c4,.slice a5 d.points.length c5,.slice a6 d.ways.length c6])] wr) (fun z _=>d.points.length - (intOf z).toNat)
 case atStart=>exact ⟨0,by omega,rfl,fun j _ hj=>by omega,T1⟩
 case round=>
  obtain ⟨k,hk,rfl,hall,T2⟩:=hrel;have HA:=zaa hall;clear hall T1;by_cases hlt:k < d.points.length
  ·obtain h0 | ⟨bp,op,rfl,hbp,hcp⟩:d.points.length = 0 ∨ ∃ b off,a5 = some ⟨b,off,none⟩ ∧ In w b ∧ ∀ (i:Nat),i < d.points.length → ∀ x,d.points[i]? = some x → w.cell? ⟨b,off + i * 2,none⟩ = some (.int .i64 x.1) ∧ w.cell? ⟨b,off + i * 2 + 1,none⟩ = some (.int .i64 x.2):=by
    obtain ⟨a,c,hv,hc⟩:=HF.out.2.1
    cases hv
    exact hc
   ·omega
   obtain ⟨x,hx⟩:=zac d.points (zaa rfl) hlt;obtain ⟨g0,g1⟩:=hcp k hlt x hx;rw [← T2.below.cell (p:=⟨bp,_,none⟩) hbp] at g0 g1;have Hx:=zaa hx;have T3:=T2.call (zab wr (.cells #[.int .i64 x.1,.int .i64 x.2] 90))
   have m0:(wr.alloc (.cells #[.int .i64 x.1,.int .i64 x.2] 90)).cell? ⟨wr.heap.size,0,none⟩ = some (.int .i64 x.1):=by simp
   have m1:(wr.alloc (.cells #[.int .i64 x.1,.int .i64 x.2] 90)).cell? ⟨wr.heap.size,1,none⟩ = some (.int .i64 x.2):=by simp
   clear hcp hx
   go_wp2_with fail
   refine (zbg x.1 1 2 _).mono ?_;rintro e w' ⟨rfl,rfl⟩;by_cases i1:InR x.1 1 2
   case neg=>
    rw [zae i1];have I1:=zaa i1;clear i1;go_wp2;go_ret;exact NO.out (fun h=>I1.out (h.2.2.2.2.2.1 k x Hx.out).1) _ T3.below
   rw [zam i1];have I1:=zaa i1;clear i1
   go_wp2_with fail
   refine (zbg x.2 0 2 _).mono ?_;rintro e w' ⟨rfl,rfl⟩;by_cases i2:InR x.2 0 2
   case neg=>
    rw [zae i2];have I2:=zaa i2;clear i2;go_wp2;go_ret;exact NO.out (fun h=>I2.out (h.2.2.2.2.2.1 k x Hx.out).2) _ T3.below
   rw [zam i2];have I2:=zaa i2;clear i2;go_wp2;go_roundw
   case rel=>exact ⟨k + 1,by omega,by go_num,fun j y hj hy=>by
    by_cases e:j = k
    ·subst e; rw [Hx.out] at hy; cases hy; exact ⟨I1.out,I2.out⟩
    ·exact HA.out j y (by omega) hy,T3⟩
   case measure=>simp [intOf]; omega
  ·have hpts:∀ (j:Nat) x,d.points[j]? = some x → zeo x:=fun j x hx=>HA.out j x (by have:=(List.getElem?_eq_some_iff.1 hx).1; omega) hx;have HPT:=zaa hpts;have t3:wr.cell? ⟨w.heap.size + 1,3,none⟩ = some (.slice a6 d.ways.length c6):=T2.cell (j:=1) (i:=3) rfl rfl;clear hpts HA;go_wp2;clear t3;rename World=>wo
   go_loopw [65] (fun z wr=>∃ (i:Nat),i ≤ d.ways.length ∧ z = .int .i64 i ∧ (∀ j,j < i → zqr p d j) ∧ Boxes w [(37,#[.int .i64 p.sections,.slice a1 p.switches.length c1,.slice a2 p.ways.length c2,.slice a3 p.bars.length c3,.int .i64 p.hold]),(42,#[.bool true,.slice a4 d.occ.length c4,.slice a5 d.points.length c5,.slice a6 d.ways.length c6])] wr) (fun z _=>d.ways.length - (intOf z).toNat)
   case atStart=>exact ⟨0,by omega,rfl,fun j hj=>by omega,T2⟩
   case round=>
    obtain ⟨i,hi,rfl,hall,T3⟩:=hrel;have HA:=zaa hall;clear hall T2;have r0:wr.cell? ⟨w.heap.size,0,none⟩ = some (.int .i64 p.sections):=T3.cell (j:=0) (i:=0) rfl rfl;have r1:wr.cell? ⟨w.heap.size,1,none⟩ = some (.slice a1 p.switches.length c1):=T3.cell (j:=0) (i:=1) rfl rfl;have r2:wr.cell? ⟨w.heap.size,2,none⟩ = some (.slice a2 p.ways.length c2):=T3.cell (j:=0) (i:=2) rfl rfl;have r3:wr.cell? ⟨w.heap.size,3,none⟩ = some (.slice a3 p.bars.length c3):=T3.cell (j:=0) (i:=3) rfl rfl;have r4:wr.cell? ⟨w.heap.size,4,none⟩ = some (.int .i64 p.hold):=T3.cell (j:=0) (i:=4) rfl rfl;have t0:wr.cell? ⟨w.heap.size + 1,0,none⟩ = some (.bool true):=T3.cell (j:=1) (i:=0) rfl rfl;have t1:wr.cell? ⟨w.heap.size + 1,1,none⟩ = some (.slice a4 d.occ.length c4):=T3.cell (j:=1) (i:=1) rfl rfl;have t2:wr.cell? ⟨w.heap.size + 1,2,none⟩ = some (.slice a5 d.points.length c5):=T3.cell (j:=1) (i:=2) rfl rfl;have t3:wr.cell? ⟨w.heap.size + 1,3,none⟩ = some (.slice a6 d.ways.length c6):=T3.cell (j:=1) (i:=3) rfl rfl;have kp:=HP.out.keep (In.keep T3.below).1 (In.keep T3.below).2;have kf:=HF.out.keep (In.keep T3.below).1 (In.keep T3.below).2;by_cases hlt2:i < d.ways.length
    ·obtain ⟨h,hh⟩:=zac d.ways (zaa rfl) hlt2;obtain ⟨x,hx⟩:=zac p.ways (zaa Q3.out.symm) hlt2;have hh100:=Q0.out.parts.1.2.2.1;have hsm:=(Q0.out.way hx).small;have hb30:=HD.out.2.2.2 h (List.mem_of_getElem? hh)
     go_wp2_with fail
     refine (zm3 _ _ p.hold _ _ _ _ _ _ p.ways d.ways i x h _ kp.2.1 kf.2.2 hx hh hh100 hsm Q3.out hb30).mono ?_;rintro e w2 ⟨rfl,hb2⟩;have T4:=T3.call hb2;have Hx:=zaa hx;have Hh:=zaa hh;clear kp kf r0 r1 r2 r3 r4 t0 t1 t2 t3 hb2 T3 hh hx;by_cases i1:zcn p.hold x.sections.length h
     case neg=>
      rw [zae i1];have I1:=zaa i1;clear i1;go_wp2;go_ret;exact NO.out (fun hf=>I1.out (hf.2.2.2.2.2.2.1 i hlt2 x h Hx.out Hh.out).1) _ T4.below
     rw [zam i1];have I1:=zaa i1;clear i1;have t3:w2.cell? ⟨w.heap.size + 1,3,none⟩ = some (.slice a6 d.ways.length c6):=T4.cell (j:=1) (i:=3) rfl rfl;have r3:w2.cell? ⟨w.heap.size,3,none⟩ = some (.slice a3 p.bars.length c3):=T4.cell (j:=0) (i:=3) rfl rfl
     obtain ⟨bh,oh,ha6,hbh,hch⟩:∃ b off,a6 = some ⟨b,off,none⟩ ∧ In w b ∧ ∀ (j:Nat) g,d.ways[j]? = some g → w2.cell? ⟨b,off + j * 5,none⟩ = some (.int .i64 g.state):=by
      obtain ⟨a,c,hv,h0 | ⟨b,off,ha,hb,hc⟩⟩:=HF.out.2.2
      ·omega
      ·cases hv
       refine ⟨b,off,ha,hb,fun j g hg=>?_⟩;obtain ⟨v2,-,g0,-⟩:=hc j (List.getElem?_eq_some_iff.1 hg).1 g hg;exact zns g0 T4.below
     subst ha6
     obtain ⟨br,or,ar,cr,row,ha3,g1,hrow,hrl,hrc⟩:∃ b off ar cr row,a3 = some ⟨b,off,none⟩ ∧ w2.cell? ⟨b,off + i,none⟩ = some (.slice ar row.length cr) ∧ p.bars[i]? = some row ∧ row.length = p.ways.length ∧ ∃ b2 o2,ar = some ⟨b2,o2,none⟩ ∧ ∀ (k:Nat) y,row[k]? = some y → w2.cell? ⟨b2,o2 + k,none⟩ = some (.bool y):=by
      obtain ⟨row,y0,hr,hrl,-⟩:=Q0.out.row (i:=i) (k:=i) (by have:=Q3.out; omega) (by have:=Q3.out; omega);obtain ⟨a,c,hv,h0 | ⟨b,off,ha,hb,hc⟩⟩:=HP.out.2.2
      ·have:=(List.getElem?_eq_some_iff.1 hr).1; omega
      ·cases hv
       obtain ⟨v0,⟨ar,cr,rfl,h0 | ⟨b2,o2,rfl,hb2,hc2⟩⟩,g1⟩:=hc i (List.getElem?_eq_some_iff.1 hr).1 row hr
       ·have:=Q3.out; omega
       ·exact ⟨b,off,_,cr,row,ha,zns g1 T4.below,hr,hrl,b2,o2,rfl,fun k y hy=>zns (hc2 k (List.getElem?_eq_some_iff.1 hy).1 y hy) T4.below⟩
     obtain ⟨b2,o2,rfl,hrc⟩:=hrc;subst ha3;have HRC:=zaa hrc;have HCH:=zaa hch;have HROW:=zaa hrow;have HRL:=zaa hrl;have gi:=hch i h Hh.out
     have i0:(i:Int) < (d.ways.length:Int):=by omega
     have i1:(i:Int) < (p.bars.length:Int):=by have:=(List.getElem?_eq_some_iff.1 hrow).1; omega
     clear hrc hch hrow hrl;go_wp2
     go_loop [76] (fun z=>∃ (k:Nat),k ≤ d.ways.length ∧ z = .int .i64 k ∧ ∀ (j:Nat) g,j < k → i ≠ j → d.ways[j]? = some g → p.bar i j = some true → h.state ≠ 0 → g.state = 0) (fun z=>d.ways.length - (intOf z).toNat)
     case atStart=>exact ⟨0,by omega,rfl,fun j _ hj=>by omega⟩
     case round=>
      obtain ⟨k2,hk2,rfl,hbar⟩:=hrel;have HBR:=zaa hbar;clear hbar;by_cases hlt3:k2 < d.ways.length
      ·obtain ⟨g,hg⟩:=zac d.ways (zaa rfl) hlt3;obtain ⟨y,hy⟩:=zac row (zaa (HRL.out.trans Q3.out.symm)) hlt3;have gy:=HRC.out k2 y hy;have gk:=HCH.out k2 g hg;have hbr:=zh5 HROW.out hy
       have k0:(k2:Int) < (d.ways.length:Int):=by omega
       have k1:(k2:Int) < (row.length:Int):=by have:=HRL.out; have:=Q3.out; omega
       have Hg:=zaa hg;have HB:=zaa hbr
       have STEP:Hid ((i ≠ k2 → p.bar i k2 = some true → h.state ≠ 0 → g.state = 0) → ∀ (j:Nat) g',j < k2 + 1 → i ≠ j → d.ways[j]? = some g' → p.bar i j = some true → h.state ≠ 0 → g'.state = 0):=fun hs j g' hj hne hg'=>by
        by_cases e:j = k2
        ·subst e; rw [Hg.out] at hg'; cases hg'; exact hs hne
        ·exact HBR.out j g' (by omega) hne hg'
       clear hg hy hbr;by_cases e1:i = k2
       ·have e1':((i:Int) != (k2:Int)) = false:=by simp; omega
        have E1:=zaa e1;clear e1;go_wp2
        go_round
        case rel=>exact ⟨k2 + 1,by omega,by go_num,STEP.out fun hn=>absurd E1.out hn⟩
        case measure=>simp [intOf]; omega
       have e1':((i:Int) != (k2:Int)) = true:=by simp; omega
       have E1:=zaa e1;clear e1
       cases y
       ·go_wp2
        go_round
        case rel=>exact ⟨k2 + 1,by omega,by go_num,STEP.out fun _ hb=>by rw [HB.out] at hb; cases hb⟩
        case measure=>simp [intOf]; omega
       by_cases e2:h.state = 0
       ·have e2':(h.state != 0) = false:=by simp [e2]
        have E2:=zaa e2;clear e2;go_wp2
        go_round
        case rel=>exact ⟨k2 + 1,by omega,by go_num,STEP.out fun _ _ hn=>absurd E2.out hn⟩
        case measure=>simp [intOf]; omega
       have e2':(h.state != 0) = true:=by simp [e2]
       have E2:=zaa e2;clear e2;by_cases e3:g.state = 0
       ·have e3':(g.state != 0) = false:=by simp [e3]
        have E3:=zaa e3;clear e3;go_wp2
        go_round
        case rel=>exact ⟨k2 + 1,by omega,by go_num,STEP.out fun _ _ _=>E3.out⟩
        case measure=>simp [intOf]; omega
       ·have e3':(g.state != 0) = true:=by simp [e3]
        have E3:=zaa e3;clear e3;go_wp2;go_ret;exact NO.out (fun hf=>E3.out ((hf.2.2.2.2.2.2.1 i hlt2 x h Hx.out Hh.out).2 k2 g E1.out Hg.out HB.out E2.out)) _ T4.below
      ·have hw:zqr p d i:=fun x' h' hx' hh'=>by
        rw [Hx.out] at hx'; rw [Hh.out] at hh'
        cases hx'; cases hh'
        exact ⟨I1.out,fun k g hne hg hb hst=>HBR.out k g (by have:=(List.getElem?_eq_some_iff.1 hg).1; omega) hne hg hb hst⟩
       have HW:=zaa hw;clear hw;go_wp2;go_roundw
       case rel=>exact ⟨i + 1,by omega,by go_num,fun j hj=>by
        by_cases e:j = i
        ·subst e; exact HW.out
        ·exact HA.out j (by omega),T4⟩
       case measure=>simp [intOf]; omega
    ·have hways:∀ i,i < d.ways.length → zqr p d i:=fun j hj=>HA.out j (by omega);have HW:=zaa hways;have hfit:=zd0 Q0.out Q1.out Q2.out Q3.out hways;have HFIT:=zaa hfit
     have hpos:0 < d.occ.length:=by have:=Q1.out; have:=Q0.out.parts.1.1.1; omega
     have hbp:∀ x ∈ d.ways,0 < x.been.length:=fun y hy=>by
      obtain ⟨j,hj⟩:=List.getElem?_of_mem hy;obtain ⟨x,hx⟩:=zac p.ways (zaa Q3.out.symm) (List.getElem?_eq_some_iff.1 hj).1;obtain ⟨e1,e2,-⟩:=hfit.2.2.2.2 j x y hx hj;omega
     have HBP:=zaa hbp;clear hways hfit hbp
     go_wp2_with fail
     refine (zic true _ _ _ d _ kf HD.out hpos HBP.out).mono ?_;rintro e w2 ⟨u1,u2,u3,bo,bp,bw,bb,rfl,hb2,hfr⟩;obtain ⟨g1,N1,k1,rfl,-⟩:=id hfr.occ;obtain ⟨a7,k2,rfl,-⟩:=id hfr.points;obtain ⟨a8,k3,rfl,-⟩:=id hfr.ways;have T4:=T3.call hb2;have BG:=zab w2 (.cells #[.bool true,.slice (some ⟨bo,0,none⟩) d.occ.length k1,.slice a7 d.points.length k2,.slice a8 d.ways.length k3] 42);have T5:=T4.call BG;have TG:=zaw w2 42 #[.bool true,.slice (some ⟨bo,0,none⟩) d.occ.length k1,.slice a7 d.points.length k2,.slice a8 d.ways.length k3];have hwr:w.heap.size + 1 < wr.heap.size:=T3.lt (j:=1) rfl;clear kp kf r0 r1 r2 r3 r4 t0 t1 t2 t3;obtain ⟨W3,hW3⟩:∃ W3,W3 = w2.alloc (.cells #[.bool true,.slice (some ⟨bo,0,none⟩) d.occ.length k1,.slice a7 d.points.length k2,.slice a8 d.ways.length k3] 42):=⟨_,rfl⟩
     have hz3:W3.heap.size = w2.heap.size + 1:=by rw [hW3]; simp
     rw [← hW3] at BG T5 TG;have c0:W3.cell? ⟨w2.heap.size,0,none⟩ = some (.bool true):=TG.cell (j:=0) (i:=0) rfl rfl;have c1':W3.cell? ⟨w2.heap.size,1,none⟩ = some (.slice (some ⟨bo,0,none⟩) d.occ.length k1):=TG.cell (j:=0) (i:=1) rfl rfl;have c2':W3.cell? ⟨w2.heap.size,2,none⟩ = some (.slice a7 d.points.length k2):=TG.cell (j:=0) (i:=2) rfl rfl;have c3':W3.cell? ⟨w2.heap.size,3,none⟩ = some (.slice a8 d.ways.length k3):=TG.cell (j:=0) (i:=3) rfl rfl;have r0:W3.cell? ⟨w.heap.size,0,none⟩ = some (.int .i64 p.sections):=T5.cell (j:=0) (i:=0) rfl rfl;have r1:W3.cell? ⟨w.heap.size,1,none⟩ = some (.slice a1 p.switches.length c1):=T5.cell (j:=0) (i:=1) rfl rfl;have r2:W3.cell? ⟨w.heap.size,2,none⟩ = some (.slice a2 p.ways.length c2):=T5.cell (j:=0) (i:=2) rfl rfl;have r3:W3.cell? ⟨w.heap.size,3,none⟩ = some (.slice a3 p.bars.length c3):=T5.cell (j:=0) (i:=3) rfl rfl;have r4:W3.cell? ⟨w.heap.size,4,none⟩ = some (.int .i64 p.hold):=T5.cell (j:=0) (i:=4) rfl rfl
     have hcall:=za8 (New wr w2) (In w) (.int .i64 p.sections) (.int .i64 p.hold) (.bool true) (.slice a1 p.switches.length c1) (.slice a2 p.ways.length c2) (.slice a3 p.bars.length c3) _ _ _ d p.ways bo bp bw w2.heap.size bb W3
      (HP.out.2.1.keep (In.keep T5.below).1 fun _ z=>z) (fun c hc=>⟨Nat.lt_of_lt_of_le hc T5.below.size,fun z=>by have:=z.1; have:c < w.heap.size:=hc; omega⟩) c0 c1' c2' c3' (fun z=>Nat.lt_irrefl _ z.2)
      (hfr.but (K:=fun _=>True) (But.of_calls BG) (fun _ _=>trivial) fun _ z=>z) HFIT.out (fun c hc=>Nat.lt_of_lt_of_le hc.2 BG.size)
     have HC:=zaa hcall;rw [hW3] at r0 r1 r2 r3 r4 HC;clear hcall
     go_wp2_with fail
     refine HC.out.mono ?_;rw [← hW3] at r0 r1 r2 r3 r4 ⊢;rintro e w4 ⟨rfl,bb',hfr',hbut⟩;have hb34:Below w.heap.size w w4:=T5.below.trans (hbut.below T5.below.size fun c hc z=>by have:=z.1; omega);have e0:=hbut.cell (T5.cell (j:=1) (i:=0) rfl rfl:W3.cell? ⟨w.heap.size + 1,0,none⟩ = some (.bool true)) (fun z=>by have:=z.1; omega);have e1:=hbut.cell (T5.cell (j:=1) (i:=1) rfl rfl:W3.cell? ⟨w.heap.size + 1,1,none⟩ = some (.slice a4 d.occ.length c4)) (fun z=>by have:=z.1; omega);have e2:=hbut.cell (T5.cell (j:=1) (i:=2) rfl rfl:W3.cell? ⟨w.heap.size + 1,2,none⟩ = some (.slice a5 d.points.length c5)) (fun z=>by have:=z.1; omega);have e3:=hbut.cell (T5.cell (j:=1) (i:=3) rfl rfl:W3.cell? ⟨w.heap.size + 1,3,none⟩ = some (.slice a6 d.ways.length c6)) (fun z=>by have:=z.1; omega);have y0:=hbut.cell c0 (fun z=>Nat.lt_irrefl _ z.2);have y1:=hbut.cell c1' (fun z=>Nat.lt_irrefl _ z.2);have y2:=hbut.cell c2' (fun z=>Nat.lt_irrefl _ z.2);have y3:=hbut.cell c3' (fun z=>Nat.lt_irrefl _ z.2)
     have hlen:(zbu p.ways d).ways.length = d.ways.length:=by
      show (List.zipWith _ _ _).length = _;rw [List.length_zipWith,Q3.out,Nat.min_self]
     have hsame:=zm5 (.bool true) (.bool true) (.slice a4 d.occ.length c4) (.slice a5 d.points.length c5) (.slice a6 d.ways.length c6) (.slice (some ⟨bo,0,none⟩) d.occ.length k1) (.slice a7 d.points.length k2) (.slice a8 d.ways.length k3) d.ways (zbu p.ways d).ways w4
      (HF.out.2.2.keep (In.keep hb34).1 (In.keep hb34).2) ((hfr'.bound (Q:=In w4) fun c _ hl=>hl).read.2.2) hlen.symm hd3 (fun j x' y' hx' hy'=>by
       obtain ⟨x,hx⟩:=zac p.ways (zaa Q3.out.symm) (List.getElem?_eq_some_iff.1 hx').1;have hy2:(List.zipWith (zar d.occ d.points) p.ways d.ways)[j]? = some y':=hy';rw [List.getElem?_zipWith,hx,hx'] at hy2
       cases hy2
       obtain ⟨q1,-⟩:=HFIT.out.2.2.2.2 j x x' hx hx'
       exact ⟨by rw [zh0 q1]; exact q1,HD.out.2.2.2 x' (List.mem_of_getElem? hx')⟩)
     have HSM:=zaa hsame;have HB34:=zaa hb34;clear hsame hb34 hfr hfr' hbut T3 T4 T5 TG BG c0 c1' c2' c3' r0 r1 r2 r3 r4 hlen HC
     go_wp2_with fail
     refine HSM.out.mono ?_;rintro e w5 ⟨rfl,hb5⟩;have hb6:=HB34.out.trans (hb5.mono HB34.out.size);have hiff:B (d.ways = (zbu p.ways d).ways) = B (zas p d):=zbz ⟨fun h=>⟨Q0.out,HOK.out,Q1.out,Q2.out,Q3.out,HPT.out,HW.out,h⟩,fun h=>h.2.2.2.2.2.2.2⟩;have HI:=zaa hiff;clear hiff;go_wp2;go_ret;exact ⟨zad HI.out,hb6⟩
end Go.Proofs.YtdhinkgjiapigabGreatDoor

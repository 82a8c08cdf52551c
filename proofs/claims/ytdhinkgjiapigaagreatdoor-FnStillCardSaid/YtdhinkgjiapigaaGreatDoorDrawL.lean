import Derived.Test.YtdhinkgjiapigaaGreatDoorDrawI
import Derived.Test.YtdhinkgjiapigaaGreatDoorRunS
import Derived.Deep.DeepCutAuto
import Derived.Test.YtdhinkgjiapigaaGreatDoorDrawF
namespace Go.Proofs.YtdhinkgjiapigaaGreatDoor
open Go.RowKit Go.Deep
open Classical
theorem OFrame.grownE {P:Nat → Prop} {W W':World} {v1 v2 v3:Value} {d:FrameD} {bo bp bw:Nat} {bb:Nat → Nat} {base size n:Nat} {u:Value} {xs:List Value} (h:OFrame P W v1 v2 v3 d bo bp bw bb) (hg:W.grownBy W' u.ownBlock) (hown:W.ownsRow base 55 size u n xs):OFrame P W' v1 v2 v3 d bo bp bw bb:=by
 have hB:But (fun c=>some c ≠ u.ownBlock) W W':=⟨hg.os,hg.tape,hg.output,hg.size,fun c hc hk=>hg.block c hc hk⟩
 cases e:u.ownBlock with
 | none=>exact h.but hB (fun c _=>by rw [e]; exact fun z=>by cases z) fun _ z=>z
 | some g=>
  refine (h.away (g:=g) fun t N f b hr ht=>(zat hown e).2.2 t N f b hr ?_).but hB (fun c hc=>by rw [e]; exact fun z=>hc.2 (Option.some.inj z)) fun _ z=>z.1
  rcases ht with rfl | rfl | rfl <;> decide
structure DrB (w:World) (cb:Nat) (pc:Array Value) (fb K:Nat) (W:World) (v:Value) (es:List (Int × Int × Int)) (d:FrameD) (u1 u2 u3:Value):Prop where
 but:But (fun c=>c ≠ cb) w W
 cur:Cur W cb K
 box:W.rowIs w.heap.size 27 5 (fun i=>pc[i]!)
 fbox:W.rowIs fb 40 4 (fun i=>(#[.bool d.ok,u1,u2,u3]:Array Value)[i]!)
 own:W.ownsRow (w.heap.size + 1) 55 3 v es.length (zc2 es)
 frame:∃ bo bp bw bb,OFrame (fun c=>w.heap.size ≤ c) W u1 u2 u3 d bo bp bw bb
 fbl:w.heap.size < fb
 hcb:cb < w.heap.size
section
variable {w : World} {cb : Nat} {pc : Array Value} {fb K : Nat} {W : World} {v : Value} {es : List (Int × Int × Int)} {d : FrameD} {u1 u2 u3 : Value}
theorem DrB.pick (h:DrB w cb pc fb K W v es d u1 u2 u3) {W':World} {L:Nat} (hB:But (fun c=>c ≠ cb) W W') (hc:Cur W' cb L):DrB w cb pc fb L W' v es d u1 u2 u3:=by
 have h1:=h.hcb;have h2:=h.fbl;obtain ⟨bo,bp,bw,bb,hF⟩:=h.frame;exact ⟨h.but.trans hB,hc,hB.row h.box (by omega),hB.row h.fbox (by omega),zba h.own hB fun c hc _=>by omega,⟨bo,bp,bw,bb,hF.but hB (fun c hc=>by omega) fun _ z=>z⟩,h.fbl,h.hcb⟩
theorem DrB.call (h:DrB w cb pc fb K W v es d u1 u2 u3) {W':World} (hb:Below W.heap.size W W'):DrB w cb pc fb K W' v es d u1 u2 u3:=
 h.pick (But.of_calls hb) (h.cur.but (Q:=fun _=>True) (But.of_calls hb) fun _ _=>trivial)
theorem DrB.mono (h:DrB w cb pc fb K W v es d u1 u2 u3) {L:Nat} (hk:K ≤ L):DrB w cb pc fb L W v es d u1 u2 u3:=⟨h.but,h.cur.mono hk,h.box,h.fbox,h.own,h.frame,h.fbl,h.hcb⟩
theorem DrB.put (h:DrB w cb pc fb K W v es d u1 u2 u3) {P:Nat → Prop} {n1 n2 n3:Value} {x:FrameD} {bo bp bw:Nat} {bb:Nat → Nat} (hF:OFrame P W n1 n2 n3 x bo bp bw bb) (hl:∀ c,P c → w.heap.size ≤ c) :
  DrB w cb pc fb K ((((W.setCell ⟨fb,0,none⟩ (.bool x.ok)).setCell ⟨fb,1,none⟩ n1).setCell ⟨fb,2,none⟩ n2).setCell ⟨fb,3,none⟩ n3) v es x n1 n2 n3 ∧ But (fun c=>c ≠ fb) W ((((W.setCell ⟨fb,0,none⟩ (.bool x.ok)).setCell ⟨fb,1,none⟩ n1).setCell ⟨fb,2,none⟩ n2).setCell ⟨fb,3,none⟩ n3):=by
 have h1:=h.hcb;have h2:=h.fbl;have hj:∀ o:Nat,¬ ((fun c=>c ≠ fb) (⟨fb,o,none⟩:Addr).block):=fun o z=>z rfl;have hB:=((((But.refl (fun c=>c ≠ fb) W).setCell (hj 0) (.bool x.ok)).setCell (hj 1) n1).setCell (hj 2) n2).setCell (hj 3) n3;have hF2:=hF.boxed h.fbox ⟨by decide,by decide,by decide⟩ hB fun _ z=>z;refine ⟨⟨h.but.low (hB.below h.but.size fun c hc=>by omega),h.cur.but hB fun c hc=>by omega,hB.row h.box (by omega),?_,?_,⟨bo,bp,bw,bb,hF2.but (K:=fun _=>True) (But.refl _ _) (fun _ _=>trivial) hl⟩,h.fbl,h.hcb⟩,hB⟩
 ·refine ((((h.fbox.set 0 _).set 1 _).set 2 _).set 3 _).congr fun i hi=>?_;rcases i with _ | _ | _ | _ | i
  ·rfl
  ·rfl
  ·rfl
  ·rfl
  ·omega
 ·exact za3 h.own hB fun g hg' e=>(zat h.own hg').2.2 _ _ _ _ h.fbox (by decide) e.symm
theorem DrB.add (h:DrB w cb pc fb K W v es d u1 u2 u3) {W':World} (hg:W.grownBy W' v.ownBlock) {v':Value} {x:Int × Int × Int} {m:Nat} (ho:W'.ownsRow (w.heap.size + 1) 55 3 v' m (zc2 es ++ [.int .i64 x.1,.int .i64 x.2.1,.int .i64 x.2.2])) (hm:m = es.length + 1):DrB w cb pc fb K W' v' (es ++ [x]) d u1 u2 u3:=by
 have h1:=h.hcb;have h2:=h.fbl;have hBg:But (fun c=>some c ≠ v.ownBlock) W W':=⟨hg.os,hg.tape,hg.output,hg.size,fun c hc hk=>hg.block c hc hk⟩;have hty:∀ {b t N:Nat} {g:Nat → Value},W.rowIs b t N g → t ≠ 55 → some b ≠ v.ownBlock:=fun hr ht e=>(zat h.own e.symm).2.2 _ _ _ _ hr ht rfl;have hbl:=zbm h.own hg (B:=w.heap.size) (by omega) (Nat.le_trans h.but.size (Nat.le_refl _));obtain ⟨bo,bp,bw,bb,hF⟩:=h.frame;refine ⟨h.but.low hbl,h.cur.but (But.of_below (K:=fun c=>c < w.heap.size) hbl fun _ _ z=>z) fun c hc=>by omega,hBg.row h.box (hty h.box (by decide)),hBg.row h.fbox (hty h.fbox (by decide)),?_,⟨bo,bp,bw,bb,hF.grownE hg h.own⟩,h.fbl,h.hcb⟩;rw [zj1,List.length_append,List.length_singleton,← hm];exact ho
theorem DrB.plan (h:DrB w cb pc fb K W v es d u1 u2 u3) {p1 p2 p3:Value} {p:PlanD} (hp:PlanAt (fun _b=>_b < w.heap.size ∧ _b ≠ cb) w p1 p2 p3 p):PlanAt (fun _b=>_b < W.heap.size ∧ _b ≠ cb) W p1 p2 p3 p:=hp.keep (h.but.same fun _b hb=>hb) fun _b hb=>⟨Nat.lt_of_lt_of_le hb.1 h.but.size,hb.2⟩
theorem DrB.read (h:DrB w cb pc fb K W v es d u1 u2 u3):FrameAt (fun b=>b < W.heap.size ∧ b ≠ cb) W u1 u2 u3 d:=by
 have h1:=h.hcb;obtain ⟨bo,bp,bw,bb,hF⟩:=h.frame;exact (hF.bound (Q:=fun b=>b < W.heap.size ∧ b ≠ cb) fun c h1 h2=>⟨h2,by omega⟩).read
end
end Go.Proofs.YtdhinkgjiapigaaGreatDoor
namespace Go.Proofs.YtdhinkgjiapigaaGreatDoor
open Go.RowKit Go.Deep
open Classical
theorem WayD.Small.mono {m n:Nat} {x:WayD} (h:x.Small m) (hn:m ≤ n):x.Small n:=⟨Nat.le_trans h.1 hn,Nat.le_trans h.2.1 hn,Nat.le_trans h.2.2.1 hn,Nat.le_trans h.2.2.2.1 hn,Nat.le_trans h.2.2.2.2 hn⟩
theorem Right.small {p:PlanD} (h:Right p):p.Small 1048576:=by
 have hp:=h.parts;refine ⟨Nat.le_trans hp.1.2.1 (by omega),Nat.le_trans hp.1.2.2.1 (by omega),fun x hx=>?_,?_,fun r hr=>?_⟩
 ·obtain ⟨i,hi⟩:=List.getElem?_of_mem hx;exact (h.way hi).small.mono (by omega)
 ·rw [hp.2.2.2.1];exact Nat.le_trans hp.1.2.2.1 (by omega)
 ·obtain ⟨i,hi⟩:=List.getElem?_of_mem hr;have hl:r.length = p.ways.length:=Decidable.byContradiction fun hn=>hp.2.2.2.2.1 i ((zec hi).2 hn);rw [hl];exact Nat.le_trans hp.1.2.2.1 (by omega)
set_option maxRecDepth 100000 in
set_option maxHeartbeats 16000000 in
theorem zol (cb K most:Nat) (p1 p2 p3:Value) (p:PlanD) (w:World) (hc:Cur w cb K) (hK:K ≤ 100000) (hm:most ≤ 50) (hp:PlanAt (fun b=>b < w.heap.size ∧ b ≠ cb) w p1 p2 p3 p) (hr:Right p) :
  Calls Tryz.prog 36 #[.pointer (some ⟨cb,0,none⟩),.agg #[.int .i64 p.sections,p1,p2,p3,.int .i64 p.hold],.int .i64 (most:Int)] w fun e w'=>∃ v es,e = .returned v ∧ Evs (fun c=>w.heap.size ≤ c ∧ c < w'.heap.size) w' v es ∧ es.length ≤ 50 ∧ But (fun c=>c ≠ cb) w w':=by
 have hcb:=hc.lt;have HPL:=zaa hp;obtain ⟨a1,c1,rfl⟩:=hp.1.size;obtain ⟨a2,c2,rfl⟩:=hp.2.1.size;obtain ⟨a3,c3,rfl⟩:=hp.2.2.size;have T0:=zaw w 27 #[.int .i64 p.sections,.slice a1 p.switches.length c1,.slice a2 p.ways.length c2,.slice a3 p.bars.length c3,.int .i64 p.hold];have HS:=zaa hr.small;have HR:=zaa hr;have HBEG:=zaa (zjs _ _ _ p _ (hp.keep (Q:=In (w.alloc (.cells #[.int .i64 p.sections,.slice a1 p.switches.length c1,.slice a2 p.ways.length c2,.slice a3 p.bars.length c3,.int .i64 p.hold] 27))) (za0 T0.below fun b hb=>hb.1) fun b hb=>(In.keep T0.below).2 b hb.1) hr.small);have HT0:=zaa T0;have HC:=zaa hc;clear hp hr T0 hc;go_enter Tryz.func36,Tryz.ntmps36
 go_wp2_with fail
 refine HBEG.out.mono ?_;clear HBEG;rintro e w3 ⟨u1,u2,u3,rfl,hb,hfm⟩;have hz:zdd p = zaq p:=if_pos HR.out;rw [hz] at hfm ⊢;have T3:=HT0.out.call hb;obtain ⟨bo,bp,bw,bb,hF⟩:=hfm.own (ze7 (zdp HR.out));obtain ⟨q1,s1,q2,s2,q3,s3,rfl,rfl,rfl⟩:=hfm.slices;have hbn:=zab w3 (.cells #[.bool (zaq p).ok,.slice q1 (zaq p).occ.length s1,.slice q2 (zaq p).points.length s2,.slice q3 (zaq p).ways.length s3] 40);have hrn:=zak w3 40 #[.bool (zaq p).ok,.slice q1 (zaq p).occ.length s1,.slice q2 (zaq p).points.length s2,.slice q3 (zaq p).ways.length s3];have T4:=T3.call hbn;have hsz0:=HT0.out.below.size
 have D0:DrB w cb #[.int .i64 p.sections,.slice a1 p.switches.length c1,.slice a2 p.ways.length c2,.slice a3 p.bars.length c3,.int .i64 p.hold] w3.heap.size K (w3.alloc (.cells #[.bool (zaq p).ok,.slice q1 (zaq p).occ.length s1,.slice q2 (zaq p).points.length s2,.slice q3 (zaq p).ways.length s3] 40)) (.slice none 0 0) [] (zaq p) (.slice q1 (zaq p).occ.length s1) (.slice q2 (zaq p).points.length s2) (.slice q3 (zaq p).ways.length s3):=
  ⟨But.of_calls T4.below,HC.out.but (Q:=fun _=>True) (But.of_calls T4.below) fun _ _=>trivial,T4.row 0 _ _ rfl,hrn,World.ownsRow_nil _ _ _ _,⟨bo,bp,bw,bb,hF.but (K:=fun _=>True) (But.of_calls hbn) (fun _ _=>trivial) fun c hc=>by omega⟩,T3.lt (j:=0) rfl,hcb⟩
 have HD0:=zaa D0;clear T3 T4 hF hfm hb hbn hrn D0 hz HT0 HC hsz0
 go_wp2_with fail
 refine (zap cb K most _ HD0.out.cur (by omega) (by omega)).mono ?_;rintro e w4 ⟨n0,rfl,hn0,hc4,hB4⟩;have HD4:=zaa (HD0.out.pick hB4 hc4)
 have hn49:n0 ≤ 49:=by omega
 obtain ⟨fb,hfb⟩:∃ fb,fb = w3.heap.size:=⟨_,rfl⟩;rw [← hfb] at HD4 ⊢;obtain ⟨F,hF⟩:∃ F,F = zaq p:=⟨_,rfl⟩
 have HFR0:Hid (zas p F):=by show zas p F; rw [hF]; exact zdp HR.out
 rw [← hF] at HD4 ⊢;clear hc4 hB4 hn0 HD0 hfb hF w3;go_wp2
 go_loopw [7,9] (fun o z wr=>∃ (k:Nat) (es:List (Int × Int × Int)) (d:FrameD) (u1 u2 u3:Value),es.length + k ≤ 49 ∧ z = .int .i64 (k:Int) ∧ zas p d ∧ DrB w cb #[.int .i64 p.sections,.slice a1 p.switches.length c1,.slice a2 p.ways.length c2,.slice a3 p.bars.length c3,.int .i64 p.hold] fb (K + 2 + 20 * (49 - k)) wr o es d u1 u2 u3) (fun _ z _=>(intOf z).toNat)
 case atStart=>exact ⟨n0,[],F,_,_,_,by show 0 + n0 ≤ 49; omega,rfl,HFR0.out,HD4.out.mono (by omega)⟩
 case round=>
  obtain ⟨k,es,d,u1,u2,u3,hek,rfl,hfr,hD⟩:=hrel;rename World=>wr;rename Value=>vo;clear HD4 HFR0;obtain ⟨ne,hne⟩:∃ m,m = es.length:=⟨_,rfl⟩;obtain ⟨a5,c5,e5⟩:=zag hD.own;rw [← hne] at e5 hek;subst e5;have HNE:=zaa hne;have hrd:=hD.read;obtain ⟨o1,m1,rfl⟩:=hrd.1.size;obtain ⟨o2,m2,rfl⟩:=hrd.2.1.size;obtain ⟨o3,m3,rfl⟩:=hrd.2.2.size;obtain ⟨K1,hK1⟩:∃ b,b = K + 2 + 20 * (49 - k):=⟨_,rfl⟩;rw [← hK1] at hD;have HK1:=zaa hK1
  have hK1':K1 ≤ 200000:=by omega
  have HFR:=zaa hfr;by_cases hz:0 < k
  ·have hzi:decide ((0:Int) < (k:Int)) = true:=decide_eq_true (by omega);have HEV:=zaa (zj0 cb K1 _ _ _ _ _ _ p d wr hD.cur (by omega) (hD.plan HPL.out) hrd hfr);have y0:wr.cell? ⟨w.heap.size,0,none⟩ = some (.int .i64 p.sections):=hD.box.cell (i:=0) (by omega);have y1:wr.cell? ⟨w.heap.size,1,none⟩ = some (.slice a1 p.switches.length c1):=hD.box.cell (i:=1) (by omega);have y2:wr.cell? ⟨w.heap.size,2,none⟩ = some (.slice a2 p.ways.length c2):=hD.box.cell (i:=2) (by omega);have y3:wr.cell? ⟨w.heap.size,3,none⟩ = some (.slice a3 p.bars.length c3):=hD.box.cell (i:=3) (by omega);have y4:wr.cell? ⟨w.heap.size,4,none⟩ = some (.int .i64 p.hold):=hD.box.cell (i:=4) (by omega);have x0:wr.cell? ⟨fb,0,none⟩ = some (.bool d.ok):=hD.fbox.cell (i:=0) (by omega);have x1:wr.cell? ⟨fb,1,none⟩ = some (.slice o1 d.occ.length m1):=hD.fbox.cell (i:=1) (by omega);have x2:wr.cell? ⟨fb,2,none⟩ = some (.slice o2 d.points.length m2):=hD.fbox.cell (i:=2) (by omega);have x3:wr.cell? ⟨fb,3,none⟩ = some (.slice o3 d.ways.length m3):=hD.fbox.cell (i:=3) (by omega);have HD:=zaa hD;clear hrd hD hfr hK1 hne
   go_wp2_with fail
   refine HEV.out.mono ?_;clear HEV y0 y1 y2 y3 y4 x0 x1 x2 x3;rintro e w2 ⟨op,of,lie,rfl,-,hc2,hB2⟩;have D2:=HD.out.pick hB2 hc2;have hbn:=zab w2 (.cells #[.int .i64 op,.int .i64 of,.int .i64 lie] 55);have hrn:(w2.alloc (.cells #[.int .i64 op,.int .i64 of,.int .i64 lie] 55)).rowIs w2.heap.size 55 3 (fun i=>(#[.int .i64 op,.int .i64 of,.int .i64 lie]:Array Value)[i]!):=zak w2 55 #[.int .i64 op,.int .i64 of,.int .i64 lie];have HD3:=zaa (D2.call hbn);have HD2:=zaa D2;have HRN:=zaa hrn;have HBN:=zaa hbn;have hcw:cb < w2.heap.size:=Nat.lt_of_lt_of_le hcb D2.but.size;clear hc2 hB2 D2 hbn hrn HD
   go_wp2_with fail
   refine (zap cb (K1 + 10) 30 _ HD3.out.cur (by omega) (by omega)).mono ?_;rintro e w4 ⟨r,rfl,hr,hc4,hB4⟩;have hrow4:=hB4.row HRN.out (by omega);have hBw4:=(But.of_calls (K:=fun c=>c ≠ cb) HBN.out).trans hB4;obtain ⟨eb,heb⟩:∃ b,b = w2.heap.size:=⟨_,rfl⟩;rw [← heb] at hrow4 ⊢;have HEB:=zaa heb;have HROW:=zaa hrow4;have HBW:=zaa hBw4;have HC4:=zaa hc4;clear heb hrow4 hBw4 hc4 hB4 hr HD3 HRN HBN
   go_upto_if 27 with fail
   go_cut [] (fun wc=>∃ op of lie:Int,DrB w cb #[.int .i64 p.sections,.slice a1 p.switches.length c1,.slice a2 p.ways.length c2,.slice a3 p.bars.length c3,.int .i64 p.hold] fb (K1 + 20) wc (.slice a5 ne c5) es d (.slice o1 d.occ.length m1) (.slice o2 d.points.length m2) (.slice o3 d.ways.length m3) ∧ wc.rowIs eb 55 3 (fun i=>(#[.int .i64 op,.int .i64 of,.int .i64 lie]:Array Value)[i]!))
   case first=>
    by_cases hr0:r = 0
    ·subst hr0;have D4:=HD2.out.pick HBW.out HC4.out;have y0:w4.cell? ⟨w.heap.size,0,none⟩ = some (.int .i64 p.sections):=D4.box.cell (i:=0) (by omega);have y1:w4.cell? ⟨w.heap.size,1,none⟩ = some (.slice a1 p.switches.length c1):=D4.box.cell (i:=1) (by omega);have y2:w4.cell? ⟨w.heap.size,2,none⟩ = some (.slice a2 p.ways.length c2):=D4.box.cell (i:=2) (by omega);have y3:w4.cell? ⟨w.heap.size,3,none⟩ = some (.slice a3 p.bars.length c3):=D4.box.cell (i:=3) (by omega);have y4:w4.cell? ⟨w.heap.size,4,none⟩ = some (.int .i64 p.hold):=D4.box.cell (i:=4) (by omega);have HOD:=zaa (zmu cb _ p.sections p.hold a1 a2 a3 p.switches.length p.ways.length p.bars.length c1 c2 c3 w4 HC4.out (by omega));clear D4
     go_wp2_with fail
     refine HOD.out.mono ?_;clear HOD y0 y1 y2 y3 y4;rintro e w5 ⟨op2,of2,lie2,rfl,-,hc5,hB5⟩;have hrow5:=hB5.row HROW.out (by have:=HEB.out; omega);have r0:=hrow5.cell (i:=0) (by omega);have r1:=hrow5.cell (i:=1) (by omega);have r2:=hrow5.cell (i:=2) (by omega);have k0:=hrow5.frozen 0;have k1:=hrow5.frozen 1;have k2:=hrow5.frozen 2;have hk:∀ o:Nat,¬ ((fun c=>c ≠ eb) (⟨eb,o,none⟩:Addr).block):=fun o z=>z rfl;have hBe:=(((But.refl (fun c=>c ≠ eb) w5).setCell (hk 0) (.int .i64 op2)).setCell (hk 1) (.int .i64 of2)).setCell (hk 2) (.int .i64 lie2);have hle:w2.heap.size ≤ eb:=Nat.le_of_eq HEB.out.symm;have hBn:=(((HBW.out.trans hB5).setNew (p:=⟨eb,0,none⟩) hle (.int .i64 op2)).setNew (p:=⟨eb,1,none⟩) hle (.int .i64 of2)).setNew (p:=⟨eb,2,none⟩) hle (.int .i64 lie2);have FIN:=zaa ((HD2.out.pick hBn (hc5.but hBe fun c hc=>by have:=HEB.out; omega)).mono (L:=K1 + 20) (by omega))
     have FRO:Hid (((((w5.setCell ⟨eb,0,none⟩ (.int .i64 op2)).setCell ⟨eb,1,none⟩ (.int .i64 of2)).setCell ⟨eb,2,none⟩ (.int .i64 lie2))).rowIs eb 55 3 (fun i=>(#[.int .i64 op2,.int .i64 of2,.int .i64 lie2]:Array Value)[i]!)):=(((hrow5.set 0 (.int .i64 op2)).set 1 (.int .i64 of2)).set 2 (.int .i64 lie2)).congr fun i hi=>by
      rcases i with _ | _ | _ | i
      ·rfl
      ·rfl
      ·rfl
      ·omega
     clear hc5 hB5 hrow5 hBe hBn;go_wp2;go_meet
     case rel=>exact ⟨op2,of2,lie2,FIN.out,FRO.out⟩
    ·have hr0b:((r:Int) == 0) = false:=by simp; omega
     go_wp2;go_meet
     case rel=>exact ⟨op,of,lie,(HD2.out.pick HBW.out HC4.out).mono (by omega),HROW.out⟩
   case rest=>
    obtain ⟨op',of',lie',hDc,hrow⟩:=hcut;clear HD2 HROW HBW HC4;have HRO:=zaa (znj _ _ _ _ _ _ p d op' of' lie' wc ((hDc.plan HPL.out).keep (zax _ _) fun b hb=>hb.1) (hDc.read.keep (zax _ _) fun b hb=>hb.1) HS.out (zd1 HFR.out));have y0:wc.cell? ⟨w.heap.size,0,none⟩ = some (.int .i64 p.sections):=hDc.box.cell (i:=0) (by omega);have y1:wc.cell? ⟨w.heap.size,1,none⟩ = some (.slice a1 p.switches.length c1):=hDc.box.cell (i:=1) (by omega);have y2:wc.cell? ⟨w.heap.size,2,none⟩ = some (.slice a2 p.ways.length c2):=hDc.box.cell (i:=2) (by omega);have y3:wc.cell? ⟨w.heap.size,3,none⟩ = some (.slice a3 p.bars.length c3):=hDc.box.cell (i:=3) (by omega);have y4:wc.cell? ⟨w.heap.size,4,none⟩ = some (.int .i64 p.hold):=hDc.box.cell (i:=4) (by omega);have x0:wc.cell? ⟨fb,0,none⟩ = some (.bool d.ok):=hDc.fbox.cell (i:=0) (by omega);have x1:wc.cell? ⟨fb,1,none⟩ = some (.slice o1 d.occ.length m1):=hDc.fbox.cell (i:=1) (by omega);have x2:wc.cell? ⟨fb,2,none⟩ = some (.slice o2 d.points.length m2):=hDc.fbox.cell (i:=2) (by omega);have x3:wc.cell? ⟨fb,3,none⟩ = some (.slice o3 d.ways.length m3):=hDc.fbox.cell (i:=3) (by omega);have e0:wc.cell? ⟨eb,0,none⟩ = some (.int .i64 op'):=hrow.cell (i:=0) (by omega);have e1:wc.cell? ⟨eb,1,none⟩ = some (.int .i64 of'):=hrow.cell (i:=1) (by omega);have e2:wc.cell? ⟨eb,2,none⟩ = some (.int .i64 lie'):=hrow.cell (i:=2) (by omega);obtain ⟨X,hX⟩:∃ X,X = zq7 p d op' of' lie':=⟨_,rfl⟩;rw [← hX] at HRO;have HXX:=zaa hX;have HDC:=zaa hDc;have HROW:=zaa hrow;clear hX hDc hrow
    go_wp2_with fail
    refine HRO.out.mono ?_;clear HRO y0 y1 y2 y3 y4 x0 x1 x2 x3 e0 e1 e2;rintro e w7 ⟨n1,n2,n3,rfl,hb7,hm7⟩;obtain ⟨j1,t1,j2,t2,j3,t3,rfl,rfl,rfl⟩:=hm7.slices;have hn8:=zab w7 (.cells #[.int .i64 X.1,.bool X.2.ok,.slice j1 X.2.occ.length t1,.slice j2 X.2.points.length t2,.slice j3 X.2.ways.length t3] 42);have hdb:(w7.alloc (.cells #[.int .i64 X.1,.bool X.2.ok,.slice j1 X.2.occ.length t1,.slice j2 X.2.points.length t2,.slice j3 X.2.ways.length t3] 42)).rowIs w7.heap.size 42 5 (fun i=>(#[.int .i64 X.1,.bool X.2.ok,.slice j1 X.2.occ.length t1,.slice j2 X.2.points.length t2,.slice j3 X.2.ways.length t3]:Array Value)[i]!):=zak w7 42 #[.int .i64 X.1,.bool X.2.ok,.slice j1 X.2.occ.length t1,.slice j2 X.2.points.length t2,.slice j3 X.2.ways.length t3];have hb8:=hb7.trans (hn8.mono hb7.size);have D8:=HDC.out.call hb8;have hrow8:=zah HROW.out hb8;have hm8:=hm7.call hn8;have d0:(w7.alloc (.cells #[.int .i64 X.1,.bool X.2.ok,.slice j1 X.2.occ.length t1,.slice j2 X.2.points.length t2,.slice j3 X.2.ways.length t3] 42)).cell? ⟨w7.heap.size,0,none⟩ = some (.int .i64 X.1):=hdb.cell (i:=0) (by omega);have HD8:=zaa D8;have HROW8:=zaa hrow8;have HM8:=zaa hm8;have HDB:=zaa hdb;have hlw:w.heap.size ≤ wc.heap.size:=HDC.out.but.size;clear hb7 hm7 hn8 hdb hb8 D8 hrow8 hm8 HDC HROW
    go_upto_if 37 with fail
    obtain ⟨Wd,hWd⟩:∃ W,W = w7.alloc (.cells #[.int .i64 X.1,.bool X.2.ok,.slice j1 X.2.occ.length t1,.slice j2 X.2.points.length t2,.slice j3 X.2.ways.length t3] 42):=⟨_,rfl⟩;obtain ⟨db,hdbe⟩:∃ db,db = w7.heap.size:=⟨_,rfl⟩;rw [← hWd] at HD8 HROW8 HM8 HDB ⊢;rw [← hdbe] at HDB ⊢;clear hWd hdbe d0
    go_cut [] (fun wz=>∃ (d':FrameD) (v1 v2 v3:Value),zas p d' ∧ DrB w cb #[.int .i64 p.sections,.slice a1 p.switches.length c1,.slice a2 p.ways.length c2,.slice a3 p.bars.length c3,.int .i64 p.hold] fb (K1 + 20) wz (.slice a5 ne c5) es d' v1 v2 v3 ∧ wz.rowIs eb 55 3 (fun i=>(#[.int .i64 op',.int .i64 of',.int .i64 lie']:Array Value)[i]!))
    case first=>
     by_cases hev:za5 p.sections p.switches.length p.ways.length op' of' lie'
     ·have hX:X = doD p d op' of' lie':=HXX.out.trans (if_pos ⟨HFR.out,hev⟩)
      have hxf:zas p X.2:=by rw [hX]; exact zly HFR.out hev
      have hc1:X.1 ≠ 1:=by rw [hX]; exact zpq _ _ _ _ _
      have hc2:(X.1 != 1) = true:=by simpa using hc1
      have d1:Wd.cell? ⟨db,1,none⟩ = some (.bool X.2.ok):=HDB.out.cell (i:=1) (by omega);have d2:Wd.cell? ⟨db,2,none⟩ = some (.slice j1 X.2.occ.length t1):=HDB.out.cell (i:=2) (by omega);have d3:Wd.cell? ⟨db,3,none⟩ = some (.slice j2 X.2.points.length t2):=HDB.out.cell (i:=3) (by omega);have d4:Wd.cell? ⟨db,4,none⟩ = some (.slice j3 X.2.ways.length t3):=HDB.out.cell (i:=4) (by omega);have hf3:=HD8.out.fbox;have x0:=hf3.cell (i:=0) (by omega);have x1:=hf3.cell (i:=1) (by omega);have x2:=hf3.cell (i:=2) (by omega);have x3:=hf3.cell (i:=3) (by omega);have k0:=hf3.frozen 0;have k1:=hf3.frozen 1;have k2:=hf3.frozen 2;have k3:=hf3.frozen 3;obtain ⟨bo,bp,bw,bb,hF2⟩:=HM8.out.own (ze7 hxf)
      obtain ⟨RP,hBP⟩:=HD8.out.put hF2 fun c hc=>by omega
      have FIN:=zaa RP;have FRO:=zaa (hBP.row HROW8.out (zbb HROW8.out hf3 (by decide)));have HXF:=zaa hxf;clear hX hxf hc1 hf3 hF2 RP hBP hev;go_wp2;go_meet
      case rel=>exact ⟨X.2,_,_,_,HXF.out,FIN.out,FRO.out⟩
     ·have hX:X = (1,zex):=HXX.out.trans (if_neg fun z=>hev z.2)
      have hc2:(X.1 != 1) = false:=by rw [hX]; rfl
      clear hX hev;go_wp2;go_meet
      case rel=>exact ⟨d,_,_,_,HFR.out,HD8.out,HROW8.out⟩
    case rest=>
     obtain ⟨d',v1,v2,v3,hfr',hDz,hrz⟩:=hcut;rename World=>wz;clear HD8 HROW8 HM8 HDB HXX;have e0:wz.cell? ⟨eb,0,none⟩ = some (.int .i64 op'):=hrz.cell (i:=0) (by omega);have e1:wz.cell? ⟨eb,1,none⟩ = some (.int .i64 of'):=hrz.cell (i:=1) (by omega);have e2:wz.cell? ⟨eb,2,none⟩ = some (.int .i64 lie'):=hrz.cell (i:=2) (by omega);have hbz:=zab wz (.cells #[.int .i64 op',.int .i64 of',.int .i64 lie'] 55);have DA:=hDz.call hbz;have SRC:=zaa (zhj wz 55 #[.int .i64 op',.int .i64 of',.int .i64 lie']);have SR2:Hid (1 = 0 ∨ ∃ A,(some (⟨wz.heap.size,0,none⟩:Addr)) = some A ∧ ∀ j u,([.int .i64 op',.int .i64 of',.int .i64 lie']:List Value)[j]? = some u → (wz.alloc (.cells #[.int .i64 op',.int .i64 of',.int .i64 lie'] 55)).cell? (A.add j) = some u):=.inr ⟨_,rfl,SRC.out⟩
     have ONE:Hid (∀ u ∈ ([.int .i64 op',.int .i64 of',.int .i64 lie']:List Value),u.oneCell' = true):=by
      show ∀ u ∈ ([.int .i64 op',.int .i64 of',.int .i64 lie']:List Value),u.oneCell' = true;intro u hu;simp only [List.mem_cons,List.not_mem_nil,or_false] at hu
      rcases hu with h | h | h <;> rw [h] <;> rfl
     have HM7:Hid (ne + 1 ≤ maxLen):=by show ne + 1 ≤ maxLen; unfold maxLen; omega
     have HM8:Hid ((ne + 1) * 24 ≤ 140737488355328):=by show (ne + 1) * 24 ≤ 140737488355328; omega
     have HZ:Hid (w.heap.size + 1 ≤ (wz.alloc (.cells #[.int .i64 op',.int .i64 of',.int .i64 lie'] 55)).heap.size):=DA.box.lt;have OWY:=zaa DA.own;rw [← HNE.out] at OWY;obtain ⟨xs,hxs⟩:∃ xs,xs = zc2 es:=⟨_,rfl⟩;have HXS:=zaa hxs;rw [← hxs] at OWY;have HDA:=zaa DA;have HFR2:=zaa hfr';clear hfr' hDz hrz hbz DA hxs SRC
     go_wp2_with (at_builtin; refine zai rfl _ _ 28 rfl (w.heap.size + 1) 55 (.agg #[.int .i64 0,.int .i64 0,.int .i64 0]) 3 24 Tryz.underlying28 Tryz.infoEvent rfl (by decide) (.slice a5 ne c5) ne xs rfl OWY.out (some ⟨wz.heap.size,0,none⟩) 1 1 [.int .i64 op',.int .i64 of',.int .i64 lie'] rfl rfl SR2.out ONE.out HM7.out HM8.out HZ.out ?_)
     intro u5 w9 hown9 hgr9;obtain ⟨a9,c9,rfl⟩:=zag hown9;rw [HXS.out] at hown9;have FIN:=zaa ((HDA.out.add (x:=(op',of',lie')) hgr9 hown9 (by rw [HNE.out])).mono (L:=K + 2 + 20 * (49 - (k - 1))) (by have:=HK1.out; omega))
     have HLE:Hid ((es ++ [(op',of',lie')]).length + (k - 1) ≤ 49):=by show (es ++ [(op',of',lie')]).length + (k - 1) ≤ 49; have:=HNE.out; rw [List.length_append,List.length_singleton]; omega
     clear hown9 hgr9 OWY SR2 ONE HDA e0 e1 e2;go_wp2;go_roundw
     case rel=>exact ⟨k - 1,_,_,_,_,_,HLE.out,by go_num,HFR2.out,FIN.out⟩
     case measure=>simp [intOf]; omega
  ·have hzi:decide ((0:Int) < (k:Int)) = false:=decide_eq_false (by omega);have HD:=zaa hD;clear hrd hD hfr hK1 hne;go_wp2;go_ret;refine ⟨_,es,rfl,?_,by have:=HNE.out; omega,HD.out.but⟩;have hown:=HD.out.own;rw [← HNE.out] at hown;exact (zqz hown HNE.out).keep (zax _ _) fun c hc=>⟨by have:=hc.1; omega,hc.2⟩
end Go.Proofs.YtdhinkgjiapigaaGreatDoor
namespace Go.Proofs.YtdhinkgjiapigaaGreatDoor
open Go.RowKit Go.Deep
open Classical
set_option maxRecDepth 100000 in
set_option maxHeartbeats 8000000 in
theorem zrf (a:Option Addr) (n c:Nat) (w:World) (hv:Bys (In w) w (.slice a n c) n) (hn:n ≤ 1048576) :
  Calls Tryz.prog 12 #[.slice a n c] w fun e w'=>∃ v1 v2 v3 ve p es,e = .returned (.tuple #[.agg #[.int .i64 p.sections,v1,v2,v3,.int .i64 p.hold],ve]) ∧ Right p ∧ PlanAt (fun c=>w.heap.size ≤ c ∧ c < w'.heap.size) w' v1 v2 v3 p ∧ WaysC (fun c=>w.heap.size ≤ c ∧ c < w'.heap.size) w' v2 p.ways ∧ Evs (fun c=>w.heap.size ≤ c ∧ c < w'.heap.size) w' ve es ∧ es.length ≤ 50 ∧ Below w.heap.size w w':=by
 have T0:=zbc w 27 74 #[.int .i64 0,.slice none 0 0,.slice none 0 0,.slice none 0 0,.int .i64 0] #[.slice a n c,.int .i64 0,.int .u64 0];obtain ⟨W0,hW0⟩:∃ W,W = (w.alloc (.cells #[.int .i64 0,.slice none 0 0,.slice none 0 0,.slice none 0 0,.int .i64 0] 27)).alloc (.cells #[.slice a n c,.int .i64 0,.int .u64 0] 74):=⟨_,rfl⟩;rw [← hW0] at T0;have hc0:Cur W0 (w.heap.size + 1) 0:=⟨a,n,c,0,0,T0.row 1 _ _ rfl,hv.keep (za0 T0.below fun b (hb:b < w.heap.size)=>hb) fun b (hb:b < w.heap.size)=>Nat.lt_succ_of_lt hb,hn,Nat.le_refl _,by decide,by decide⟩;have hr0:=T0.row 0 _ _ rfl;rw [Nat.add_zero] at hr0
 have hz0:w.heap.size + 2 = W0.heap.size:=by rw [hW0,World.size_alloc,World.size_alloc]
 have HPLAN:=zaa (zk7 (w.heap.size + 1) 0 W0 hc0 (by omega));have HT0:=zaa T0;have HR0:=zaa hr0;clear T0 hc0 hr0 hv;go_enter Tryz.func12,Tryz.ntmps12
 go_wp2_with fail
 rw [← hW0];clear hW0;refine HPLAN.out.mono ?_;clear HPLAN;rintro e w2 ⟨v1,v2,v3,p,rfl,hR,hp,hwc,hc2,hB2⟩;obtain ⟨a1,c1,rfl⟩:=hp.1.size;obtain ⟨a2,c2,rfl⟩:=hp.2.1.size;obtain ⟨a3,c3,rfl⟩:=hp.2.2.size;have hr2:=hB2.row HR0.out (by omega);have hbn:=zab w2 (.cells #[.int .i64 p.sections,.slice a1 p.switches.length c1,.slice a2 p.ways.length c2,.slice a3 p.bars.length c3,.int .i64 p.hold] 27);have hrn:(w2.alloc (.cells #[.int .i64 p.sections,.slice a1 p.switches.length c1,.slice a2 p.ways.length c2,.slice a3 p.bars.length c3,.int .i64 p.hold] 27)).rowIs w2.heap.size 27 5 (fun i=>(#[.int .i64 p.sections,.slice a1 p.switches.length c1,.slice a2 p.ways.length c2,.slice a3 p.bars.length c3,.int .i64 p.hold]:Array Value)[i]!):=zak w2 27 #[.int .i64 p.sections,.slice a1 p.switches.length c1,.slice a2 p.ways.length c2,.slice a3 p.bars.length c3,.int .i64 p.hold];have hz2:=hB2.size;have HPP:=zaa hp;have HWC:=zaa hwc;have HRI:=zaa hR;have HC3:=zaa (hc2.but (Q:=fun _=>True) (But.of_calls hbn) fun _ _=>trivial);have HR3:=zaa (zah hr2 hbn);have HRN:=zaa hrn;have HBN:=zaa hbn;have HB2:=zaa hB2;clear hp hwc hR hc2 hB2 hr2 hbn hrn HR0
 go_upto_region 3 with fail
 obtain ⟨W3,hW3⟩:∃ W,W = w2.alloc (.cells #[.int .i64 p.sections,.slice a1 p.switches.length c1,.slice a2 p.ways.length c2,.slice a3 p.bars.length c3,.int .i64 p.hold] 27):=⟨_,rfl⟩;obtain ⟨pb,hpb⟩:∃ b,b = w2.heap.size:=⟨_,rfl⟩;rw [← hW3] at HC3 HR3 HRN HBN ⊢;rw [← hpb] at HRN ⊢;have HPB:=zaa hpb;clear hW3 hpb;have hks:∀ W:World,W.rowIs pb 27 5 (fun i=>(#[.int .i64 p.sections,.slice a1 p.switches.length c1,.slice a2 p.ways.length c2,.slice a3 p.bars.length c3,.int .i64 p.hold]:Array Value)[i]!) → (fun W:World=>W.cell? ⟨pb,0,none⟩ = some (.int .i64 p.sections) ∧ W.cell? ⟨pb,1,none⟩ = some (.slice a1 p.switches.length c1) ∧ W.cell? ⟨pb,2,none⟩ = some (.slice a2 p.ways.length c2) ∧ W.cell? ⟨pb,3,none⟩ = some (.slice a3 p.bars.length c3) ∧ W.cell? ⟨pb,4,none⟩ = some (.int .i64 p.hold)) W:=fun W h=>⟨h.cell (i:=0) (by omega),h.cell (i:=1) (by omega),h.cell (i:=2) (by omega),h.cell (i:=3) (by omega),h.cell (i:=4) (by omega)⟩;have KS:=zaa hks;clear hks;refine zct (S:=fun W=>W.cell? ⟨pb,0,none⟩ = some (.int .i64 p.sections) ∧ W.cell? ⟨pb,1,none⟩ = some (.slice a1 p.switches.length c1) ∧ W.cell? ⟨pb,2,none⟩ = some (.slice a2 p.ways.length c2) ∧ W.cell? ⟨pb,3,none⟩ = some (.slice a3 p.bars.length c3) ∧ W.cell? ⟨pb,4,none⟩ = some (.int .i64 p.hold)) 5 (by kernel_rfl) (KS.out _ (zah HRN.out (zaf _))) (fun hS=>?_);have hbd:=zaf W3;obtain ⟨wA,hwA⟩:∃ W,W = W3.drew:=⟨_,rfl⟩;rw [← hwA] at hS hbd ⊢;clear hwA;have hBA:But (fun c=>c ≠ w.heap.size + 1) w2 wA:=But.of_calls (HBN.out.trans (hbd.mono HBN.out.size));have hpA:=HPP.out.keep (Q:=fun b=>b < wA.heap.size ∧ b ≠ w.heap.size + 1) (hBA.same fun b hb=>⟨hb.2,by omega⟩) fun b hb=>⟨Nat.lt_of_lt_of_le hb.2 hBA.size,by omega⟩;have HRUN:=zaa (zol (w.heap.size + 1) (0 + 1000) 50 _ _ _ p wA (HC3.out.but (Q:=fun _=>True) (But.of_calls hbd) fun _ _=>trivial) (by omega) (by omega) hpA HRI.out);have HRA:=zaa (zah HR3.out hbd);have HNA:=zaa (zah HRN.out hbd);have HBA:=zaa hBA;clear hbd hBA hpA;refine tkL (v:=?vd0) At.z (by kernel_rfl) (fun _ _ _ h=>h) rfl ?hd0 hS ?_
 case hd0=>intro _ s;(try dsimp only at s);go_simp;try with_reducible rfl
 try simp only [Act.put,sA,sB,sC]
 refine tkL (v:=?vd1) At.z.s (by kernel_rfl) (fun _ _ _ h=>h) rfl ?hd1 hS ?_
 case hd1=>intro _ s;(try dsimp only at s);go_simp;try with_reducible rfl
 try simp only [Act.put,sA,sB,sC]
 refine tkL (v:=?vd2) At.z.s.s (by kernel_rfl) (fun _ _ _ h=>h) rfl ?hd2 hS ?_
 case hd2=>intro _ s;(try dsimp only at s);go_simp;try with_reducible rfl
 try simp only [Act.put,sA,sB,sC]
 clear hS;refine zbk (i:=3) At.z.s.s.s (by kernel_rfl) (fun K1 hK1=>?_);go_simp;refine HRUN.out.mono ?_;rintro e w5 ⟨ve,es,rfl,hes,hel,hB5⟩;have hn5:=hB5.row HNA.out (by have:=HPB.out; omega);refine hK1.out _ _ (KS.out _ hn5) ?_;have HES:=zaa hes;have HN5:=zaa hn5;have HB5:=zaa hB5;have hr5:=hB5.row HRA.out (by omega);clear hK1 K1 HRUN hes hn5 hB5
 try simp only [Act.put,sA,sB,sC]
 refine zbk (i:=4) At.z.s.s.s.s (by kernel_rfl) (fun K1 hK1=>?_);have r0:=hr5.cell (i:=0) (by show 0 < 5; omega);have r1:=hr5.cell (i:=1) (by show 1 < 5; omega);have r2:=hr5.cell (i:=2) (by show 2 < 5; omega);have r3:=hr5.cell (i:=3) (by show 3 < 5; omega);have r4:=hr5.cell (i:=4) (by show 4 < 5; omega);have k0:=hr5.frozen 0;have k1:=hr5.frozen 1;have k2:=hr5.frozen 2;have k3:=hr5.frozen 3;have k4:=hr5.frozen 4;have hk:∀ o:Nat,¬ ((fun c=>c ≠ w.heap.size) (⟨w.heap.size,o,none⟩:Addr).block):=fun o z=>z rfl;obtain ⟨WE,hWE⟩:∃ W,W = ((((w5.setCell ⟨w.heap.size,0,none⟩ (.int .i64 p.sections)).setCell ⟨w.heap.size,1,none⟩ (.slice a1 p.switches.length c1)).setCell ⟨w.heap.size,2,none⟩ (.slice a2 p.ways.length c2)).setCell ⟨w.heap.size,3,none⟩ (.slice a3 p.bars.length c3)).setCell ⟨w.heap.size,4,none⟩ (.int .i64 p.hold):=⟨_,rfl⟩
 have hBE:But (fun c=>c ≠ w.heap.size) w5 WE:=by
  rw [hWE];exact (((((But.refl (fun c=>c ≠ w.heap.size) w5).setCell (hk 0) _).setCell (hk 1) _).setCell (hk 2) _).setCell (hk 3) _).setCell (hk 4) _
 have hrE:WE.rowIs w.heap.size 27 5 (fun i=>(#[.int .i64 p.sections,.slice a1 p.switches.length c1,.slice a2 p.ways.length c2,.slice a3 p.bars.length c3,.int .i64 p.hold]:Array Value)[i]!):=by
  rw [hWE];refine (((((hr5.set 0 _).set 1 _).set 2 _).set 3 _).set 4 _).congr fun i hi=>?_;rcases i with _ | _ | _ | _ | _ | i
  ·rfl
  ·rfl
  ·rfl
  ·rfl
  ·rfl
  ·exact absurd hi (by show ¬ i + 1 + 1 + 1 + 1 + 1 < 5; omega)
 go_simp;rw [← hWE];refine hK1.out _ _ (KS.out _ (hBE.row HN5.out (by have:=HPB.out; omega))) ?_;clear hK1 K1 hWE r0 r1 r2 r3 r4 k0 k1 k2 k3 k4 hr5
 try simp only [Act.put,sA,sB,sC]
 have HBE:=zaa hBE;have e0:WE.cell? ⟨w.heap.size,0,none⟩ = some (.int .i64 p.sections):=hrE.cell (i:=0) (by omega);have e1:WE.cell? ⟨w.heap.size,1,none⟩ = some (.slice a1 p.switches.length c1):=hrE.cell (i:=1) (by omega);have e2:WE.cell? ⟨w.heap.size,2,none⟩ = some (.slice a2 p.ways.length c2):=hrE.cell (i:=2) (by omega);have e3:WE.cell? ⟨w.heap.size,3,none⟩ = some (.slice a3 p.bars.length c3):=hrE.cell (i:=3) (by omega);have e4:WE.cell? ⟨w.heap.size,4,none⟩ = some (.int .i64 p.hold):=hrE.cell (i:=4) (by omega);clear hBE hrE;refine zf1 At.z.s.s.s.s.s (by kernel_rfl) (by kernel_rfl) (fun K1 hK1=>?_);go_simp;refine hK1.out _ _ ?_;clear hK1 K1
 try simp only [Act.put,sA,sB,sC]
 go_wp2;refine bodyPost_ret (v:=.tuple #[.agg #[.int .i64 p.sections,.slice a1 p.switches.length c1,.slice a2 p.ways.length c2,.slice a3 p.bars.length c3,.int .i64 p.hold],ve]) (by simp [results,Tryz.results12,go_sem,e0,e1,e2,e3,e4]) rfl ?_;have hz5:=HB5.out.size;have hzE:=HBE.out.size;have hzA:=HBA.out.size;have hB1:But (fun c=>c ≠ w.heap.size + 1 ∧ c ≠ w.heap.size) w2 WE:=((HBA.out.trans HB5.out).mono fun c _ hc=>hc.1).trans (HBE.out.mono fun c _ hc=>hc.2);have hin:∀ b,W0.heap.size ≤ b ∧ b < w2.heap.size → w.heap.size ≤ b ∧ b < WE.heap.size:=fun b hb=>⟨by omega,by omega⟩;have hsm:Same (fun b=>W0.heap.size ≤ b ∧ b < w2.heap.size) w2 WE:=hB1.same fun b hb=>⟨hb.2,by omega⟩;refine ⟨_,_,_,ve,p,rfl,HRI.out,HPP.out.keep hsm hin,HWC.out.keep hsm hin,es,HES.out.keep (HBE.out.same fun b hb=>⟨hb.2,by omega⟩) fun b hb=>⟨by omega,by omega⟩,hel,?_⟩;exact HT0.out.below.trans (((HB2.out.mono (L:=fun c=>c ≠ w.heap.size + 1 ∧ c ≠ w.heap.size) fun c _ hc=>hc.1).trans hB1).below HT0.out.below.size fun c hc=>by omega)
end Go.Proofs.YtdhinkgjiapigaaGreatDoor

import Derived.Test.YtdhinkgjiapigabGreatDoorLocksA
import Derived.Test.YtdhinkgjiapigabGreatDoorSpec7
import Derived.Test.YtdhinkgjiapigabGreatDoorWhyS
import Derived.Laws.Concat
import Derived.Deep.DeepCutAuto
namespace Go.Proofs.YtdhinkgjiapigabGreatDoor
open Go.RowKit Go.Deep
open Classical
def tx (l:List UInt8):ByteArray:=⟨l.toArray⟩
theorem zyo (l m:List UInt8):tx l ++ tx m = tx (l ++ m):=by unfold tx; rw [ByteArray.mk_append_mk]
theorem zx3 (l:List UInt8):(tx l).size = l.length:=by unfold tx; simp [ByteArray.size]
theorem zyk {a b:List UInt8} (h:a = b):Ending.returned (.string (tx a)) = .returned (.string (tx b)):=by rw [h]
def hasB (p:PlanD) (d:FrameD) (i:Nat) (s:Int):Bool:=match p.ways[i]?,d.ways[i]? with
 | some x,some h=>zb7 x h s
 | _,_=>false
def zz5 (p:PlanD) (d:FrameD) (s:Int) (n:Nat):Bool:=(List.range n).any fun i=>hasB p d i s
theorem anyB_succ (p:PlanD) (d:FrameD) (s:Int) (n:Nat):zz5 p d s (n + 1) = (zz5 p d s n || hasB p d n s):=by unfold zz5; rw [List.range_succ,List.any_append]; simp
def secC (p:PlanD) (d:FrameD) (s:Nat):UInt8:=if d.occ.getD s false = true then 35 else if zz5 p d (s:Int) p.ways.length = true then 61 else 46
def lieC (x:Int × Int):UInt8:=if x.2 = x.1 then (if x.2 = 1 then 60 else 62) else 63
def ptC (p:PlanD) (d:FrameD) (k:Nat):List UInt8:=lieC (d.points.getD k (0,0)) :: if 0 < (zbn p d (k:Int)).length then [33] else []
def wayC (s:Int):UInt8:=if s = 0 then 45 else if s = 1 then 115 else if s = 2 then 67 else if s = 3 then 116 else 117
def zxz (p:PlanD) (d:FrameD) (n:Nat):List UInt8:=(List.range n).map (secC p d)
def zyw (p:PlanD) (d:FrameD) (n:Nat):List UInt8:=(List.range n).flatMap (ptC p d)
def zzd (d:FrameD) (n:Nat):List UInt8:=(List.range n).map fun i=>wayC ((d.ways[i]?.map fun h=>h.state).getD 0)
def zya (p:PlanD) (d:FrameD):List UInt8:=zxz p d d.occ.length ++ [32] ++ zyw p d d.points.length ++ [32] ++ zzd d d.ways.length
theorem zx4 (p:PlanD) (d:FrameD) (n:Nat):zxz p d (n + 1) = zxz p d n ++ [secC p d n]:=by unfold zxz; rw [List.range_succ,List.map_append]; rfl
theorem zx5 (p:PlanD) (d:FrameD) (n:Nat):zyw p d (n + 1) = zyw p d n ++ ptC p d n:=by unfold zyw; rw [List.range_succ,List.flatMap_append]; simp
theorem zzn (d:FrameD) (n:Nat):zzd d (n + 1) = zzd d n ++ [wayC ((d.ways[n]?.map fun h=>h.state).getD 0)]:=by unfold zzd; rw [List.range_succ,List.map_append]; rfl
theorem zx0 (p:PlanD) (d:FrameD) (n:Nat):(zxz p d n).length = n:=by unfold zxz; simp
theorem zz6 (d:FrameD) (n:Nat):(zzd d n).length = n:=by unfold zzd; simp
theorem ptC_len (p:PlanD) (d:FrameD) (k:Nat):(ptC p d k).length ≤ 2:=by
 unfold ptC;split
 ·exact Nat.le_refl _
 ·show 1 ≤ 2;omega
theorem zyh (p:PlanD) (d:FrameD):∀ n,(zyw p d n).length ≤ 2 * n
 | 0=>Nat.le_refl _
 | n + 1=>by
  rw [zx5,List.length_append]
  have:=zyh p d n
  have:=ptC_len p d n
  omega
set_option maxRecDepth 100000 in
set_option maxHeartbeats 900000 in
theorem zzs (p1 p2 p3 f1 f2 f3:Value) (p:PlanD) (d:FrameD) (w:World) (hp:PlanAt (In w) w p1 p2 p3 p) (hf:FrameAt (In w) w f1 f2 f3 d) (hs:p.Small 1048576) (hR:zas p d) :
  Calls Tryz.prog 121 #[.agg #[.int .i64 p.sections,p1,p2,p3,.int .i64 p.hold],.agg #[.bool d.ok,f1,f2,f3]] w fun e w'=>e = .returned (.string (tx (zya p d))) ∧ Below w.heap.size w w':=by
 have T0:=zbc w 37 42 #[.int .i64 p.sections,p1,p2,p3,.int .i64 p.hold] #[.bool d.ok,f1,f2,f3];have KP:=zaa fun (W:World) (h:Below w.heap.size w W)=>hp.keep (Q:=In W) (In.keep h).1 (In.keep h).2;have KF:=zaa fun (W:World) (h:Below w.heap.size w W)=>hf.keep (Q:=In W) (In.keep h).1 (In.keep h).2;obtain ⟨a1,c1,rfl⟩:=hp.1.size;obtain ⟨a2,c2,rfl⟩:=hp.2.1.size;obtain ⟨a3,c3,rfl⟩:=hp.2.2.size;obtain ⟨o1,m1,rfl⟩:=hf.1.size;obtain ⟨o2,m2,rfl⟩:=hf.2.1.size;obtain ⟨o3,m3,rfl⟩:=hf.2.2.size;obtain ⟨no,hno⟩:∃ n,n = d.occ.length:=⟨_,rfl⟩;obtain ⟨nq,hnq⟩:∃ n,n = d.points.length:=⟨_,rfl⟩;obtain ⟨nw,hnw⟩:∃ n,n = p.ways.length:=⟨_,rfl⟩;have hdw:d.ways.length = p.ways.length:=hR.2.2.2.2.1;have hps:d.points.length = p.switches.length:=hR.2.2.2.1
 have hb1:no ≤ 100:=by rw [hno]; have h1:=hR.2.2.1; have h2:p.sections ≤ 60:=hR.1.parts.1.1.2; omega
 have hb2:nq ≤ 100:=by rw [hnq,hps]; have:=hR.1.parts.1.2.1; omega
 have hb3:nw ≤ 100:=by rw [hnw]; exact hR.1.parts.1.2.2.1
 rw [← hno,← hnq,hdw,← hnw] at T0;rw [← hnw] at KP;rw [← hno,← hnq,hdw,← hnw] at KF;have HS:=zaa hs;have HR:=zaa hR;have HNO:=zaa hno;have HNQ:=zaa hnq;have HNW:=zaa hnw;have HDW:=zaa hdw;have HPS:=zaa hps;rw [← hno,← hnq,hdw,← hnw];clear hp hf hs hR hno hnq hnw hdw hps;have e1:=T0.cell (j:=1) (i:=1) rfl rfl;have HT0:=zaa T0;clear T0;go_enter Tryz.func121,Tryz.ntmps121;go_wp2;clear e1
 go_loopw [5,17] (fun o z wr=>∃ k:Nat,k ≤ no ∧ z = .int .i64 (k:Int) ∧ o = .string (tx (zxz p d k)) ∧ Boxes w [(37,#[.int .i64 p.sections,.slice a1 p.switches.length c1,.slice a2 nw c2,.slice a3 p.bars.length c3,.int .i64 p.hold]),(42,#[.bool d.ok,.slice o1 no m1,.slice o2 nq m2,.slice o3 nw m3])] wr) (fun _ z _=>no - (intOf z).toNat)
 case atStart=>exact ⟨0,Nat.zero_le _,rfl,rfl,HT0.out⟩
 case round=>
  obtain ⟨k,hk,rfl,rfl,hT⟩:=hrel;rename World=>wo;clear HT0;by_cases hlt:k < no
  ·have hlti:decide ((k:Int) < (no:Int)) = true:=decide_eq_true (by omega)
   have hkI:(k:Int) < (no:Int):=by omega
   have b2:=hT.cell (j:=0) (i:=2) rfl rfl;rw [Nat.add_zero] at b2;have HT:=zaa hT;clear hT;go_wp2;clear b2
   go_loopw [7,23] (fun c z wk=>∃ (i:Nat) (cb:ByteArray),i ≤ nw ∧ z = .int .i64 (i:Int) ∧ c = .string cb ∧ cb = tx [if zz5 p d (k:Int) i = true then 61 else 46] ∧ Boxes w [(37,#[.int .i64 p.sections,.slice a1 p.switches.length c1,.slice a2 nw c2,.slice a3 p.bars.length c3,.int .i64 p.hold]),(42,#[.bool d.ok,.slice o1 no m1,.slice o2 nq m2,.slice o3 nw m3])] wk) (fun _ z _=>nw - (intOf z).toNat)
   case atStart=>exact ⟨0,_,Nat.zero_le _,rfl,rfl,rfl,HT.out⟩
   case round=>
    obtain ⟨i,cb,hi,rfl,rfl,hcb,hT⟩:=hrel;rename World=>wk;clear HT;by_cases hlt2:i < nw
    ·have hlt2i:decide ((i:Int) < (nw:Int)) = true:=decide_eq_true (by omega);obtain ⟨x,hx⟩:=zb4 p.ways (show i < p.ways.length by have:=HNW.out; omega);obtain ⟨h,hh⟩:=zb4 d.ways (show i < d.ways.length by have:=HNW.out; have:=HDW.out; omega);have hgo:0 ≤ h.gone:=(HR.out.2.2.2.2.2.2.1 i (List.getElem?_eq_some_iff.1 hh).1 x h hx hh).1.2.2.1.1;have HL:=zaa (zlh (.int .i64 p.sections) (.int .i64 p.hold) (.bool d.ok) (.slice a1 p.switches.length c1) _ (.slice a3 p.bars.length c3) (.slice o1 no m1) (.slice o2 nq m2) _ p.ways d.ways i x h (k:Int) wk (KP.out _ hT.below).2.1 (KF.out _ hT.below).2.2 hx hh (by have:=HNW.out; omega) (by have:=HNW.out; have:=HDW.out; omega) (HS.out.2.2.1 x (List.mem_of_getElem? hx)).1 hgo)
     have hst:zz5 p d (k:Int) (i + 1) = (zz5 p d (k:Int) i || zb7 x h (k:Int)):=by rw [anyB_succ]; unfold hasB; rw [hx,hh]
     have HST:=zaa hst;have HCB:=zaa hcb;have b0:=hT.cell (j:=0) (i:=0) rfl rfl;have b1:=hT.cell (j:=0) (i:=1) rfl rfl;have b2:=hT.cell (j:=0) (i:=2) rfl rfl;have b3:=hT.cell (j:=0) (i:=3) rfl rfl;have b4:=hT.cell (j:=0) (i:=4) rfl rfl;have q0:=hT.cell (j:=1) (i:=0) rfl rfl;have q1:=hT.cell (j:=1) (i:=1) rfl rfl;have q2:=hT.cell (j:=1) (i:=2) rfl rfl;have q3:=hT.cell (j:=1) (i:=3) rfl rfl;rw [Nat.add_zero] at b0 b1 b2 b3 b4;have HT:=zaa hT;clear hT hx hh hgo hst hcb
     go_wp2_with fail
     refine HL.out.mono ?_;rintro e w3 ⟨rfl,hb3⟩;have HT3:=zaa (HT.out.call hb3);clear b0 b1 b2 b3 b4 q0 q1 q2 q3 hb3 HL HT
     cases hh1:zb7 x h (k:Int)
     ·have FIN:Hid (cb = tx [if zz5 p d (k:Int) (i + 1) = true then 61 else 46]):=by show cb = _; rw [HST.out,hh1,Bool.or_false]; exact HCB.out
      clear hh1;go_wp2;go_roundw
      case rel=>exact ⟨i + 1,cb,by omega,by go_num,rfl,FIN.out,HT3.out⟩
      case measure=>simp [intOf]; omega
     ·have FIN:Hid (tx [61] = tx [if zz5 p d (k:Int) (i + 1) = true then 61 else 46]):=by show tx [61] = _; rw [HST.out,hh1,Bool.or_true]; rfl
      clear hh1;go_wp2;go_roundw
      case rel=>exact ⟨i + 1,_,by omega,by go_num,rfl,FIN.out,HT3.out⟩
      case measure=>simp [intOf]; omega
    ·have hlt2i:decide ((i:Int) < (nw:Int)) = false:=decide_eq_false (by omega)
     obtain rfl:i = nw:=by omega
     obtain ⟨o,ho⟩:=zb4 d.occ (show k < d.occ.length by have:=HNO.out; omega);obtain ⟨ax,kx,ex,h0 | ⟨bo,oo,rfl,-,hco⟩⟩:=(KF.out _ hT.below).1
     ·have:=HNO.out; omega
     cases ex
     have co:=hco k (by have:=HNO.out; omega) o ho;have q1:=hT.cell (j:=1) (i:=1) rfl rfl
     have hsz:¬ 9223372036854775807 < (tx (zxz p d k)).size + cb.size:=by rw [hcb,zx3,zx3,zx0]; show ¬ _ < k + 1; omega
     have hsz2:¬ 9223372036854775807 < (tx (zxz p d k)).size + 1:=by rw [zx3,zx0]; omega
     have HO:=zaa ho;have HCB:=zaa hcb;have HT:=zaa hT;clear hT hco ho hcb
     cases o
     ·have FIN:Hid (.string (tx (zxz p d k) ++ cb) = Value.string (tx (zxz p d (k + 1)))):=by
       show Value.string (tx (zxz p d k) ++ cb) = _;rw [zx4,← zyo,HCB.out];unfold secC;rw [List.getD_eq_getElem?_getD,HO.out,HNW.out];rfl
      go_wp2;go_roundw
      case rel=>exact ⟨k + 1,by omega,by go_num,FIN.out,HT.out⟩
      case measure=>simp [intOf]; omega
     ·have FIN:Hid (.string (tx (zxz p d k) ++ ⟨#[35]⟩) = Value.string (tx (zxz p d (k + 1)))):=by
       show Value.string (tx (zxz p d k) ++ tx [35]) = _;rw [zx4,zyo];unfold secC;rw [List.getD_eq_getElem?_getD,HO.out];rfl
      go_wp2;go_roundw
      case rel=>exact ⟨k + 1,by omega,by go_num,FIN.out,HT.out⟩
      case measure=>simp [intOf]; omega
  ·have hlti:decide ((k:Int) < (no:Int)) = false:=decide_eq_false (by omega)
   obtain rfl:k = no:=by omega
   have q2:=hT.cell (j:=1) (i:=2) rfl rfl
   have hsz:¬ 9223372036854775807 < (tx (zxz p d k)).size + 1:=by rw [zx3,zx0]; omega
   have HT:=zaa hT
   have HS0:Hid (Value.string (tx (zxz p d k) ++ ⟨#[32]⟩) = .string (tx (zxz p d k ++ [32] ++ zyw p d 0))):=by
    show Value.string (tx (zxz p d k) ++ tx [32]) = _;rw [zyo];show _ = Value.string (tx (zxz p d k ++ [32] ++ []));rw [List.append_nil]
   clear hT;go_wp2;clear q2 hsz
   go_loopw [5,46] (fun o z wr=>∃ k2:Nat,k2 ≤ nq ∧ z = .int .i64 (k2:Int) ∧ o = .string (tx (zxz p d k ++ [32] ++ zyw p d k2)) ∧ Boxes w [(37,#[.int .i64 p.sections,.slice a1 p.switches.length c1,.slice a2 nw c2,.slice a3 p.bars.length c3,.int .i64 p.hold]),(42,#[.bool d.ok,.slice o1 k m1,.slice o2 nq m2,.slice o3 nw m3])] wr) (fun _ z _=>nq - (intOf z).toNat)
   case atStart=>exact ⟨0,Nat.zero_le _,rfl,HS0.out,HT.out⟩
   case round=>
    obtain ⟨k2,hk2,rfl,rfl,hT⟩:=hrel;rename World=>wq;clear HT HS0
    have hln:(zxz p d k ++ [32] ++ zyw p d k2).length ≤ 1000:=by
     rw [List.length_append,List.length_append,zx0];have:=zyh p d k2;show k + 1 + _ ≤ _;omega
    obtain ⟨B2,hB2⟩:∃ B,B = zxz p d k ++ [32] ++ zyw p d k2:=⟨_,rfl⟩;rw [← hB2] at hln ⊢;have HB2:=zaa hB2;clear hB2;by_cases hlt2:k2 < nq
    ·have hlt2i:decide ((k2:Int) < (nq:Int)) = true:=decide_eq_true (by omega)
     have hkI2:(k2:Int) < (nq:Int):=by omega
     obtain ⟨⟨xw,xl⟩,hx⟩:=zb4 d.points (show k2 < d.points.length by have:=HNQ.out; omega);have hpr:=HR.out.2.2.2.2.2.1 k2 _ hx;have hp1:(1:Int) ≤ xw:=hpr.1.1;obtain ⟨xn,rfl⟩:∃ n:Nat,xl = (n:Int):=⟨xl.toNat,by have h2:(0:Int) ≤ xl:=hpr.2.1; omega⟩
     have hp3:xn < 3:=by have h3:(xn:Int) ≤ 2:=hpr.2.2; omega
     obtain ⟨ax,kx,ex,h0 | ⟨bq,oq,hax,-,hcq⟩⟩:=(KF.out _ hT.below).2.1
     ·have:=HNQ.out; omega
     obtain rfl:o2 = some ⟨bq,oq,none⟩:=by cases ex; exact hax
     clear ex hax;obtain ⟨z0,z1⟩:=hcq k2 (by have:=HNQ.out; omega) _ hx;simp only at z0 z1;have q2:=hT.cell (j:=1) (i:=2) rfl rfl;have TB:=zbc wq 90 9 #[.int .i64 xw,.int .i64 (xn:Int)] #[.string ⟨#[63]⟩,.string ⟨#[60]⟩,.string ⟨#[62]⟩];have y0:=TB.cell (j:=0) (i:=0) rfl rfl;have y1:=TB.cell (j:=0) (i:=1) rfl rfl;rw [Nat.add_zero] at y0 y1
     obtain ⟨s0,hs0,hs1⟩:∃ s0:ByteArray,((wq.alloc (.cells #[.int .i64 xw,.int .i64 (xn:Int)] 90)).alloc (.cells #[.string ⟨#[63]⟩,.string ⟨#[60]⟩,.string ⟨#[62]⟩] 9)).cell? ⟨wq.heap.size + 1,xn,none⟩ = some (.string s0) ∧ ((xn:Int) = xw → s0 = tx [lieC (xw,(xn:Int))]):=by
      obtain rfl | rfl | rfl:xn = 0 ∨ xn = 1 ∨ xn = 2:=by omega
      ·exact ⟨_,TB.cell (j:=1) (i:=0) rfl rfl,fun z=>by omega⟩
      ·refine ⟨_,TB.cell (j:=1) (i:=1) rfl rfl,fun z=>?_⟩;subst z;rfl
      ·refine ⟨_,TB.cell (j:=1) (i:=2) rfl rfl,fun z=>?_⟩;subst z;rfl
     have hxn3:(xn:Int) < 3:=by omega
     have HS1:=zaa hs1
     have HS2:Hid ((xn:Int) ≠ xw → tx [63] = tx [lieC (xw,(xn:Int))]):=fun z=>by unfold lieC; rw [if_neg z]
     have HT:=zaa (hT.call TB.below);have HX:=zaa hx;obtain ⟨wB,hwB⟩:∃ W,W = (wq.alloc (.cells #[.int .i64 xw,.int .i64 (xn:Int)] 90)).alloc (.cells #[.string ⟨#[63]⟩,.string ⟨#[60]⟩,.string ⟨#[62]⟩] 9):=⟨_,rfl⟩;have q2':=q2;clear hcq hx hT TB hs1 hpr
     go_upto_if 60 with fail
     rw [← hwB] at HT y0 y1 hs0 ⊢;clear hwB z0 z1 q2 q2' hs0
     go_cut [11] (fun v wc=>v = .string (tx [lieC (xw,(xn:Int))]) ∧ wc = wB)
     case first=>
      by_cases hq:(xn:Int) = xw
      ·have hqb:((xn:Int) != xw) = false:=by simp [hq]
       have FIN:=zaa (HS1.out hq);clear hq;go_wp2;go_meet
       case rel=>exact ⟨by rw [FIN.out],rfl⟩
      ·have hqb:((xn:Int) != xw) = true:=by simp [hq]
       have FIN:=zaa (HS2.out hq);clear hq;go_wp2;go_meet
       case rel=>exact ⟨congrArg Value.string FIN.out,rfl⟩
     case rest=>
      obtain ⟨rfl,hwc⟩:=hcut;have hwc':=hwc.symm;subst hwc';clear hwc y0 y1 HS1 HS2;have b0:=HT.out.cell (j:=0) (i:=0) rfl rfl;have b1:=HT.out.cell (j:=0) (i:=1) rfl rfl;have b2:=HT.out.cell (j:=0) (i:=2) rfl rfl;have b3:=HT.out.cell (j:=0) (i:=3) rfl rfl;have b4:=HT.out.cell (j:=0) (i:=4) rfl rfl;have q0:=HT.out.cell (j:=1) (i:=0) rfl rfl;have q1:=HT.out.cell (j:=1) (i:=1) rfl rfl;have q2:=HT.out.cell (j:=1) (i:=2) rfl rfl;have q3:=HT.out.cell (j:=1) (i:=3) rfl rfl;rw [Nat.add_zero] at b0 b1 b2 b3 b4
      have hgo:∀ (i:Nat) h,d.ways[i]? = some h → 0 ≤ h.gone:=fun i h hh=>by
       obtain ⟨x,hx⟩:=zb4 p.ways (show i < p.ways.length by have:=(List.getElem?_eq_some_iff.1 hh).1; have:=HDW.out; omega);exact (HR.out.2.2.2.2.2.2.1 i (List.getElem?_eq_some_iff.1 hh).1 x h hx hh).1.2.2.1.1
      have HPT:=zaa (zg7 (.int .i64 p.sections) (.int .i64 p.hold) (.bool d.ok) _ _ (.slice a3 p.bars.length c3) (.slice o1 k m1) (.slice (some ⟨bq,oq,none⟩) nq m2) _ p d k2 wB (KP.out _ HT.out.below).1 (KP.out _ HT.out.below).2.1 (KF.out _ HT.out.below).2.2 HDW.out HS.out hgo (by have:=HNQ.out; have:=HPS.out; omega));obtain ⟨cb,hcb⟩:∃ cb,cb = tx [lieC (xw,(xn:Int))]:=⟨_,rfl⟩;rw [← hcb];have HCB:=zaa hcb
      have hc1:cb.size = 1:=by rw [hcb,zx3]; rfl
      clear hgo hcb
      go_wp2_with fail
      refine HPT.out.mono ?_;clear b0 b1 b2 b3 b4 q0 q1 q2 q3 HPT;rintro e w3 ⟨v,rfl,hb3,mm,hown⟩;obtain ⟨av,cv,rfl⟩:=zag hown;have hmm:mm = (zbn p d (k2:Int)).length:=(zb2 hown).1;have HT3:=zaa (HT.out.call hb3)
      have hpt:ptC p d k2 = lieC (xw,(xn:Int)) :: if 0 < mm then [33] else []:=by
       unfold ptC;rw [List.getD_eq_getElem?_getD,HX.out,hmm];rfl
      have HPC:=zaa hpt
      have hsz:¬ 9223372036854775807 < (tx B2).size + cb.size:=by rw [hc1,zx3]; omega
      clear hb3 hown hmm hpt HT;by_cases hm0:0 < mm
      ·have hmi:decide ((0:Int) < (mm:Int)) = true:=decide_eq_true (by omega)
       have hmI:(0:Int) < (mm:Int):=by omega
       have hs3:¬ 9223372036854775807 < cb.size + 1:=by rw [hc1]; omega
       have hs4:¬ 9223372036854775807 < (tx B2).size + (cb.size + 1):=by rw [hc1,zx3]; omega
       have FIN:Hid (Value.string (tx B2 ++ (cb ++ ⟨#[33]⟩)) = .string (tx (zxz p d k ++ [32] ++ zyw p d (k2 + 1)))):=by
        show Value.string (tx B2 ++ (cb ++ tx [33])) = _;rw [HCB.out,zyo,zyo,zx5,HPC.out,if_pos hm0,HB2.out];simp
       clear hc1 hm0;go_wp2;go_roundw
       case rel=>exact ⟨k2 + 1,by omega,by go_num,FIN.out,HT3.out⟩
       case measure=>simp [intOf]; omega
      ·obtain rfl:mm = 0:=by omega
       have FIN:Hid (Value.string (tx B2 ++ cb) = .string (tx (zxz p d k ++ [32] ++ zyw p d (k2 + 1)))):=by
        show Value.string (tx B2 ++ cb) = _;rw [HCB.out,zyo,zx5,HPC.out,if_neg hm0,HB2.out];simp
       clear hc1 hm0;go_wp2;go_roundw
       case rel=>exact ⟨k2 + 1,by omega,by go_num,FIN.out,HT3.out⟩
       case measure=>simp [intOf]; omega
    ·have hlt2i:decide ((k2:Int) < (nq:Int)) = false:=decide_eq_false (by omega)
     obtain rfl:k2 = nq:=by omega
     have q3:=hT.cell (j:=1) (i:=3) rfl rfl
     have hsz:¬ 9223372036854775807 < (tx B2).size + 1:=by rw [zx3]; omega
     have HT:=zaa hT
     have HS0:Hid (Value.string (tx B2 ++ ⟨#[32]⟩) = .string (tx (B2 ++ [32] ++ zzd d 0))):=by
      show Value.string (tx B2 ++ tx [32]) = _;rw [zyo];show _ = Value.string (tx (B2 ++ [32] ++ []));rw [List.append_nil]
     clear hT;go_wp2;clear q3 hsz
     go_loopw [5,78] (fun o z wr=>∃ k3:Nat,k3 ≤ nw ∧ z = .int .i64 (k3:Int) ∧ o = .string (tx (B2 ++ [32] ++ zzd d k3)) ∧ Boxes w [(37,#[.int .i64 p.sections,.slice a1 p.switches.length c1,.slice a2 nw c2,.slice a3 p.bars.length c3,.int .i64 p.hold]),(42,#[.bool d.ok,.slice o1 k m1,.slice o2 k2 m2,.slice o3 nw m3])] wr) (fun _ z _=>nw - (intOf z).toNat)
     case atStart=>exact ⟨0,Nat.zero_le _,rfl,HS0.out,HT.out⟩
     case round=>
      obtain ⟨k3,hk3,rfl,rfl,hT⟩:=hrel;rename World=>wv;clear HT HS0
      have hln3:(B2 ++ [32] ++ zzd d k3).length ≤ 2000:=by
       rw [List.length_append,List.length_append,zz6];show _ + 1 + _ ≤ _;omega
      obtain ⟨B3,hB3⟩:∃ B,B = B2 ++ [32] ++ zzd d k3:=⟨_,rfl⟩;rw [← hB3] at hln3 ⊢;have HB3:=zaa hB3;clear hB3;by_cases hlt3:k3 < nw
      ·have hlt3i:decide ((k3:Int) < (nw:Int)) = true:=decide_eq_true (by omega)
       have hkI3:(k3:Int) < (nw:Int):=by omega
       obtain ⟨h,hh⟩:=zb4 d.ways (show k3 < d.ways.length by have:=HNW.out; have:=HDW.out; omega);obtain ⟨x,hx⟩:=zb4 p.ways (show k3 < p.ways.length by have:=HNW.out; omega);have hst:=(HR.out.2.2.2.2.2.2.1 k3 (List.getElem?_eq_some_iff.1 hh).1 x h hx hh).1.1;obtain ⟨ax,kx,ex,h0 | ⟨bw,ow,hax,-,hcw⟩⟩:=(KF.out _ hT.below).2.2
       ·have:=HNW.out; have:=HDW.out; omega
       obtain rfl:o3 = some ⟨bw,ow,none⟩:=by cases ex; exact hax
       clear ex hax;obtain ⟨vb,hvb,z0,z1,z2,z3,z4⟩:=hcw k3 (by have:=HNW.out; have:=HDW.out; omega) h hh;obtain ⟨ab,kb,rfl⟩:=hvb.size;have q3:=hT.cell (j:=1) (i:=3) rfl rfl;obtain ⟨sn,hsn⟩:∃ n:Nat,h.state = (n:Int):=⟨h.state.toNat,by have h2:(0:Int) ≤ h.state:=hst.1; omega⟩
       have hsn5:sn < 5:=by have h3:h.state ≤ (4:Int):=hst.2; omega
       rw [hsn] at z0;have TB:=zbc wv 93 9 #[.int .i64 (sn:Int),.int .i64 h.gone,.slice ab h.been.length kb,.bool h.shown,.int .i64 h.timer] #[.string ⟨#[45]⟩,.string ⟨#[115]⟩,.string ⟨#[67]⟩,.string ⟨#[116]⟩,.string ⟨#[117]⟩];have y0:=TB.cell (j:=0) (i:=0) rfl rfl;rw [Nat.add_zero] at y0
       obtain ⟨s0,hs0,hs1⟩:∃ s0:ByteArray,((wv.alloc (.cells #[.int .i64 (sn:Int),.int .i64 h.gone,.slice ab h.been.length kb,.bool h.shown,.int .i64 h.timer] 93)).alloc (.cells #[.string ⟨#[45]⟩,.string ⟨#[115]⟩,.string ⟨#[67]⟩,.string ⟨#[116]⟩,.string ⟨#[117]⟩] 9)).cell? ⟨wv.heap.size + 1,sn,none⟩ = some (.string s0) ∧ s0 = tx [wayC (sn:Int)]:=by
        obtain rfl | rfl | rfl | rfl | rfl:sn = 0 ∨ sn = 1 ∨ sn = 2 ∨ sn = 3 ∨ sn = 4:=by omega
        ·exact ⟨_,TB.cell (j:=1) (i:=0) rfl rfl,rfl⟩
        ·exact ⟨_,TB.cell (j:=1) (i:=1) rfl rfl,rfl⟩
        ·exact ⟨_,TB.cell (j:=1) (i:=2) rfl rfl,rfl⟩
        ·exact ⟨_,TB.cell (j:=1) (i:=3) rfl rfl,rfl⟩
        ·exact ⟨_,TB.cell (j:=1) (i:=4) rfl rfl,rfl⟩
       have hsnI:(sn:Int) < 5:=by omega
       have hsz:¬ 9223372036854775807 < (tx B3).size + s0.size:=by rw [hs1,zx3,zx3]; show ¬ _ < _ + 1; omega
       have FIN:Hid (Value.string (tx B3 ++ s0) = .string (tx (B2 ++ [32] ++ zzd d (k3 + 1)))):=by
        show Value.string (tx B3 ++ s0) = _;rw [hs1,zyo,zzn,hh,← List.append_assoc,← HB3.out];show _ = Value.string (tx (B3 ++ [wayC h.state]));rw [hsn]
       have HT:=zaa (hT.call TB.below);clear hcw hvb hT TB hs1 hst hh hx hsn;go_wp2;go_roundw
       case rel=>exact ⟨k3 + 1,by omega,by go_num,FIN.out,HT.out⟩
       case measure=>simp [intOf]; omega
      ·have hlt3i:decide ((k3:Int) < (nw:Int)) = false:=decide_eq_false (by omega)
       obtain rfl:k3 = nw:=by omega
       have FIN:Hid (B3 = zya p d):=by
        show B3 = _;unfold zya;rw [HB3.out,HB2.out,HNO.out,HNQ.out,HDW.out,HNW.out]
       have HT:=zaa hT.below;clear hT;go_wp2;go_ret;exact ⟨zyk FIN.out,HT.out⟩
end Go.Proofs.YtdhinkgjiapigabGreatDoor

import Derived.Shelf.Lay
import Derived.Shelf.Strconv.Itoa3
import Derived.Test.YtdhinkgjiapigabGreatDoorShS
import Derived.Test.YtdhinkgjiapigabGreatDoorShK
import Derived.Test.YtdhinkgjiapigabGreatDoorShL
import Derived.Test.YtdhinkgjiapigabGreatDoorRunS
import Derived.Test.YtdhinkgjiapigabGreatDoorRunSx
import Derived.Test.YtdhinkgjiapigabGreatDoorRunJ
import Derived.Lib.UnsafeStr
import Derived.Deep.DeepCutAuto
import Derived.Test.YtdhinkgjiapigabGreatDoorHeldF
import Derived.Laws.BytesArg
import Derived.Deep.RegionWith
namespace Go.Proofs
open Go.Shelf
shelf_lay Lays.n171 Nm 171 at Tryz as Tryz.lays171
end Go.Proofs
namespace Go.Proofs.YtdhinkgjiapigabGreatDoor
open Go.Shelf Go.RowKit Go.Deep
def codeC (i:Nat):UInt8:=UInt8.ofNat (48 + i)
theorem itoa_any (i:Nat) (hi:i < 10) (w:World):Calls Tryz.prog 126 #[.int .i64 (i:Int)] w fun e w'=>e = .returned (.string (tx [codeC i])) ∧ w' = w:=
 (Any.strconv_Itoa_small Tryz.lays171 i (by omega) w).mono fun e w' ⟨h1,h2⟩=>⟨by rw [h1,Lib.decDigits_one hi]; rfl,h2⟩
end Go.Proofs.YtdhinkgjiapigabGreatDoor
namespace Go.Proofs.YtdhinkgjiapigabGreatDoor
open Go.Shelf Go.RowKit Go.Deep
theorem codeC_toNat {i:Nat} (hi:i < 10):(codeC i).toNat = 48 + i:=by
 unfold codeC;rw [UInt8.toNat_ofNat'];omega
set_option maxRecDepth 100000 in
set_option maxHeartbeats 1000000 in
theorem l4decimal_any (i:Nat) (hi:i < 10) (w:World):Calls Tryz.prog 123 #[.int .i64 (i:Int)] w fun e w'=>e = .returned (.string (tx [codeC i])) ∧ Below w.heap.size w w':=by
 go_enter Tryz.func123,Tryz.ntmps123;by_cases h0:i = 0
 ·subst h0;go_wp2;go_ret;exact ⟨rfl,Below.refl _ _⟩
 ·have h0b:((i:Int) == 0) = false:=by simp; omega
  go_wp2
  go_loopw [0,3] (fun v o wr=>(v = .int .i64 (i:Int) ∧ o = .string ⟨#[]⟩ ∨ v = .int .i64 0 ∧ o = .string (tx [codeC i])) ∧ Below w.heap.size w wr) (fun v _ _=>(intOf v).toNat)
  case atStart=>exact ⟨.inl ⟨rfl,rfl⟩,Below.refl _ _⟩
  case round=>
   obtain ⟨⟨rfl,rfl⟩ | ⟨rfl,rfl⟩,hb⟩:=hrel
   ·have h1:decide ((0:Int) < (i:Int)) = true:=decide_eq_true (by omega)
    have hm:(i:Int) % 10 = (i:Int):=by omega
    have hq:(i:Int) / 10 = 0:=by omega
    go_wp2;rw [show Value.int .u8 (48 + (i:Int)) = .int .u8 ((codeC i).toNat:Int) by rw [codeC_toNat hi]; rfl]
    have hcv:(convert 136 9 (.slice (some ⟨wr.heap.size,0,none⟩) 1 1)).run Tryz.prog (wr.alloc (.cells #[.int .u8 ((codeC i).toNat:Int)] 5)) = .ok (.string (tx [codeC i])) (wr.alloc (.cells #[.int .u8 ((codeC i).toNat:Int)] 5)):=
     run_convert_bytes_back (wr.alloc (.cells #[.int .u8 ((codeC i).toNat:Int)] 5)) 136 9 5 ⟨wr.heap.size,0,none⟩ 1 [codeC i] Tryz.underlying136 Tryz.underlying5 Tryz.underlying9 fun k hk=>by
      obtain rfl:k = 0:=by simpa using hk
      have:=(zaw wr 5 #[.int .u8 ((codeC i).toNat:Int)]).cell (j:=0) (i:=0) rfl rfl;rw [Nat.add_zero] at this;exact this
    rw [hcv];have hb2:=zaa (hb.trans ((zab wr (.cells #[.int .u8 ((codeC i).toNat:Int)] 5)).mono hb.size));simp only [Result.andThen];rw [Oper.upon_value];go_wp2;go_roundw
    case rel=>exact ⟨.inr ⟨rfl,rfl⟩,hb2.out⟩
    case measure=>simp [intOf]; omega
   ·go_wp2;go_ret;exact ⟨rfl,hb⟩
end Go.Proofs.YtdhinkgjiapigabGreatDoor
namespace Go.Proofs.YtdhinkgjiapigabGreatDoor
open Go.Shelf Go.RowKit Go.Deep
theorem strCells_tx (m:List UInt8):Lib.strCells (tx m) = Lib.byteCells m:=rfl
set_option maxRecDepth 100000 in
set_option maxHeartbeats 1000000 in
theorem writeString_any (B b:Nat) (l m:List UInt8) (w:World) (h:BuT B b l w) (hlen:l.length + m.length ≤ 1000000000) (hB:B ≤ w.heap.size) :
  Calls Tryz.prog 125 #[.pointer (some ⟨b,0,none⟩),.string (tx m)] w fun e w'=>e = .returned (.tuple #[.int .i64 m.length,.nilIface]) ∧ BuT B b (l ++ m) w' ∧ Below B w w' ∧ KeepT b w w':=by
 obtain ⟨i0,hi,hz0,hz1,hz2⟩:=info_parts Tryz.Builder_Extra_169.infoByte;have HCC:=zaa (zy5 B b (Lib.byteCells l) w h);obtain ⟨s,hs⟩:∃ s,s = tx m:=⟨_,rfl⟩
 have hsz:s.size = m.length:=by rw [hs,zx3]
 have hsc:Lib.strCells s = Lib.byteCells m:=by rw [hs]; exact strCells_tx m
 rw [← hs];clear h hs;go_enter Tryz.func125,Tryz.ntmps125
 go_wp2_with fail
 refine HCC.out.mono ?_;rintro e w1 ⟨rfl,⟨hBb,v,hbk,hown,hne⟩,hb1,hk1⟩
 have c1:w1.cell? ⟨b,1,none⟩ = some v:=by rw [Lib.cell_of_heap hbk]; rfl
 have hlt:b < w1.heap.size:=(Array.getElem?_eq_some_iff.1 hbk).1;have HSC:=zaa hsc;have HK1:=zaa hk1;have HB1:=zaa hb1;clear hsc hk1 HCC
 go_wp2_with (at_builtin; refine Lib.wpList_append_own_string _ rfl _ _ 136 9 rfl B 5 i0 Tryz.underlying136 Tryz.underlying9 hi hz0 hz1 hz2 _ _ _ rfl hown s rfl ?c3 ?c4 ?c5 ?_)
 case c3=>unfold maxLen; rw [Lib.byteCells_length]; omega
 case c4=>rw [Lib.byteCells_length]; omega
 case c5=>have:=hb1.size; omega
 intro v' w2 hown2 hgr _
 have hb2:w2.heap[b]? = some (.cells #[.pointer (some ⟨b,0,none⟩),v] 140 (0,0)):=by
  rw [hgr.block b hlt (fun e=>hne e.symm)];exact hbk
 have d1:w2.cell? ⟨b,1,none⟩ = some v:=by rw [Lib.cell_of_heap hb2]; rfl
 have f1:w2.frozen? ⟨b,1,none⟩ = false:=Lib.frozen_of_heap hb2 1
 obtain ⟨a6,n6,c6,rfl⟩:∃ a n c,v' = .slice a n c:=by
  rcases hown2.2 with ⟨hv,_⟩ | ⟨g,cap,cur,hv,_⟩
  ·exact ⟨_,_,_,hv⟩
  ·exact ⟨_,_,_,hv⟩
 have FIN:=zaa (Lib.BuilderAt.put (T:=140) (e:=5) hBb hb2 (bs':=Lib.byteCells l ++ Lib.strCells s) (v':=.slice a6 n6 c6) (by simpa [Lib.strCells_length,hsz] using hown2) (by decide))
 have hap:Lib.byteCells l ++ Lib.strCells s = Lib.byteCells (l ++ m):=by rw [HSC.out]; unfold Lib.byteCells; rw [List.map_append]
 rw [hap] at FIN;have FB:Hid (Below B w (w2.setCell ⟨b,1,none⟩ (.slice a6 n6 c6))):=(HB1.out.grown hgr (by have:=HB1.out.size; omega) (fun k hk=>(hown.lt k hk).1)).setCell (p:=⟨b,1,none⟩) hBb _;have FK:Hid (KeepT b w (w2.setCell ⟨b,1,none⟩ (.slice a6 n6 c6))):=(HK1.out.trans (KeepT.grown hown hgr)).trans (KeepT.set b 1 _ _);clear hown2 hgr hb2 hap hown hbk hb1 hne;go_wp2
 go_ret2
 exact ⟨rfl,.inr FIN.out,FB.out,FK.out⟩
end Go.Proofs.YtdhinkgjiapigabGreatDoor
namespace Go.Proofs.YtdhinkgjiapigabGreatDoor
open Go.Shelf Go.RowKit Go.Deep
open Classical
def lineD (p:PlanD) (d:FrameD) (c:Nat):List UInt8:=[codeC c] ++ [32] ++ zya p d ++ [10]
theorem shownD_len {p:PlanD} {d:FrameD} (hR:zas p d):(zya p d).length ≤ 500:=by
 have hno:d.occ.length ≤ 60:=by have h1:=hR.2.2.1; have h2:p.sections ≤ 60:=hR.1.parts.1.1.2; omega
 have hnq:d.points.length ≤ 40:=by rw [hR.2.2.2.1]; have:=hR.1.parts.1.2.1; omega
 have hnw:d.ways.length ≤ 100:=by rw [hR.2.2.2.2.1]; have:=hR.1.parts.1.2.2.1; omega
 have hlp:=zyh p d d.points.length;unfold zya;rw [List.length_append,List.length_append,List.length_append,List.length_append,zx0,zz6];show _ + 1 + _ + 1 + _ ≤ _;omega
def Kept (b:Nat) (w:World) (x:Nat):Prop:=∃ cur t,w.heap[x]? = some (.cells cur t (0,0)) ∧ t ≠ 5 ∧ x ≠ b
theorem Kept.same {b:Nat} {w w':World} (k:KeepT b w w'):Same (Kept b w) w w':=fun x hx o=>by
 obtain ⟨cur,t,h1,h2,h3⟩:=hx
 unfold World.cell?
 rw [show w'.heap[(⟨x,o,none⟩:Addr).block]? = w.heap[(⟨x,o,none⟩:Addr).block]? from (k.block x cur t h1 h2 h3).trans h1.symm]
theorem Kept.on {b:Nat} {w w':World} (k:KeepT b w w') {x:Nat} (h:Kept b w x):Kept b w' x:=by
 obtain ⟨cur,t,h1,h2,h3⟩:=h;exact ⟨cur,t,k.block x cur t h1 h2 h3,h2,h3⟩
theorem Kept.lt {b:Nat} {w:World} {x:Nat} (h:Kept b w x):x < w.heap.size:=by
 obtain ⟨cur,t,h1,-⟩:=h;exact (Array.getElem?_eq_some_iff.1 h1).1
set_option maxRecDepth 100000 in
set_option maxHeartbeats 2000000 in
theorem putLine_any (B b q:Nat) (l:List UInt8) (c:Nat) (p1 p2 p3 f1 f2 f3:Value) (p:PlanD) (d:FrameD) (w:World) (h:BuT B b l w) (hl:l.length ≤ 900000) (hB:B ≤ w.heap.size) (hc:c < 10) (hq:q < B) (hqb:w.rowIs q 37 5 fun i=>#[.int .i64 p.sections,p1,p2,p3,.int .i64 p.hold][i]!)
  (hp:PlanAt (fun c=>c < B) w p1 p2 p3 p) (hcw:WaysC (fun c=>c < B) w p2 p.ways) (hf:FrameAt (Kept b w) w f1 f2 f3 d) (hs:p.Small 1048576) (hd:d.Small 1048576) (hR:zas p d) (hsg:SignsAt w) (hsb : 0 < B) :
  Calls Tryz.prog 124 #[.agg #[.int .i64 (c:Int),.bool d.ok,f1,f2,f3],.pointer (some ⟨b,0,none⟩),.pointer (some ⟨q,0,none⟩)] w fun e w'=>zy4 B b (l ++ lineD p d c) w e w':=by
 have hlt:=h.lt;have hsl:=shownD_len hR;have T0:=zaw w 50 #[.int .i64 (c:Int),.bool d.ok,f1,f2,f3];have hrd:=T0.row 0 _ _ rfl;rw [Nat.add_zero] at hrd;have y0:=T0.cell (j:=0) (i:=0) rfl rfl;rw [Nat.add_zero] at y0;have hb0:Below B w _:=T0.below.mono hB;have hB0:BuT B b l _:=h.call T0.below;have hk0:KeepT b w _:=KeepT.of_calls T0.below;obtain ⟨W0,hW0⟩:∃ W,W = w.alloc (.cells #[.int .i64 (c:Int),.bool d.ok,f1,f2,f3] 50):=⟨_,rfl⟩
 have hz0:W0.heap.size = w.heap.size + 1:=by rw [hW0]; simp
 rw [← hW0] at hrd hb0 hB0 hk0 y0;have HW1:=zaa (writeString_any B b l [codeC c] W0 hB0 (by show _ + 1 ≤ _; omega) (by omega));have KS:=zaa fun (W:World) (k:Below B w W)=>hsg.below k hsb;have KP:=zaa fun (W:World) (k:Below B w W) (z:B ≤ W.heap.size)=>And.intro (hp.keep (Q:=In W) (za0 k fun _ z=>z) fun _ y=>Nat.lt_of_lt_of_le y z) (hcw.keep (Q:=In W) (za0 k fun _ z=>z) fun _ y=>Nat.lt_of_lt_of_le y z);have KF:=zaa fun (W:World) (k:KeepT b w W)=>hf.keep (Q:=In W) (Kept.same k) fun _ y=>(Kept.on k y).lt;have KQ:=zaa fun (W:World) (k:KeepT b w W)=>k.row hqb (by decide) (fun e=>by have:=h.lt; obtain z | z:=h <;> (have:=z.1; omega));have HRD:=zaa hrd;have HB0:=zaa hb0;have HK0:=zaa hk0;have HS:=zaa hs;have HD:=zaa hd;have HR:=zaa hR;clear h hp hcw hf hs hd hR hsg hqb T0 hrd hb0 hk0 hB0;go_enter Tryz.func124,Tryz.ntmps124
 go_upto_region 1 with fail
 rw [← hW0];clear hW0
 go_wp2_with fail
 refine (itoa_any c hc W0).mono ?_;rintro e w1 ⟨rfl,rfl⟩
 go_wp2_with fail
 refine HW1.out.mono ?_;rintro e w2 ⟨rfl,g1,g2,g3⟩;have hb2:Below B w w2:=HB0.out.trans g2;have hk2:KeepT b w w2:=HK0.out.trans g3;have hz2:=hk2.size;have z:w2.cell? ⟨0,12,none⟩ = some (.int .u8 32):=KS.out w2 hb2 12 32 rfl;have HW2:=zaa (zzc B b (Lib.byteCells (l ++ [codeC c])) 32 w2 g1 (by rw [Lib.byteCells_length,List.length_append]; show _ + 1 ≤ _; omega) (by omega));rw [show Lib.byteCells (l ++ [codeC c]) ++ [.int .u8 32] = Lib.byteCells (l ++ [codeC c] ++ [32]) from zyx _ 32] at HW2;have HB2:=zaa hb2;have HK2:=zaa hk2;have HKD:=zaa g3;clear g1 g2 g3 HW1 hb2 hk2 HB0 HK0 y0
 go_wp2_with fail
 refine HW2.out.mono ?_;rintro e w3 ⟨rfl,g1,g2,g3⟩;clear z;have hb3:Below B w w3:=HB2.out.trans g2;have hk3:KeepT b w w3:=HK2.out.trans g3;have hz3:=hk3.size;have hrq:=KQ.out w3 hk3;have hrd:=(HKD.out.trans g3).row HRD.out (by decide) (by omega);have b0:=hrq.cell (i:=0) (by omega);have b1:=hrq.cell (i:=1) (by omega);have b2:=hrq.cell (i:=2) (by omega);have b3:=hrq.cell (i:=3) (by omega);have b4:=hrq.cell (i:=4) (by omega);have e1:=hrd.cell (i:=1) (by show 1 < 5; omega);have e2:=hrd.cell (i:=2) (by show 2 < 5; omega);have e3:=hrd.cell (i:=3) (by show 3 < 5; omega);have e4:=hrd.cell (i:=4) (by show 4 < 5; omega);have hpc:=KP.out w3 hb3 (by omega);have HSH:=zaa (shownI_any _ _ _ _ _ _ p d w3 hpc.1 hpc.2 (KF.out w3 hk3) HS.out HD.out HR.out (KS.out w3 hb3) (by omega));have HG1:=zaa g1;have HB3:=zaa hb3;have HK3:=zaa hk3;clear g1 g2 g3 HW2 hb3 hk3 hrq hrd hpc HB2 HK2 HKD
 go_wp2_with fail
 refine HSH.out.mono ?_;rintro e w4 ⟨rfl,hb4⟩;clear b0 b1 b2 b3 b4 e1 e2 e3 e4;have hz4:=hb4.size;have HW3:=zaa (writeString_any B b (l ++ [codeC c] ++ [32]) (zya p d) w4 (BuT.call HG1.out hb4) (by rw [List.length_append,List.length_append]; show _ + 1 + 1 + _ ≤ _; omega) (by omega));have HB4:=zaa (HB3.out.trans (hb4.mono (by omega)));have HK4:=zaa (HK3.out.trans (KeepT.of_calls (b:=b) hb4));clear hb4 HSH HG1 HB3 HK3
 go_wp2_with fail
 refine HW3.out.mono ?_;rintro e w5 ⟨rfl,g1,g2,g3⟩;have hz5:=g3.size;have HW4:=zaa (zzc B b (Lib.byteCells (l ++ [codeC c] ++ [32] ++ zya p d)) 10 w5 g1 (by rw [Lib.byteCells_length,List.length_append,List.length_append,List.length_append]; show _ + 1 + 1 + _ ≤ _; omega) (by omega));rw [show Lib.byteCells (l ++ [codeC c] ++ [32] ++ zya p d) ++ [.int .u8 10] = Lib.byteCells (l ++ [codeC c] ++ [32] ++ zya p d ++ [10]) from zyx _ 10] at HW4
 have hli:l ++ [codeC c] ++ [32] ++ zya p d ++ [10] = l ++ lineD p d c:=by unfold lineD; simp
 rw [hli] at HW4;have HB5:=zaa (HB4.out.trans g2);have HK5:=zaa (HK4.out.trans g3);clear g1 g2 g3 HW3 hli HB4 HK4
 go_wp2_with fail
 refine HW4.out.mono ?_;rintro e w6 ⟨rfl,g1,g2,g3⟩;have FIN:=zaa (show zy4 B b (l ++ lineD p d c) w (.returned (.tuple #[])) w6 from ⟨rfl,g1,HB5.out.trans g2,HK5.out.trans g3⟩);clear g1 g2 g3 HW4 HB5 HK5;go_wp2
 go_end0
 exact FIN.out
end Go.Proofs.YtdhinkgjiapigabGreatDoor
namespace Go.Proofs.YtdhinkgjiapigabGreatDoor
open Go.Shelf Go.RowKit Go.Deep
open Classical
theorem kept_row {b x t n:Nat} {f:Nat → Value} {W:World} (h:W.rowIs x t n f) (ht:t ≠ 5) (hx:x ≠ b):Kept b W x:=by
 obtain ⟨c,hc,-⟩:=h;exact ⟨c,t,hc,ht,hx⟩
theorem OFrame.kept {P:Nat → Prop} {W:World} {v1 v2 v3:Value} {d:FrameD} {bo bp bw b:Nat} {bb:Nat → Nat} (h:OFrame P W v1 v2 v3 d bo bp bw bb) (hP:∀ c,P c → c ≠ b):OFrame (Kept b W) W v1 v2 v3 d bo bp bw bb:=by
 refine ⟨h.occ,h.points,h.ways,?_,fun z=>?_,fun z=>?_,fun i hi=>?_,h.inj,h.off⟩
 ·obtain ⟨_,_,hq⟩:=h.occ.row;exact kept_row hq (by decide) (hP _ h.po)
 ·obtain ⟨_,_,hq⟩:=h.points.row z;exact kept_row hq (by decide) (hP _ (h.pp z))
 ·obtain ⟨_,_,hq⟩:=h.ways.row z;exact kept_row hq (by decide) (hP _ (h.pw z))
 ·obtain ⟨_,_,hq⟩:=h.ways.been hi;exact kept_row hq (by decide) (hP _ (h.pb i hi))
theorem DonesR.kept {w w':World} {v:Value} {l:List (Int × FrameD)} {b:Nat} (h:DonesR w w' v l) (hb:b < w.heap.size):DonesA (Kept b w') w' v l:=by
 obtain ⟨xs,lo,hown,hd,-,hlow,-⟩:=h;rcases Nat.eq_zero_or_pos l.length with z | z
 ·obtain ⟨a,c,rfl⟩:=zag hown;exact ⟨a,c,rfl,.inl z⟩
 ·obtain ⟨g,cap,f,rfl,hg,hr,hN,hf⟩:=zdt hown z;refine ⟨_,cap,rfl,.inr ⟨g,0,rfl,kept_row hr (by decide) (by omega),fun i hi x hx=>?_⟩⟩;obtain ⟨u1,u2,u3,bo,bp,bw,bb,h0,h1,h2,h3,h4,h5⟩:=hd i x hx;refine ⟨u1,u2,u3,(h5.kept fun c hc e=>by have:=hlow i; have:=hc.1; omega).read,?_⟩;rw [Nat.zero_add,hr.cell (by omega),hr.cell (by omega),hr.cell (by omega),hr.cell (by omega),hr.cell (by omega),hf _ _ h0,hf _ _ h1,hf _ _ h2,hf _ _ h3,hf _ _ h4];exact ⟨rfl,rfl,rfl,rfl,rfl⟩
end Go.Proofs.YtdhinkgjiapigabGreatDoor
namespace Go.Proofs.YtdhinkgjiapigabGreatDoor
open Go.RowKit Go.Deep
open Classical
set_option maxRecDepth 100000 in
set_option maxHeartbeats 2000000 in
theorem zxf (b:Nat) (w:World) (c1:w.cell? ⟨b,1,none⟩ = some (.slice none 0 0)) :
  Calls Tryz.prog 128 #[.pointer (some ⟨b,0,none⟩)] w fun e w'=>e = .returned (.string ⟨#[]⟩) ∧ Below w.heap.size w w':=by
 have hUS:∀ (W:World) (q:Option Addr),(Builtin.unsafeString_ #[201,3] 9 #[.pointer q,.int .i64 0]).run Tryz.prog W = .ok (.string .empty) W:=fun W q=>Lib.run_unsafeString_none W _ _ _ q;have hSD:∀ W:World,(Builtin.unsafeSliceData_ #[136] 201 #[.slice none 0 0]).run Tryz.prog W = .ok (.pointer none) W:=fun _=>rfl;have c2:w.drew.cell? ⟨b,1,none⟩ = some (.slice none 0 0):=c1;go_enter Tryz.func128,Tryz.ntmps128;go_wp2
 go_region
 all_goals (go_wp2; go_ret; exact ⟨rfl,zaf w⟩)
set_option maxRecDepth 100000 in
set_option maxHeartbeats 2000000 in
theorem zw6 (p1 p2 p3 ve:Value) (p:PlanD) (es:List (Int × Int × Int)) (w:World) (hp:PlanAt (In w) w p1 p2 p3 p) (hwc:WaysC (In w) w p2 p.ways) (hev:Evs (In w) w ve es) (hs:p.Small 1048576) (hes:es.length ≤ 1048576) (hg:w.cell? ⟨1,0,none⟩ = some zrv) (hR:¬ Right p) :
  Calls Tryz.prog 57 #[.agg #[.int .i64 p.sections,p1,p2,p3,.int .i64 p.hold],ve] w fun e w'=>e = .returned (.string ⟨#[]⟩) ∧ Below w.heap.size w w':=by
 obtain ⟨a1,c1,rfl⟩:=hp.1.size;obtain ⟨a2,c2,rfl⟩:=hp.2.1.size;obtain ⟨a3,c3,rfl⟩:=hp.2.2.size;obtain ⟨ae,ce,rfl⟩:=hev.size;have T0:=zbc w 37 140 #[.int .i64 p.sections,.slice a1 p.switches.length c1,.slice a2 p.ways.length c2,.slice a3 p.bars.length c3,.int .i64 p.hold] #[.pointer none,.slice none 0 0];have HRUN:=zaa (zqw _ _ _ _ p es _ (hp.keep (In.keep T0.below).1 (In.keep T0.below).2) (hwc.keep (In.keep T0.below).1 (In.keep T0.below).2) (hev.keep (In.keep T0.below).1 (In.keep T0.below).2) hs hes (ck hg T0.below));have b0:=T0.cell (j:=0) (i:=0) rfl rfl;have b1:=T0.cell (j:=0) (i:=1) rfl rfl;have b2:=T0.cell (j:=0) (i:=2) rfl rfl;have b3:=T0.cell (j:=0) (i:=3) rfl rfl;have b4:=T0.cell (j:=0) (i:=4) rfl rfl;rw [Nat.add_zero] at b0 b1 b2 b3 b4;have HT:=zaa T0;have HR:=zaa hR;clear T0 hp hwc hev hg hR;go_enter Tryz.func57,Tryz.ntmps57
 go_wp2_with fail
 refine HRUN.out.mono ?_;rintro e w1 ⟨v,rfl,hb,hd⟩;have hz:zp2 p es = []:=if_neg fun z=>HR.out z.1;rw [hz] at hd;obtain ⟨xs,lo1,hown,-⟩:=hd;obtain ⟨av,cv,rfl⟩:=zag hown;have hT1:=HT.out.call hb;have s1:=hT1.cell (j:=1) (i:=1) rfl rfl;have HT1:=zaa hT1;have HSN:=zaa (zxf (w.heap.size + 1) w1 s1);clear b0 b1 b2 b3 b4 hb hown hz hT1 s1 HRUN HT;go_wp2
 go_loopw [14] (fun z wr=>z = .int .i64 0 ∧ wr = w1) (fun _ _=>0)
 case atStart=>exact ⟨rfl,rfl⟩
 case round=>
  obtain ⟨rfl,hw⟩:=hrel;subst hw
  go_wp2_with fail
  refine HSN.out.mono ?_;rintro e w2 ⟨rfl,hb2⟩;have HB2:=zaa (HT1.out.call hb2).below;clear hb2 HSN HT1;go_wp2;go_ret;exact ⟨rfl,HB2.out⟩
end Go.Proofs.YtdhinkgjiapigabGreatDoor
namespace Go.Proofs.YtdhinkgjiapigabGreatDoor
open Go.Shelf Go.RowKit Go.Deep
open Classical
def linesD (p:PlanD) (l:List (Int × FrameD)) (k:Nat):List UInt8:=(l.take k).flatMap fun x=>lineD p x.2 x.1.toNat
theorem linesD_succ {p:PlanD} {l:List (Int × FrameD)} {k:Nat} {x:Int × FrameD} (h:l[k]? = some x):linesD p l (k + 1) = linesD p l k ++ lineD p x.2 x.1.toNat:=by
 unfold linesD;rw [List.take_add_one,h,List.flatMap_append];simp
def LineR (p:PlanD) (l:List (Int × FrameD)):Prop:=∀ (k:Nat) x,l[k]? = some x → 0 ≤ x.1 ∧ x.1 < 10 ∧ zas p x.2 ∧ x.2.Small 1048576
theorem lineD_len {p:PlanD} {d:FrameD} (hR:zas p d) (c:Nat):(lineD p d c).length ≤ 503:=by
 have:=shownD_len hR;unfold lineD;rw [List.length_append,List.length_append];show 1 + 1 + _ + 1 ≤ _;omega
theorem linesD_len {p:PlanD} {l:List (Int × FrameD)} (h:LineR p l):∀ k,k ≤ l.length → (linesD p l k).length ≤ 503 * k
 | 0,_=>Nat.le_refl _
 | k + 1,hk=>by
  obtain ⟨x,hx⟩:=zb4 l (show k < l.length by omega)
  rw [linesD_succ hx,List.length_append]
  have:=linesD_len h k (by omega)
  have:=lineD_len (h k x hx).2.2.1 x.1.toNat
  omega
set_option maxRecDepth 100000 in
set_option maxHeartbeats 4000000 in
theorem answer_of (p1 p2 p3 ve:Value) (p:PlanD) (es:List (Int × Int × Int)) (w:World) (hp:PlanAt (In w) w p1 p2 p3 p) (hwc:WaysC (In w) w p2 p.ways) (hev:Evs (In w) w ve es) (hs:p.Small 1048576) (hes:es.length ≤ 1048576) (hg:w.cell? ⟨1,0,none⟩ = some zrv) (hsg:SignsAt w) (hsb : 0 < w.heap.size)
  (hL:LineR p (zp2 p es)) (hn:(zp2 p es).length ≤ 1000) (h0:zp2 p es ≠ []) :
  Calls Tryz.prog 57 #[.agg #[.int .i64 p.sections,p1,p2,p3,.int .i64 p.hold],ve] w fun e w'=>e = .returned (.string (tx (linesD p (zp2 p es) (zp2 p es).length))) ∧ Below w.heap.size w w':=by
 obtain ⟨a1,c1,rfl⟩:=hp.1.size;obtain ⟨a2,c2,rfl⟩:=hp.2.1.size;obtain ⟨a3,c3,rfl⟩:=hp.2.2.size;obtain ⟨ae,ce,rfl⟩:=hev.size;have T0:=zbc w 37 140 #[.int .i64 p.sections,.slice a1 p.switches.length c1,.slice a2 p.ways.length c2,.slice a3 p.bars.length c3,.int .i64 p.hold] #[.pointer none,.slice none 0 0];have hfr:=Lib.fresh_isBuilder 140 5 (w.alloc (.cells #[.int .i64 p.sections,.slice a1 p.switches.length c1,.slice a2 p.ways.length c2,.slice a3 p.bars.length c3,.int .i64 p.hold] 37))
 have hs1:(w.alloc (.cells #[.int .i64 p.sections,.slice a1 p.switches.length c1,.slice a2 p.ways.length c2,.slice a3 p.bars.length c3,.int .i64 p.hold] 37)).heap.size = w.heap.size + 1:=by simp
 rw [hs1] at hfr;have HRUN:=zaa (zqw _ _ _ _ p es _ (hp.keep (In.keep T0.below).1 (In.keep T0.below).2) (hwc.keep (In.keep T0.below).1 (In.keep T0.below).2) (hev.keep (In.keep T0.below).1 (In.keep T0.below).2) hs hes (ck hg T0.below));obtain ⟨W1,hW1⟩:∃ W,W = (w.alloc (.cells #[.int .i64 p.sections,.slice a1 p.switches.length c1,.slice a2 p.ways.length c2,.slice a3 p.bars.length c3,.int .i64 p.hold] 37)).alloc (.cells #[.pointer none,.slice none 0 0] 140):=⟨_,rfl⟩
 have hz1:W1.heap.size = w.heap.size + 2:=by rw [hW1]; simp
 rw [← hW1] at T0 hfr HRUN;have hrq:=T0.row 0 _ _ rfl;rw [Nat.add_zero] at hrq;have b0:=T0.cell (j:=0) (i:=0) rfl rfl;have b1:=T0.cell (j:=0) (i:=1) rfl rfl;have b2:=T0.cell (j:=0) (i:=2) rfl rfl;have b3:=T0.cell (j:=0) (i:=3) rfl rfl;have b4:=T0.cell (j:=0) (i:=4) rfl rfl;rw [Nat.add_zero] at b0 b1 b2 b3 b4;have hb1:=T0.below;have KB:=zaa fun (W:World) (k:Below (w.heap.size + 1) W1 W)=>hb1.trans (k.mono (show w.heap.size ≤ w.heap.size + 1 by omega));have KP:=zaa fun (W:World) (k:Below (w.heap.size + 1) W1 W)=>hp.keep (Q:=fun c=>c < w.heap.size + 1) (In.keep (KB.out W k)).1 fun c hc=>Nat.lt_of_lt_of_le (show c < w.heap.size from hc) (by omega);have KC:=zaa fun (W:World) (k:Below (w.heap.size + 1) W1 W)=>hwc.keep (Q:=fun c=>c < w.heap.size + 1) (In.keep (KB.out W k)).1 fun c hc=>Nat.lt_of_lt_of_le (show c < w.heap.size from hc) (by omega);have KS:=zaa fun (W:World) (k:Below (w.heap.size + 1) W1 W)=>hsg.below (KB.out W k) hsb;have HRQ:=zaa hrq;have HS:=zaa hs;obtain ⟨l,hl⟩:∃ l,l = zp2 p es:=⟨_,rfl⟩;rw [← hl] at HRUN hL hn h0 ⊢;obtain ⟨n,hnl⟩:∃ n,n = l.length:=⟨_,rfl⟩;rw [← hnl] at hn ⊢;have HL:=zaa hL;have HNL:=zaa hnl;have H0:=zaa h0;have HFR:=zaa hfr;clear T0 hp hwc hev hg hs hsg hrq hfr hL hl hnl h0 hs1;go_enter Tryz.func57,Tryz.ntmps57
 go_upto_region 3 with fail
 rw [← hW1];clear hW1
 go_wp2_with fail
 refine HRUN.out.mono ?_;rintro e w2 ⟨v,rfl,hb2,hdr⟩;have hda:=hdr.kept (b:=w.heap.size + 1) (by omega);have hbt2:BuT (w.heap.size + 1) (w.heap.size + 1) [] w2:=BuT.call (show BuT (w.heap.size + 1) (w.heap.size + 1) [] W1 from HFR.out) hb2;have HDA:=zaa fun (W:World) (k:KeepT (w.heap.size + 1) w2 W)=>hda.keep (Q:=Kept (w.heap.size + 1) W) (Kept.same k) fun _ z=>Kept.on k z;have HB2:=zaa (hb2.mono (show w.heap.size + 1 ≤ W1.heap.size by omega));have HK2:=zaa (KeepT.of_calls (b:=w.heap.size + 1) hb2);have hz2:=hb2.size;obtain ⟨av,cv,rfl,-⟩:=hda;have hnl:=HNL.out;rw [← hnl] at HDA ⊢;have HBT:=zaa hbt2;clear b0 b1 b2 b3 b4 hb2 hdr hbt2 HRUN HFR hnl;go_wp2
 go_loopw [14] (fun z wr=>∃ k:Nat,k ≤ n ∧ z = .int .i64 (k:Int) ∧ BuT (w.heap.size + 1) (w.heap.size + 1) (linesD p l k) wr ∧ Below (w.heap.size + 1) W1 wr ∧ KeepT (w.heap.size + 1) w2 wr) (fun z _=>n - (intOf z).toNat)
 case atStart=>exact ⟨0,Nat.zero_le _,rfl,HBT.out,HB2.out,KeepT.refl _ _⟩
 case round=>
  obtain ⟨k,hk,rfl,hbt,hbe,hke⟩:=hrel;rename World=>wr;clear HBT HB2;have hzr:=hke.size;by_cases hlt:k < n
  ·have hlti:decide ((k:Int) < (n:Int)) = true:=decide_eq_true (by omega)
   have hkI:(k:Int) < (n:Int):=by omega
   obtain ⟨x,hx⟩:=zb4 l (show k < l.length by have:=HNL.out; omega);obtain ⟨ax,kx,ex,h0 | ⟨bq,oq,hax,hbq,hcq⟩⟩:=HDA.out wr hke
   ·have:=HNL.out; omega
   obtain rfl:av = some ⟨bq,oq,none⟩:=by cases ex; exact hax
   clear ex hax;obtain ⟨u1,u2,u3,hfx,y0,y1,y2,y3,y4⟩:=hcq k (by have:=HNL.out; omega) x hx;obtain ⟨r1,r2,r3,r4⟩:=HL.out k x hx;obtain ⟨cn,hcn⟩:∃ c:Nat,x.1 = (c:Int):=⟨x.1.toNat,by omega⟩;have hlen:=linesD_len HL.out k (by have:=HNL.out; omega);have hstep:=linesD_succ (p:=p) hx;rw [show x.1.toNat = cn by omega] at hstep;rw [hcn] at y0;obtain ⟨o1,m1,rfl⟩:=hfx.1.size;obtain ⟨o2,m2,rfl⟩:=hfx.2.1.size;obtain ⟨o3,m3,rfl⟩:=hfx.2.2.size;have TB:=zaw wr 50 #[.int .i64 (cn:Int),.bool x.2.ok,.slice o1 x.2.occ.length m1,.slice o2 x.2.points.length m2,.slice o3 x.2.ways.length m3];have d0:=TB.cell (j:=0) (i:=0) rfl rfl;have d1:=TB.cell (j:=0) (i:=1) rfl rfl;have d2:=TB.cell (j:=0) (i:=2) rfl rfl;have d3:=TB.cell (j:=0) (i:=3) rfl rfl;have d4:=TB.cell (j:=0) (i:=4) rfl rfl;rw [Nat.add_zero] at d0 d1 d2 d3 d4;have hkb:KeepT (w.heap.size + 1) wr _:=KeepT.of_calls TB.below;have hbb:=hbe.trans (TB.below.mono (show w.heap.size + 1 ≤ wr.heap.size by omega));have HPL:=zaa (putLine_any (w.heap.size + 1) (w.heap.size + 1) w.heap.size (linesD p l k) cn _ _ _ _ _ _ p x.2 _ (BuT.call hbt TB.below) (by omega) (by have:=TB.below.size; omega) (by omega) (by omega) (((HK2.out.trans hke).trans hkb).row HRQ.out (by decide) (by omega)) (KP.out _ hbb) (KC.out _ hbb) (hfx.keep (Kept.same hkb) fun _ z=>Kept.on hkb z) HS.out r4 r3 (KS.out _ hbb) (by omega));rw [← hstep] at HPL;have HBB:=zaa hbb;have HKB:=zaa (hke.trans hkb);clear hbt hbe hke hcq hfx hx hstep r1 r2 r3 r4 TB hkb hbb
   go_wp2_with fail
   refine HPL.out.mono ?_;rintro e w5 ⟨rfl,g1,g2,g3⟩;have FIN:=zaa (show BuT (w.heap.size + 1) (w.heap.size + 1) (linesD p l (k + 1)) w5 ∧ Below (w.heap.size + 1) W1 w5 ∧ KeepT (w.heap.size + 1) w2 w5 from ⟨g1,HBB.out.trans g2,HKB.out.trans g3⟩);clear g1 g2 g3 HPL y0 y1 y2 y3 y4 d0 d1 d2 d3 d4;go_wp2;go_roundw
   case rel=>exact ⟨k + 1,by omega,by go_num,FIN.out⟩
   case measure=>simp [intOf]; omega
  ·have hlti:decide ((k:Int) < (n:Int)) = false:=decide_eq_false (by omega)
   obtain rfl:k = n:=by omega
   obtain ⟨t,ht⟩:∃ t,t = linesD p l k:=⟨_,rfl⟩;rw [← ht] at hbt
   have hne:t ≠ []:=by
    have hk1:k ≠ 0:=fun e=>H0.out (List.length_eq_zero_iff.1 (by have:=HNL.out; omega));obtain ⟨x,hx⟩:=zb4 l (show k - 1 < l.length by have:=HNL.out; omega);rw [ht,show k = k - 1 + 1 by omega,linesD_succ hx];intro e;have:=congrArg List.length e;unfold lineD at this;rw [List.length_append,List.length_append] at this;change _ + (_ + 1) = 0 at this;omega
   have HP6:=zaa (zyp (w.heap.size + 1) (w.heap.size + 1) t wr hbt hne);have HTX:=zaa ht;have HBE:=zaa hbe;clear hbt hbe hke ht hne
   go_wp2_with fail
   refine HP6.out.mono ?_;rintro e w8 ⟨rfl,g1⟩;have FIN:=zaa (KB.out w8 (HBE.out.trans g1));clear g1 HP6 HBE;go_wp2;go_ret;exact ⟨zyk HTX.out,FIN.out⟩
end Go.Proofs.YtdhinkgjiapigabGreatDoor
namespace Go.Proofs.YtdhinkgjiapigabGreatDoor
open Go.RowKit Go.Deep
open Classical
set_option maxRecDepth 100000 in
set_option maxHeartbeats 2000000 in
theorem answerNil_any (p1 p2 p3 ve:Value) (p:PlanD) (es:List (Int × Int × Int)) (w:World) (hp:PlanAt (In w) w p1 p2 p3 p) (hwc:WaysC (In w) w p2 p.ways) (hev:Evs (In w) w ve es) (hs:p.Small 1048576) (hes:es.length ≤ 1048576) (hg:w.cell? ⟨1,0,none⟩ = some zrv) (hz:zp2 p es = []) :
  Calls Tryz.prog 57 #[.agg #[.int .i64 p.sections,p1,p2,p3,.int .i64 p.hold],ve] w fun e w'=>e = .returned (.string ⟨#[]⟩) ∧ Below w.heap.size w w':=by
 obtain ⟨a1,c1,rfl⟩:=hp.1.size;obtain ⟨a2,c2,rfl⟩:=hp.2.1.size;obtain ⟨a3,c3,rfl⟩:=hp.2.2.size;obtain ⟨ae,ce,rfl⟩:=hev.size;have T0:=zbc w 37 140 #[.int .i64 p.sections,.slice a1 p.switches.length c1,.slice a2 p.ways.length c2,.slice a3 p.bars.length c3,.int .i64 p.hold] #[.pointer none,.slice none 0 0];have HRUN:=zaa (zqw _ _ _ _ p es _ (hp.keep (In.keep T0.below).1 (In.keep T0.below).2) (hwc.keep (In.keep T0.below).1 (In.keep T0.below).2) (hev.keep (In.keep T0.below).1 (In.keep T0.below).2) hs hes (ck hg T0.below));have b0:=T0.cell (j:=0) (i:=0) rfl rfl;have b1:=T0.cell (j:=0) (i:=1) rfl rfl;have b2:=T0.cell (j:=0) (i:=2) rfl rfl;have b3:=T0.cell (j:=0) (i:=3) rfl rfl;have b4:=T0.cell (j:=0) (i:=4) rfl rfl;rw [Nat.add_zero] at b0 b1 b2 b3 b4;have HT:=zaa T0;clear T0 hp hwc hev hg;go_enter Tryz.func57,Tryz.ntmps57
 go_wp2_with fail
 refine HRUN.out.mono ?_;rintro e w1 ⟨v,rfl,hb,hd⟩;rw [hz] at hd;obtain ⟨xs,lo1,hown,-⟩:=hd;obtain ⟨av,cv,rfl⟩:=zag hown;have hT1:=HT.out.call hb;have s1:=hT1.cell (j:=1) (i:=1) rfl rfl;have HT1:=zaa hT1;have HSN:=zaa (zxf (w.heap.size + 1) w1 s1);clear b0 b1 b2 b3 b4 hb hown hz hT1 s1 HRUN HT;go_wp2
 go_loopw [14] (fun z wr=>z = .int .i64 0 ∧ wr = w1) (fun _ _=>0)
 case atStart=>exact ⟨rfl,rfl⟩
 case round=>
  obtain ⟨rfl,hw⟩:=hrel;subst hw
  go_wp2_with fail
  refine HSN.out.mono ?_;rintro e w2 ⟨rfl,hb2⟩;have HB2:=zaa (HT1.out.call hb2).below;clear hb2 HSN HT1;go_wp2;go_ret;exact ⟨rfl,HB2.out⟩
end Go.Proofs.YtdhinkgjiapigabGreatDoor
namespace Go.Proofs.YtdhinkgjiapigabGreatDoor
open Go.RowKit Go.Deep
open Classical
def CodeR (c:Int):Prop:=0 ≤ c ∧ c < 10
theorem why_code (ih:Bool) (nb ns:Nat) (lk sk:Bool):CodeR (zph ih nb ns lk sk):=by
 unfold zph CodeR
 repeat' split
 all_goals omega
theorem ask_code (p:PlanD) (d:FrameD) (i:Nat) (x:WayD) (h:HeldD):CodeR (zlx p d i x h).1:=by
 unfold zlx;split
 ·show CodeR 0; unfold CodeR; omega
 ·exact why_code _ _ _ _ _
theorem back_code (p:PlanD) (d:FrameD) (i:Nat) (x:WayD) (h:HeldD):CodeR (zc0 p d i x h).1:=by
 unfold zc0;split
 ·show CodeR 0; unfold CodeR; omega
 ·show CodeR 2; unfold CodeR; omega
theorem move_code (p:PlanD) (d:FrameD) (q:Nat) (lie:Int):CodeR (zen p d q lie).1:=by
 unfold zen;split
 ·show CodeR 2; unfold CodeR; omega
 ·split
  ·show CodeR 3; unfold CodeR; omega
  ·show CodeR 0; unfold CodeR; omega
theorem ev_code (p:PlanD) (d:FrameD) (op of lie:Int):CodeR (evD p d op of lie).1:=by
 have z:CodeR 0:=by unfold CodeR; omega
 unfold evD;split
 ·split
  ·exact ask_code _ _ _ _ _
  ·exact z
 split
 ·split
  ·exact back_code _ _ _ _ _
  ·exact z
 split
 ·exact z
 split
 ·exact z
 split
 ·exact z
 split
 ·exact move_code _ _ _ _
 ·exact z
theorem step_code (p:PlanD) (f:FrameD) (e:Int × Int × Int):CodeR (zdx p f e).1:=by
 unfold zdx;split
 ·exact ev_code _ _ _ _ _
 ·show CodeR 1; unfold CodeR; omega
theorem run_lines (p:PlanD) (es:List (Int × Int × Int)):LineR p (zp2 p es):=by
 unfold zp2;split
 ·rename_i hr
  intro k x hx
  have hi:k < es.length:=by
   have:=(List.getElem?_eq_some_iff.1 hx).1;rw [zq3] at this;exact this
  obtain ⟨e,-,he⟩:=zrp (p:=p) hi;have hc:=step_code p (zfu p es k) e;rw [he] at hx;have hR:zas p x.2:=zrq hr.1 (he.trans hx)
  cases hx
  exact ⟨hc.1,hc.2,hR,zd1 hR⟩
 ·intro k x hx
  cases hx
theorem run_short (p:PlanD) (es:List (Int × Int × Int)):(zp2 p es).length ≤ 1000:=by
 unfold zp2;split
 ·rename_i hr
  rw [zq3];exact hr.2
 ·exact Nat.zero_le _
def answerD (p:PlanD) (es:List (Int × Int × Int)) [Decidable (Right p ∧ es.length ≤ 1000)]:List UInt8:=linesD p (zp2 p es) (zp2 p es).length
theorem implAnswer_any (p1 p2 p3 ve:Value) (p:PlanD) (es:List (Int × Int × Int)) (w:World) (hp:PlanAt (In w) w p1 p2 p3 p) (hwc:WaysC (In w) w p2 p.ways) (hev:Evs (In w) w ve es) (hs:p.Small 1048576) (hes:es.length ≤ 1048576) (hg:w.cell? ⟨1,0,none⟩ = some zrv) (hsg:SignsAt w) (hsb : 0 < w.heap.size) :
  Calls Tryz.prog 57 #[.agg #[.int .i64 p.sections,p1,p2,p3,.int .i64 p.hold],ve] w fun e w'=>e = .returned (.string (tx (answerD p es))) ∧ Below w.heap.size w w':=by
 by_cases h0:zp2 p es = []
 ·refine (answerNil_any p1 p2 p3 ve p es w hp hwc hev hs hes hg h0).mono fun e w' ⟨h1,h2⟩=>⟨?_,h2⟩;rw [h1];unfold answerD;rw [h0];rfl
 ·exact answer_of p1 p2 p3 ve p es w hp hwc hev hs hes hg hsg hsb (run_lines p es) (run_short p es) h0
end Go.Proofs.YtdhinkgjiapigabGreatDoor
namespace Go.Proofs.YtdhinkgjiapigabGreatDoor
open Go.RowKit Go.Deep
open Classical
theorem bytes_text {W:World} {B:Nat} {v:Value} {m:List UInt8} (h:W.ownsRow B 5 1 v m.length (Lib.byteCells m)):(convert 136 9 v).run Tryz.prog W = .ok (.string (tx m)) W:=by
 rcases Nat.eq_zero_or_pos m.length with z | z
 ·obtain rfl:=List.length_eq_zero_iff.1 z;obtain ⟨-,⟨rfl,-⟩ | ⟨g,cap,cur,rfl,-⟩⟩:=h
  ·exact run_convert_bytes_nil (w:=W) 136 5 Tryz.underlying136 Tryz.underlying5 _ _ 9 Tryz.underlying9
  ·exact run_convert_bytes_back W 136 9 5 ⟨g,0,none⟩ cap [] Tryz.underlying136 Tryz.underlying5 Tryz.underlying9 fun j hj=>by cases hj
 ·obtain ⟨g,cap,f,rfl,-,hr,hN,hf⟩:=zdt h z;refine run_convert_bytes_back W 136 9 5 ⟨g,0,none⟩ cap m Tryz.underlying136 Tryz.underlying5 Tryz.underlying9 fun j hj=>?_;rw [show (⟨g,0,none⟩:Addr).add j = ⟨g,j,none⟩ by simp [Addr.add]; omega,hr.cell (by omega),hf j _ (by unfold Lib.byteCells; rw [List.getElem?_map,List.getElem?_eq_getElem hj]; rfl)]
end Go.Proofs.YtdhinkgjiapigabGreatDoor
namespace Go.Proofs.YtdhinkgjiapigabGreatDoor
open Go.RowKit Go.Deep
open Classical
set_option maxRecDepth 100000 in
set_option maxHeartbeats 4000000 in
theorem specAnswer_any (p1 p2 p3 ve:Value) (p:PlanD) (es:List (Int × Int × Int)) (w:World) (hp:PlanAt (In w) w p1 p2 p3 p) (hev:Evs (In w) w ve es) (hs:p.Small 1048576) (hes:es.length ≤ 1048576) :
  Calls Tryz.prog 56 #[.agg #[.int .i64 p.sections,p1,p2,p3,.int .i64 p.hold],ve] w fun e w'=>e = .returned (.string (tx (answerD p es))) ∧ Below w.heap.size w w':=by
 obtain ⟨i0,hi,hz0,hz1,hz2⟩:=info_parts Tryz.Builder_Extra_169.infoByte;obtain ⟨a1,c1,rfl⟩:=hp.1.size;obtain ⟨a2,c2,rfl⟩:=hp.2.1.size;obtain ⟨a3,c3,rfl⟩:=hp.2.2.size;obtain ⟨ae,ce,rfl⟩:=hev.size;have T0:=zaw w 37 #[.int .i64 p.sections,.slice a1 p.switches.length c1,.slice a2 p.ways.length c2,.slice a3 p.bars.length c3,.int .i64 p.hold];have HRUN:=zaa (zwh _ _ _ _ p es _ (hp.keep (In.keep T0.below).1 (In.keep T0.below).2) (hev.keep (In.keep T0.below).1 (In.keep T0.below).2) hs hes);have KP:=zaa fun (W:World) (h:Below w.heap.size w W)=>hp.keep (Q:=In W) (In.keep h).1 (In.keep h).2;have b0:=T0.cell (j:=0) (i:=0) rfl rfl;have b1:=T0.cell (j:=0) (i:=1) rfl rfl;have b2:=T0.cell (j:=0) (i:=2) rfl rfl;have b3:=T0.cell (j:=0) (i:=3) rfl rfl;have b4:=T0.cell (j:=0) (i:=4) rfl rfl;rw [Nat.add_zero] at b0 b1 b2 b3 b4;have hL:=run_lines p es;have hn:=run_short p es;unfold answerD;obtain ⟨l,hl⟩:∃ l,l = zp2 p es:=⟨_,rfl⟩;rw [← hl] at HRUN hL hn ⊢;obtain ⟨n,hnl⟩:∃ n,n = l.length:=⟨_,rfl⟩;rw [← hnl] at hn ⊢;have HL:=zaa hL;have HNL:=zaa hnl;have HS:=zaa hs;have HT:=zaa T0;clear T0 hp hev hs hL hl hnl;go_enter Tryz.func56,Tryz.ntmps56
 go_wp2_with fail
 refine HRUN.out.mono ?_;rintro e w2 ⟨v,rfl,hb2,hdr⟩;have hda:=hdr.read.keep (zax _ _) (Q:=fun c=>c < w2.heap.size) fun _ z=>z.2;have HDA:=zaa fun (W:World) (k:Below w2.heap.size w2 W)=>hda.keep (Q:=fun c=>c < w2.heap.size) (za0 k fun _ z=>z) fun _ z=>z;have T2:=HT.out.call hb2;have HT2:=zaa T2;obtain ⟨av,cv,rfl,-⟩:=hda;have hnl:=HNL.out;rw [← hnl] at HDA ⊢;clear b0 b1 b2 b3 b4 hb2 hdr HRUN HT hnl T2;go_wp2
 go_loopw [5,13] (fun v z wr=>∃ k:Nat,k ≤ n ∧ z = .int .i64 (k:Int) ∧ wr.ownsRow w2.heap.size 5 1 v (linesD p l k).length (Lib.byteCells (linesD p l k)) ∧ Below w2.heap.size w2 wr) (fun _ z _=>n - (intOf z).toNat)
 case atStart=>exact ⟨0,Nat.zero_le _,rfl,World.ownsRow_nil _ _ _ _,Below.refl _ _⟩
 case round=>
  obtain ⟨k,hk,rfl,hown,hbe⟩:=hrel;rename World=>wr;by_cases hlt:k < n
  ·have hlti:decide ((k:Int) < (n:Int)) = true:=decide_eq_true (by omega)
   have hkI:(k:Int) < (n:Int):=by omega
   obtain ⟨x,hx⟩:=zb4 l (show k < l.length by have:=HNL.out; omega);obtain ⟨ax,kx,ex,h0 | ⟨bq,oq,hax,hbq,hcq⟩⟩:=HDA.out wr hbe
   ·have:=HNL.out; omega
   obtain rfl:av = some ⟨bq,oq,none⟩:=by cases ex; exact hax
   clear ex hax;obtain ⟨u1,u2,u3,hfx,y0,y1,y2,y3,y4⟩:=hcq k (by have:=HNL.out; omega) x hx;obtain ⟨r1,r2,r3,r4⟩:=HL.out k x hx;obtain ⟨cn,hcn⟩:∃ c:Nat,x.1 = (c:Int):=⟨x.1.toNat,by omega⟩;have hlen:=linesD_len HL.out k (by have:=HNL.out; omega);have hll:=lineD_len r3 cn;have hstep:=linesD_succ (p:=p) hx;rw [show x.1.toNat = cn by omega] at hstep;rw [hcn] at y0;obtain ⟨o1,m1,rfl⟩:=hfx.1.size;obtain ⟨o2,m2,rfl⟩:=hfx.2.1.size;obtain ⟨o3,m3,rfl⟩:=hfx.2.2.size
   have hc10:cn < 10:=by omega
   have hsl:=shownD_len r3;have TB:=zaw wr 50 #[.int .i64 (cn:Int),.bool x.2.ok,.slice o1 x.2.occ.length m1,.slice o2 x.2.points.length m2,.slice o3 x.2.ways.length m3];have hwb:=hbe.size;obtain ⟨WB,hWB⟩:∃ W,W = wr.alloc (.cells #[.int .i64 (cn:Int),.bool x.2.ok,.slice o1 x.2.occ.length m1,.slice o2 x.2.points.length m2,.slice o3 x.2.ways.length m3] 50):=⟨_,rfl⟩
   have hownB:WB.ownsRow w2.heap.size 5 1 u5 (linesD p l k).length (Lib.byteCells (linesD p l k)):=by rw [hWB]; exact hown.alloc _
   rw [← hWB] at TB;have TP:=(HT2.out.call hbe).call (show Below wr.heap.size wr WB from TB.below);have hzB:=TB.below.size;have KK:=zaa fun (W:World) (h:Below WB.heap.size WB W)=>And.intro (KP.out W (TP.call h).below) (hfx.keep (Q:=In W) (za0 (TB.below.trans (h.mono hzB)) fun c z=>Nat.lt_of_lt_of_le (show c < w2.heap.size from z) hwb) fun c z=>Nat.lt_of_lt_of_le (Nat.lt_of_lt_of_le (show c < w2.heap.size from z) hwb) (Nat.le_trans hzB h.size));have KB:=zaa fun (W:World) (h:Below WB.heap.size WB W)=>And.intro (TP.call h) (TB.call h);have HCUR:=zaa (zaf WB);have HOWN:=zaa hownB;have HR3:=zaa r3;have HBW:=zaa (hbe.trans (TB.below.mono hwb));clear hcq hfx hx r1 r2 r3 r4 hown hbe hownB
   go_upto_region 5 with fail
   rw [← hWB];clear hWB y0 y1 y2 y3 y4
   have s1:¬ 9223372036854775807 < (tx [codeC cn]).size + 1:=by rw [zx3]; show ¬ _ < 1 + 1; omega
   have s2:¬ 9223372036854775807 < (tx [codeC cn]).size + 1 + (tx (zya p x.2)).size:=by rw [zx3,zx3]; show ¬ _ < 1 + 1 + _; omega
   have s3:¬ 9223372036854775807 < (tx [codeC cn]).size + 1 + (tx (zya p x.2)).size + 1:=by rw [zx3,zx3]; show ¬ _ < 1 + 1 + _ + 1; omega
   go_cut [8] (fun v wc=>v = .string (tx (lineD p x.2 cn)) ∧ Below WB.heap.size WB wc)
   case first=>
    have b0:=TP.cell (j:=0) (i:=0) rfl rfl;have e0:=TB.cell (j:=0) (i:=0) rfl rfl;have b1:=TP.cell (j:=0) (i:=1) rfl rfl;have e1:=TB.cell (j:=0) (i:=1) rfl rfl;have b2:=TP.cell (j:=0) (i:=2) rfl rfl;have e2:=TB.cell (j:=0) (i:=2) rfl rfl;have b3:=TP.cell (j:=0) (i:=3) rfl rfl;have e3:=TB.cell (j:=0) (i:=3) rfl rfl;have b4:=TP.cell (j:=0) (i:=4) rfl rfl;have e4:=TB.cell (j:=0) (i:=4) rfl rfl;rw [Nat.add_zero] at b0 e0 b1 e1 b2 e2 b3 e3 b4 e4;clear TP TB
    go_region_with (first | (go_at_call 123; refine (l4decimal_any cn hc10 _).mono ?_; rintro e w3 ⟨rfl,hb3⟩; have HC2:=zaa (HCUR.out.trans (hb3.mono HCUR.out.size)); clear HCUR b0 e0 b1 e1 b2 e2 b3 e3 b4 e4; have HCUR:=HC2; clear HC2 hb3; have b0:=(KB.out _ HCUR.out).1.cell (j:=0) (i:=0) rfl rfl; have e0:=(KB.out _ HCUR.out).2.cell (j:=0) (i:=0) rfl rfl; have b1:=(KB.out _ HCUR.out).1.cell (j:=0) (i:=1) rfl rfl; have e1:=(KB.out _ HCUR.out).2.cell (j:=0) (i:=1) rfl rfl; have b2:=(KB.out _ HCUR.out).1.cell (j:=0) (i:=2) rfl rfl; have e2:=(KB.out _ HCUR.out).2.cell (j:=0) (i:=2) rfl rfl; have b3:=(KB.out _ HCUR.out).1.cell (j:=0) (i:=3) rfl rfl; have e3:=(KB.out _ HCUR.out).2.cell (j:=0) (i:=3) rfl rfl; have b4:=(KB.out _ HCUR.out).1.cell (j:=0) (i:=4) rfl rfl; have e4:=(KB.out _ HCUR.out).2.cell (j:=0) (i:=4) rfl rfl; rw [Nat.add_zero] at b0 e0 b1 e1 b2 e2 b3 e3 b4 e4) | (go_at_call 121; refine (zzs _ _ _ _ _ _ p x.2 _ (KK.out _ HCUR.out).1 (KK.out _ HCUR.out).2 HS.out HR3.out).mono ?_; rintro e w3 ⟨rfl,hb3⟩; have HC2:=zaa (HCUR.out.trans (hb3.mono HCUR.out.size)); clear HCUR b0 e0 b1 e1 b2 e2 b3 e3 b4 e4; have HCUR:=HC2; clear HC2 hb3; have b0:=(KB.out _ HCUR.out).1.cell (j:=0) (i:=0) rfl rfl; have e0:=(KB.out _ HCUR.out).2.cell (j:=0) (i:=0) rfl rfl; have b1:=(KB.out _ HCUR.out).1.cell (j:=0) (i:=1) rfl rfl; have e1:=(KB.out _ HCUR.out).2.cell (j:=0) (i:=1) rfl rfl; have b2:=(KB.out _ HCUR.out).1.cell (j:=0) (i:=2) rfl rfl; have e2:=(KB.out _ HCUR.out).2.cell (j:=0) (i:=2) rfl rfl; have b3:=(KB.out _ HCUR.out).1.cell (j:=0) (i:=3) rfl rfl; have e3:=(KB.out _ HCUR.out).2.cell (j:=0) (i:=3) rfl rfl; have b4:=(KB.out _ HCUR.out).1.cell (j:=0) (i:=4) rfl rfl; have e4:=(KB.out _ HCUR.out).2.cell (j:=0) (i:=4) rfl rfl; rw [Nat.add_zero] at b0 e0 b1 e1 b2 e2 b3 e3 b4 e4))
    all_goals
     go_wp2_with fail
     go_meet;refine ⟨?_,HCUR.out⟩
     first
     | (show Value.string (tx [codeC cn] ++ tx [32] ++ tx (zya p x.2) ++ tx [10]) = _; rw [zyo,zyo,zyo]; rfl)
     | (show Value.string (tx [codeC cn] ++ (tx [32] ++ (tx (zya p x.2) ++ tx [10]))) = _; rw [zyo,zyo,zyo]; unfold lineD; simp)
   case rest=>
    obtain ⟨rfl,hbc⟩:=hcut;have hownC:=za3 (K:=fun _=>True) HOWN.out (But.of_calls hbc) fun _ _=>trivial;have hzC:=hbc.size;obtain ⟨t,ht⟩:∃ t,t = tx (lineD p x.2 cn):=⟨_,rfl⟩;rw [← ht]
    have hts:t.size = (lineD p x.2 cn).length:=by rw [ht,zx3]
    have htc:Lib.strCells t = Lib.byteCells (lineD p x.2 cn):=by rw [ht]; rfl
    have HBC:=zaa (HBW.out.trans (hbc.mono (show w2.heap.size ≤ WB.heap.size by omega)));have HTC:=zaa htc;have HTS:=zaa hts;have HST:=zaa hstep
    have hle:(linesD p l k).length + t.size ≤ 1000000000:=by omega
    clear TP TB ht htc hts hstep s1 s2 s3 hbc HCUR
    go_wp2_with (at_builtin; refine Lib.wpList_append_own_string _ rfl _ _ 136 9 rfl w2.heap.size 5 i0 Tryz.underlying136 Tryz.underlying9 hi hz0 hz1 hz2 _ _ _ rfl hownC t rfl ?c3 ?c4 ?c5 ?_)
    case c3=>unfold maxLen; omega
    case c4=>omega
    case c5=>omega
    intro v6 w6 hown6 hgr _;rw [HTS.out,HTC.out] at hown6
    have FIN:Hid (w6.ownsRow w2.heap.size 5 1 v6 (linesD p l (k + 1)).length (Lib.byteCells (linesD p l (k + 1))) ∧ Below w2.heap.size w2 w6):=by
     refine ⟨?_,HBC.out.grown hgr (by omega) fun k hk=>(hownC.lt k hk).1⟩;rw [HST.out,List.length_append,show Lib.byteCells (linesD p l k ++ lineD p x.2 cn) = Lib.byteCells (linesD p l k) ++ Lib.byteCells (lineD p x.2 cn) by unfold Lib.byteCells; rw [List.map_append]];exact hown6
    clear hown6 hgr hownC;go_wp2;go_roundw
    case rel=>exact ⟨k + 1,by omega,by go_num,FIN.out⟩
    case measure=>simp [intOf]; omega
  ·have hlti:decide ((k:Int) < (n:Int)) = false:=decide_eq_false (by omega)
   obtain rfl:k = n:=by omega
   obtain ⟨a5,c5,rfl⟩:=zag hown;have FIN:=zaa (HT2.out.call hbe).below;obtain ⟨t,ht⟩:∃ t,t = linesD p l k:=⟨_,rfl⟩
   have hcv:(convert 136 9 (.slice a5 (linesD p l k).length c5)).run Tryz.prog wr = .ok (.string (tx t)) wr:=by rw [ht]; exact bytes_text hown
   have HTX:=zaa ht;clear hown hbe ht;go_wp2;go_ret;exact ⟨zyk HTX.out,FIN.out⟩
end Go.Proofs.YtdhinkgjiapigabGreatDoor

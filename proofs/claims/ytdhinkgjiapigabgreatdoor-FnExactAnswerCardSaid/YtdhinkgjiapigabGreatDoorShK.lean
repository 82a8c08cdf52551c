import Derived.Shelf.Lay
import Derived.Shelf.Strings.Builder1
import Derived.Test.YtdhinkgjiapigabGreatDoorCopyA
import Derived.Test.YtdhinkgjiapigabGreatDoorConc
import Derived.Test.YtdhinkgjiapigabGreatDoorShS
import Derived.Test.YtdhinkgjiapigabGreatDoorPlI
import Derived.Test.YtdhinkgjiapigabGreatDoorPlIx
import Derived.Test.YtdhinkgjiapigabGreatDoorRanA
import Derived.Test.YtdhinkgjiapigabGreatDoorRanAx
import Derived.Test.YtdhinkgjiapigabGreatDoorWantA
import Derived.Scope
import Derived.Lib.LaidU8
namespace Go.Proofs
open Go.Shelf
shelf_lay Lays.n169 Nm 169 at Tryz as Tryz.lays169
theorem Tryz.Builder_Extra_169:Builder.Extra Tryz.prog Tryz.lays169_ren where
 sizeBuilder:=by kernel_rfl
 liesBuilder:=by kernel_rfl
 t5:=Tryz.underlying5
 a5:=Tryz.isAgg5
 z5:=Tryz.sizeOf5
 v5:=Tryz.zeroValue5
 infoByte:=by kernel_rfl
 cellsByte:=by kernel_rfl
 sizeByte:=by kernel_rfl
 neB5:=by decide
end Go.Proofs
namespace Go.Proofs.YtdhinkgjiapigabGreatDoor
open Go.Shelf Go.RowKit Go.Deep
theorem zyp (B b:Nat) (l:List UInt8) (w:World) (h:Lib.IsBuilder 140 5 B b (Lib.byteCells l) w) (h0:l ≠ []) :
  Calls Tryz.prog 128 #[.pointer (some ⟨b,0,none⟩)] w fun e w'=>e = .returned (.string ⟨l.toArray⟩) ∧ Below B w w':=Any.Builder_String Tryz.lays169 Tryz.Builder_Extra_169 B b l w h h0
set_option maxRecDepth 100000 in
set_option maxHeartbeats 1000000 in
theorem zy6 (b:Nat) (w:World) (h0:w.cell? ⟨b,0,none⟩ = some (.pointer none)) (hsh:w.shape? b = some (140,2)) (hfz:w.frozen? ⟨b,0,none⟩ = false) :
  Calls Tryz.prog 171 #[.pointer (some ⟨b,0,none⟩)] w fun e w'=>e = .returned (.tuple #[]) ∧ w' = w.setCell ⟨b,0,none⟩ (.pointer (some ⟨b,0,none⟩)):=by
 obtain ⟨j,hj,hjs⟩:=Option.map_eq_some_iff.1 (show (Tryz.prog.info? 140).map (·.size) = some 2 by kernel_rfl);go_enter Tryz.func171,Tryz.ntmps171;go_wp2;rw [Lib.run_to_unsafe w ⟨b,0,none⟩ Tryz.underlying138 Tryz.underlying238 hj (by rw [hjs]; decide) hsh (Nat.zero_lt_succ 1)];simp only [Result.andThen];rw [Oper.upon_value];go_wp2;rw [run_callFunc_extern Tryz.func210 (by kernel_rfl) (by kernel_rfl) (by kernel_rfl) (e:=Extern.AbiNoEscape.same) (by kernel_rfl)];rw [Lib.run_noEscape];simp only [Result.andThen];rw [Oper.upon_value];go_wp2;rw [Lib.run_from_unsafe w ⟨b,0,none⟩ Tryz.underlying238 Tryz.underlying138 hj hsh (by kernel_rfl)];simp only [Result.andThen];rw [Oper.upon_value];go_wp2
 go_end0
 exact ⟨rfl,rfl⟩
set_option maxRecDepth 100000 in
set_option maxHeartbeats 1000000 in
theorem zze (b:Nat) (w:World) (h0:w.cell? ⟨b,0,none⟩ = some (.pointer (some ⟨b,0,none⟩))) :
  Calls Tryz.prog 171 #[.pointer (some ⟨b,0,none⟩)] w fun e w'=>e = .returned (.tuple #[]) ∧ w' = w:=by
 obtain ⟨j,hj,-⟩:=Option.map_eq_some_iff.1 (show (Tryz.prog.info? 140).map (·.size) = some 2 by kernel_rfl);go_enter Tryz.func171,Tryz.ntmps171;go_wp2;rw [Lib.run_neq_ptr_same w _ Tryz.underlying138 hj];go_wp2
 go_end0
 exact ⟨rfl,rfl⟩
theorem Tryz.infoByteQ:(Tryz.prog.info? 5).map (fun i=>(i.zero,i.size,i.bytes)) = some (some (.int .u8 0),1,1):=by kernel_rfl
structure KeepT (b:Nat) (w w':World):Prop where
 size:w.heap.size ≤ w'.heap.size
 block:∀ (g:Nat) cur t,w.heap[g]? = some (.cells cur t (0,0)) → t ≠ 5 → g ≠ b → w'.heap[g]? = some (.cells cur t (0,0))
 other:∀ (g:Nat) o,w.heap[g]? = some o → o.isCells = false → g ≠ b → w'.heap[g]? = some o
theorem KeepT.refl (b:Nat) (w:World):KeepT b w w:=⟨Nat.le_refl _,fun _ _ _ h _ _=>h,fun _ _ h _ _=>h⟩
theorem KeepT.trans {b:Nat} {x y z:World} (h:KeepT b x y) (k:KeepT b y z):KeepT b x z:=⟨Nat.le_trans h.size k.size,fun g cur t hg ht hn=>k.block g cur t (h.block g cur t hg ht hn) ht hn,fun g o hg ho hn=>k.other g o (h.other g o hg ho hn) ho hn⟩
theorem KeepT.set (b o:Nat) (u:Value) (w:World):KeepT b w (w.setCell ⟨b,o,none⟩ u):=⟨by rw [World.size_setCell]; exact Nat.le_refl _,fun g _ _ hg _ hn=>by rw [heap_setCell_other _ _ _ _ hn]; exact hg,fun g _ hg _ hn=>by rw [heap_setCell_other _ _ _ _ hn]; exact hg⟩
theorem KeepT.of_calls {b:Nat} {w w':World} (h:Below w.heap.size w w'):KeepT b w w':=⟨h.size,fun g _ _ hg _ _=>(h.block g (Array.getElem?_eq_some_iff.1 hg).1).trans hg,fun g _ hg _ _=>(h.block g (Array.getElem?_eq_some_iff.1 hg).1).trans hg⟩
theorem KeepT.row {b g t n:Nat} {f:Nat → Value} {w w':World} (h:KeepT b w w') (hr:w.rowIs g t n f) (ht:t ≠ 5) (hn:g ≠ b):w'.rowIs g t n f:=by
 obtain ⟨c,hc,h1,h2⟩:=hr;exact ⟨c,h.block g c t hc ht hn,h1,h2⟩
theorem KeepT.grown {b:Nat} {w w':World} {B size n:Nat} {v:Value} {xs:List Value} (ho:w.ownsRow B 5 size v n xs) (hg:w.grownBy w' v.ownBlock):KeepT b w w':=⟨hg.size,fun g cur t hh ht _=>by
 rw [hg.block g (Array.getElem?_eq_some_iff.1 hh).1 fun z=>?_]
 ·exact hh
 ·obtain ⟨-,⟨rfl,rfl⟩ | ⟨g',cap,cur',rfl,-,hh',-⟩⟩:=ho
  ·cases z
  ·cases z
   rw [hh] at hh'
   cases hh'
   exact ht rfl,fun g o hh hoc _=>by
 rw [hg.block g (Array.getElem?_eq_some_iff.1 hh).1 fun z=>?_]
 ·exact hh
 ·obtain ⟨-,⟨rfl,rfl⟩ | ⟨g',cap,cur',rfl,-,hh',-⟩⟩:=ho
  ·cases z
  ·cases z
   rw [hh] at hh'
   cases hh'
   cases hoc⟩
theorem zy5 (B b:Nat) (bs:List Value) (w:World) (h:Lib.IsBuilder 140 5 B b bs w) :
  Calls Tryz.prog 171 #[.pointer (some ⟨b,0,none⟩)] w fun e w'=>e = .returned (.tuple #[]) ∧ Lib.BuilderAt 140 5 B b (.pointer (some ⟨b,0,none⟩)) bs w' ∧ Below B w w' ∧ KeepT b w w':=by
 obtain h | h:=h
 ·exact (zy6 b w h.cell0 h.shape h.frozen0).mono fun e w' ⟨h1,h2⟩=>by
   subst h2;exact ⟨h1,h.used _,(Below.refl B w).setCell (p:=⟨b,0,none⟩) h.1 _,KeepT.set b 0 _ w⟩
 ·exact (zze b w h.cell0).mono fun e w' ⟨h1,h2⟩=>by
   subst h2;exact ⟨h1,h,Below.refl B _,KeepT.refl _ _⟩
set_option maxRecDepth 100000 in
set_option maxHeartbeats 1000000 in
theorem zzc (B b:Nat) (bs:List Value) (c:Int) (w:World) (h:Lib.IsBuilder 140 5 B b bs w) (hlen:bs.length ≤ 1000000000) (hB:B ≤ w.heap.size) :
  Calls Tryz.prog 127 #[.pointer (some ⟨b,0,none⟩),.int .u8 c] w fun e w'=>e = .returned .nilIface ∧ Lib.IsBuilder 140 5 B b (bs ++ [.int .u8 c]) w' ∧ Below B w w' ∧ KeepT b w w':=by
 have HCC:=zaa (zy5 B b bs w h);clear h;go_enter Tryz.func127,Tryz.ntmps127
 go_wp2_with fail
 refine HCC.out.mono ?_;rintro e w1 ⟨rfl,⟨hBb,v,hbk,hown,hne⟩,hb1,hk1⟩;obtain ⟨av,cv,rfl⟩:=zag hown
 have c1:w1.cell? ⟨b,1,none⟩ = some (.slice av bs.length cv):=by rw [Lib.cell_of_heap hbk]; rfl
 have hlt:b < w1.heap.size:=(Array.getElem?_eq_some_iff.1 hbk).1;have OWY:=zaa (hown.alloc (.cells #[.int .u8 c] 5));have SRC:=zaa (zou (W:=w1) (t:=5) (x:=.int .u8 c))
 have ONE:Hid (∀ u ∈ ([.int .u8 c]:List Value),u.oneCell' = true):=by
  show ∀ u ∈ ([.int .u8 c]:List Value),u.oneCell' = true;intro u hu;rw [List.mem_singleton.1 hu];rfl
 obtain ⟨nn,hnn⟩:∃ n,n = bs.length:=⟨_,rfl⟩;rw [← hnn] at OWY c1 hlen
 have HM7:Hid (nn + 1 ≤ maxLen):=by show nn + 1 ≤ maxLen; unfold maxLen; omega
 have HM8:Hid ((nn + 1) * 1 ≤ 140737488355328):=by show (nn + 1) * 1 ≤ 140737488355328; omega
 have HZY:Hid (B ≤ (w1.alloc (.cells #[.int .u8 c] 5)).heap.size):=by show B ≤ _; have:=hb1.size; rw [World.size_alloc]; omega
 have HNN:=zaa hnn;have HBK:=zaa hbk;have HOW:=zaa hown;have HNE:=zaa hne;have HB1:=zaa hb1;have HK1:=zaa hk1;clear hnn hbk hown hne hb1 hk1 HCC
 go_wp2_with (at_builtin; refine zai rfl _ _ 136 rfl B 5 (.int .u8 0) 1 1 Tryz.underlying136 Tryz.infoByteQ rfl (by decide) (.slice av nn cv) nn bs rfl OWY.out (some ⟨w1.heap.size,0,none⟩) 1 1 [.int .u8 c] rfl rfl SRC.out ONE.out HM7.out HM8.out HZY.out ?_)
 intro v' w2 hown2 hgr;obtain ⟨a6,c6,rfl⟩:=zag hown2
 have hb2:w2.heap[b]? = some (.cells #[.pointer (some ⟨b,0,none⟩),.slice av bs.length cv] 140 (0,0)):=by
  rw [hgr.block b (by rw [World.size_alloc]; omega) (fun e=>HNE.out (by rw [← HNN.out]; exact e.symm)),Lib.alloc_old w1 _ b hlt];exact HBK.out
 have d1:w2.cell? ⟨b,1,none⟩ = some (.slice av bs.length cv):=by rw [Lib.cell_of_heap hb2]; rfl
 have f1:w2.frozen? ⟨b,1,none⟩ = false:=Lib.frozen_of_heap hb2 1
 have hbl:(bs ++ [Value.int .u8 c]).length = nn + 1:=by rw [HNN.out,List.length_append]; rfl
 have FIN:=zaa (Lib.BuilderAt.put (T:=140) (e:=5) hBb hb2 (bs':=bs ++ [.int .u8 c]) (v':=.slice a6 (nn + 1) c6) (by rw [hbl]; exact hown2) (by decide));have FB:Hid (Below B w (w2.setCell ⟨b,1,none⟩ (.slice a6 (nn + 1) c6))):=((HB1.out.alloc (by have:=HB1.out.size; omega) _).grown hgr (by rw [World.size_alloc]; have:=HB1.out.size; omega) (fun k hk=>(HOW.out.lt k (by rw [← HNN.out]; exact hk)).1)).setCell (p:=⟨b,1,none⟩) hBb _;have FK:Hid (KeepT b w (w2.setCell ⟨b,1,none⟩ (.slice a6 (nn + 1) c6))):=((HK1.out.trans (KeepT.of_calls (zab _ _))).trans (KeepT.grown OWY.out hgr)).trans (KeepT.set b 1 _ _);clear hown2 hgr hb2 OWY SRC ONE;go_wp2;go_ret;exact ⟨rfl,.inr FIN.out,FB.out,FK.out⟩
end Go.Proofs.YtdhinkgjiapigabGreatDoor
namespace Go.Proofs.YtdhinkgjiapigabGreatDoor
open Go.RowKit Go.Deep Go.Shelf
open Classical
def signL:List UInt8:=[45,115,67,116,117,46,61,35,60,62,63,33,32]
def SignsAt (w:World):Prop:=∀ (k:Nat) c,signL[k]? = some c → w.cell? ⟨0,k,none⟩ = some (.int .u8 (c.toNat:Int))
theorem SignsAt.below {B:Nat} {w w':World} (h:SignsAt w) (hb:Below B w w') (hB : 0 < B):SignsAt w':=fun k c hc=>(hb.cell (p:=⟨0,k,none⟩) hB).trans (h k c hc)
abbrev BuT (B b:Nat) (l:List UInt8) (w:World):Prop:=Lib.IsBuilder 140 5 B b (Lib.byteCells l) w
theorem zyx (l:List UInt8) (c:UInt8):Lib.byteCells l ++ [.int .u8 (c.toNat:Int)] = Lib.byteCells (l ++ [c]):=by unfold Lib.byteCells; rw [List.map_append]; rfl
def zy4 (B b:Nat) (l:List UInt8) (w:World) (e:Ending) (w':World):Prop:=e = .returned (.tuple #[]) ∧ BuT B b l w' ∧ Below B w w' ∧ KeepT b w w'
set_option maxRecDepth 100000 in
theorem zx6 (B b:Nat) (l:List UInt8) (s:Nat) (c:UInt8) (w:World) (h:BuT B b l w) (hl:l.length ≤ 1000000) (hB:B ≤ w.heap.size) (hs:signL[s]? = some c) (hsg:SignsAt w) :
  Calls Tryz.prog 167 #[.int .i64 (s:Int),.pointer (some ⟨b,0,none⟩)] w fun e w'=>zy4 B b (l ++ [c]) w e w':=by
 have z:=hsg s c hs;have hs13:s < 13:=(List.getElem?_eq_some_iff.1 hs).1
 have hsI:(s:Int) < 13:=by omega
 have HW:=zaa (zzc B b (Lib.byteCells l) (c.toNat:Int) w h (by rw [Lib.byteCells_length]; omega) hB);rw [zyx] at HW;clear h hs hsg;go_enter Tryz.func167,Tryz.ntmps167
 go_wp2_with fail
 refine HW.out.mono ?_;rintro e w1 ⟨rfl,h1,h2,h3⟩;have FIN:=zaa (show zy4 B b (l ++ [c]) w (.returned (.tuple #[])) w1 from ⟨rfl,h1,h2,h3⟩);clear h1 h2 h3 z HW;go_wp2
 go_end0
 exact FIN.out
theorem BuT.lt {B b:Nat} {l:List UInt8} {w:World} (h:BuT B b l w):b < w.heap.size:=by
 obtain h | h:=h
 ·exact h.lt
 ·exact h.lt
theorem BuT.call {B b:Nat} {l:List UInt8} {w w':World} (h:BuT B b l w) (hb:Below w.heap.size w w'):BuT B b l w':=by
 have key:∀ q,Lib.BuilderAt 140 5 B b q (Lib.byteCells l) w → Lib.BuilderAt 140 5 B b q (Lib.byteCells l) w':=fun q hq=>by
  obtain ⟨h1,v,h2,h3,h4⟩:=hq;exact ⟨h1,v,(hb.block b (Array.getElem?_eq_some_iff.1 h2).1).trans h2,za3 (K:=fun _=>True) h3 (But.of_calls hb) fun _ _=>trivial,h4⟩
 obtain h | h:=h
 ·exact .inl (key _ h)
 ·exact .inr (key _ h)
theorem way_sign {s:Nat} (h:s ≤ 4):signL[s]? = some (wayC (s:Int)):=by
 obtain rfl | rfl | rfl | rfl | rfl:s = 0 ∨ s = 1 ∨ s = 2 ∨ s = 3 ∨ s = 4:=by omega
 ·rfl
 ·rfl
 ·rfl
 ·rfl
 ·rfl
set_option maxRecDepth 100000 in
set_option maxHeartbeats 2000000 in
theorem zzv (B b:Nat) (l:List UInt8) (f1 f2 f3:Value) (d:FrameD) (w:World) (h:BuT B b l w) (hl:l.length ≤ 10000) (hB:B ≤ w.heap.size) (hf:FrameAt (fun c=>c < B) w f1 f2 f3 d) (hst:∀ (i:Nat) h,d.ways[i]? = some h → InR h.state 0 4) (hn:d.ways.length ≤ 100) (hsg:SignsAt w) (hsb : 0 < B) :
  Calls Tryz.prog 170 #[.agg #[.bool d.ok,f1,f2,f3],.func (.func 167) #[] #[.pointer (some ⟨b,0,none⟩)]] w fun e w'=>zy4 B b (l ++ zzd d d.ways.length) w e w':=by
 have KF:=zaa fun (W:World) (k:Below B w W)=>hf.keep (Q:=fun c=>c < B) (za0 k fun _ z=>z) fun _ z=>z;obtain ⟨o1,m1,rfl⟩:=hf.1.size;obtain ⟨o2,m2,rfl⟩:=hf.2.1.size;obtain ⟨o3,m3,rfl⟩:=hf.2.2.size;obtain ⟨nw,hnw⟩:∃ n,n = d.ways.length:=⟨_,rfl⟩;rw [← hnw] at KF hn ⊢;have HNW:=zaa hnw;have hbl:=h.lt;have T0:=zaw w 42 #[.bool d.ok,.slice o1 d.occ.length m1,.slice o2 d.points.length m2,.slice o3 nw m3];have hr0:=T0.row 0 _ _ rfl;rw [Nat.add_zero] at hr0;have hb0:Below B w _:=T0.below.mono hB;have hB0:BuT B b l _:=h.call T0.below;have hk0:KeepT b w _:=KeepT.of_calls T0.below;obtain ⟨W0,hW0⟩:∃ W,W = w.alloc (.cells #[.bool d.ok,.slice o1 d.occ.length m1,.slice o2 d.points.length m2,.slice o3 nw m3] 42):=⟨_,rfl⟩;rw [← hW0] at hr0 hb0 hB0 hk0;have HR0:=zaa hr0;have HB0:=zaa hb0;have HBT:=zaa hB0;have HK0:=zaa hk0;have HSG:=zaa hsg;have HST:=zaa hst;clear hf h T0 hr0 hb0 hB0 hk0 hsg hst hnw;go_enter Tryz.func170,Tryz.ntmps170
 go_upto_region 1 with fail
 rw [← hW0];clear hW0;have q3:=HR0.out.cell (i:=3) (by show 3 < 4; omega);go_wp2;clear q3
 go_loopw [9] (fun z wr=>∃ k:Nat,k ≤ nw ∧ z = .int .i64 (k:Int) ∧ BuT B b (l ++ zzd d k) wr ∧ Below B w wr ∧ KeepT b w wr ∧ B ≤ wr.heap.size) (fun z _=>nw - (intOf z).toNat)
 case atStart=>exact ⟨0,Nat.zero_le _,rfl,by show BuT B b (l ++ []) W0; rw [List.append_nil]; exact HBT.out,HB0.out,HK0.out,Nat.le_trans hB HK0.out.size⟩
 case round=>
  obtain ⟨k,hk,rfl,hbt,hbe,hke,hBr⟩:=hrel;rename World=>wr;clear HR0 HB0 HBT HK0;by_cases hlt:k < nw
  ·have hlti:decide ((k:Int) < (nw:Int)) = true:=decide_eq_true (by omega)
   have hkI:(k:Int) < (nw:Int):=by omega
   obtain ⟨h,hh⟩:=zb4 d.ways (show k < d.ways.length by have:=HNW.out; omega);obtain ⟨ax,kx,ex,h0 | ⟨bw,ow,hax,hbw,hcw⟩⟩:=(KF.out _ hbe).2.2
   ·have:=HNW.out; omega
   obtain rfl:o3 = some ⟨bw,ow,none⟩:=by cases ex; exact hax
   clear ex hax;obtain ⟨vb,hvb,z0,z1,z2,z3,z4⟩:=hcw k (by have:=HNW.out; omega) h hh;obtain ⟨ab,kb,rfl⟩:=hvb.size;have hs:=HST.out k h hh;obtain ⟨sn,hsn⟩:∃ n:Nat,h.state = (n:Int):=⟨h.state.toNat,by have h2:(0:Int) ≤ h.state:=hs.1; omega⟩
   have hsn5:sn ≤ 4:=by have h3:h.state ≤ (4:Int):=hs.2; omega
   rw [hsn] at z0;have TB:=zaw wr 93 #[.int .i64 (sn:Int),.int .i64 h.gone,.slice ab h.been.length kb,.bool h.shown,.int .i64 h.timer];have y0:=TB.cell (j:=0) (i:=0) rfl rfl;rw [Nat.add_zero] at y0;have hbe2:Below B w _:=hbe.trans (TB.below.mono hBr);have HPU:=zaa (zx6 B b (l ++ zzd d k) sn _ _ (hbt.call TB.below) (by rw [List.length_append,zz6]; omega) (Nat.le_trans hBr TB.below.size) (way_sign hsn5) (HSG.out.below hbe2 hsb))
   have hw1:l ++ zzd d k ++ [wayC (sn:Int)] = l ++ zzd d (k + 1):=by
    rw [zzn,hh,List.append_assoc];show _ = l ++ (zzd d k ++ [wayC h.state]);rw [hsn]
   rw [hw1] at HPU;have HBE:=zaa hbe2;have HKE:=zaa (hke.trans (KeepT.of_calls (b:=b) TB.below));have HBR:=zaa (Nat.le_trans hBr TB.below.size);clear hbt hbe hke hcw hvb hh hs hsn TB hbe2 hw1 hBr
   go_wp2_with fail
   refine HPU.out.mono ?_;rintro e w3 ⟨rfl,g1,g2,g3⟩;have FIN:=zaa (show BuT B b (l ++ zzd d (k + 1)) w3 ∧ Below B w w3 ∧ KeepT b w w3 ∧ B ≤ w3.heap.size from ⟨g1,HBE.out.trans g2,HKE.out.trans g3,Nat.le_trans HBR.out g3.size⟩);clear g1 g2 g3 HPU HBE HKE HBR y0 z0 z1 z2 z3 z4;go_wp2;go_roundw
   case rel=>exact ⟨k + 1,by omega,by go_num,FIN.out⟩
   case measure=>simp [intOf]; omega
  ·have hlti:decide ((k:Int) < (nw:Int)) = false:=decide_eq_false (by omega)
   obtain rfl:k = nw:=by omega
   have FIN:=zaa (show zy4 B b (l ++ zzd d k) w (.returned (.tuple #[])) wr from ⟨rfl,hbt,hbe,hke⟩);clear hbt hbe hke;go_wp2
   go_end0
   exact FIN.out
end Go.Proofs.YtdhinkgjiapigabGreatDoor
namespace Go.Proofs.YtdhinkgjiapigabGreatDoor
open Go.RowKit Go.Deep Go.Shelf
open Classical
def lieN (x:Int × Int):Nat:=if x.2 = x.1 then (if x.2 = 1 then 8 else 9) else 10
theorem lie_sign (x:Int × Int):signL[lieN x]? = some (lieC x):=by
 unfold lieN lieC;split
 ·split
  ·rfl
  ·rfl
 ·rfl
theorem zy9 {a c:Nat} (h:a = c):Ending.returned (.int .i64 (c:Int)) = .returned (.int .i64 (a:Int)):=by rw [h]
set_option maxHeartbeats 1000000 in
theorem zzu (x:Int × Int) (w:World):Calls Tryz.prog 209 #[.agg #[.int .i64 x.1,.int .i64 x.2]] w fun e w'=>e = .returned (.int .i64 (lieN x:Int)) ∧ Below w.heap.size w w':=by
 have T0:=zaw w 90 #[.int .i64 x.1,.int .i64 x.2];have y0:=T0.cell (j:=0) (i:=0) rfl rfl;have y1:=T0.cell (j:=0) (i:=1) rfl rfl;rw [Nat.add_zero] at y0 y1;have HT:=zaa T0.below;clear T0;go_enter Tryz.func209,Tryz.ntmps209;by_cases h1:x.2 = x.1
 ·have h1b:(x.2 != x.1) = false:=by simp [h1]
  by_cases h2:x.2 = 1
  ·have h2b:(x.2 == 1) = true:=by simp [h2]
   have FIN:Hid (lieN x = 8):=by show lieN x = 8; unfold lieN; rw [if_pos h1,if_pos h2]
   clear h1 h2;go_wp2;go_ret;exact ⟨zy9 FIN.out,HT.out⟩
  ·have h2b:(x.2 == 1) = false:=by simp [h2]
   have FIN:Hid (lieN x = 9):=by show lieN x = 9; unfold lieN; rw [if_pos h1,if_neg h2]
   clear h1 h2;go_wp2;go_ret;exact ⟨zy9 FIN.out,HT.out⟩
 ·have h1b:(x.2 != x.1) = true:=by simp [h1]
  have FIN:Hid (lieN x = 10):=by show lieN x = 10; unfold lieN; rw [if_neg h1]
  clear h1;go_wp2;go_ret;exact ⟨zy9 FIN.out,HT.out⟩
set_option maxRecDepth 100000 in
set_option maxHeartbeats 4000000 in
theorem zy8 (B b:Nat) (l:List UInt8) (p1 p2 p3 f1 f2 f3:Value) (p:PlanD) (d:FrameD) (w:World) (h:BuT B b l w) (hl:l.length ≤ 10000) (hB:B ≤ w.heap.size) (hp:PlanAt (fun c=>c < B) w p1 p2 p3 p) (hc:WaysC (fun c=>c < B) w p2 p.ways) (hf:FrameAt (fun c=>c < B) w f1 f2 f3 d) (hs:p.Small 1048576) (hd:d.Small 1048576) (hR:zas p d) (hsg:SignsAt w) (hsb : 0 < B) :
  Calls Tryz.prog 169 #[.agg #[.int .i64 p.sections,p1,p2,p3,.int .i64 p.hold],.agg #[.bool d.ok,f1,f2,f3],.func (.func 167) #[] #[.pointer (some ⟨b,0,none⟩)]] w fun e w'=>zy4 B b (l ++ zyw p d d.points.length) w e w':=by
 have KF:=zaa fun (W:World) (k:Below B w W)=>hf.keep (Q:=fun c=>c < B) (za0 k fun _ z=>z) fun _ z=>z;have KI:=zaa fun (W:World) (k:Below B w W) (z:B ≤ W.heap.size)=>And.intro (hp.keep (Q:=In W) (za0 k fun _ z=>z) fun _ y=>Nat.lt_of_lt_of_le y z) (And.intro (hc.keep (Q:=In W) (za0 k fun _ z=>z) fun _ y=>Nat.lt_of_lt_of_le y z) (hf.keep (Q:=In W) (za0 k fun _ z=>z) fun _ y=>Nat.lt_of_lt_of_le y z));obtain ⟨a1,c1,rfl⟩:=hp.1.size;obtain ⟨a2,c2,rfl⟩:=hp.2.1.size;obtain ⟨a3,c3,rfl⟩:=hp.2.2.size;obtain ⟨o1,m1,rfl⟩:=hf.1.size;obtain ⟨o2,m2,rfl⟩:=hf.2.1.size;obtain ⟨o3,m3,rfl⟩:=hf.2.2.size;obtain ⟨nq,hnq⟩:∃ n,n = d.points.length:=⟨_,rfl⟩;have hps:d.points.length = p.switches.length:=hR.2.2.2.1
 have hq40:nq ≤ 100:=by rw [hnq,hps]; have:=hR.1.parts.1.2.1; omega
 rw [← hnq] at KF KI ⊢;have HNQ:=zaa hnq;have HPS:=zaa hps;have HR:=zaa hR;have HS:=zaa hs;have HD:=zaa hd;have hbl:=h.lt;have T0:=zbc w 37 42 #[.int .i64 p.sections,.slice a1 p.switches.length c1,.slice a2 p.ways.length c2,.slice a3 p.bars.length c3,.int .i64 p.hold] #[.bool d.ok,.slice o1 d.occ.length m1,.slice o2 nq m2,.slice o3 d.ways.length m3];have hrp:=T0.row 0 _ _ rfl;rw [Nat.add_zero] at hrp;have hrf:=T0.row 1 _ _ rfl;have hb0:Below B w _:=T0.below.mono hB;have hB0:BuT B b l _:=h.call T0.below;have hk0:KeepT b w _:=KeepT.of_calls T0.below;obtain ⟨W0,hW0⟩:∃ W,W = (w.alloc (.cells #[.int .i64 p.sections,.slice a1 p.switches.length c1,.slice a2 p.ways.length c2,.slice a3 p.bars.length c3,.int .i64 p.hold] 37)).alloc (.cells #[.bool d.ok,.slice o1 d.occ.length m1,.slice o2 nq m2,.slice o3 d.ways.length m3] 42):=⟨_,rfl⟩;rw [← hW0] at hrp hrf hb0 hB0 hk0;have HRP:=zaa hrp;have HRF:=zaa hrf;have HB0:=zaa hb0;have HBT:=zaa hB0;have HK0:=zaa hk0;have HSG:=zaa hsg;clear hf hp hc h T0 hrp hrf hb0 hB0 hk0 hsg hnq hps hR hs hd;go_enter Tryz.func169,Tryz.ntmps169
 go_upto_region 1 with fail
 rw [← hW0];clear hW0;have q2:=HRF.out.cell (i:=2) (by show 2 < 4; omega);go_wp2;clear q2
 go_loopw [11] (fun z wr=>∃ k:Nat,k ≤ nq ∧ z = .int .i64 (k:Int) ∧ BuT B b (l ++ zyw p d k) wr ∧ Below B w wr ∧ KeepT b W0 wr ∧ B ≤ wr.heap.size) (fun z _=>nq - (intOf z).toNat)
 case atStart=>exact ⟨0,Nat.zero_le _,rfl,by show BuT B b (l ++ []) W0; rw [List.append_nil]; exact HBT.out,HB0.out,KeepT.refl _ _,Nat.le_trans hB HK0.out.size⟩
 case round=>
  obtain ⟨k,hk,rfl,hbt,hbe,hke,hBr⟩:=hrel;rename World=>wr;clear HB0 HBT;by_cases hlt:k < nq
  ·have hlti:decide ((k:Int) < (nq:Int)) = true:=decide_eq_true (by omega)
   have hkI:(k:Int) < (nq:Int):=by omega
   obtain ⟨x,hx⟩:=zb4 d.points (show k < d.points.length by have:=HNQ.out; omega);obtain ⟨ax,kx,ex,h0 | ⟨bq,oq,hax,hbq,hcq⟩⟩:=(KF.out _ hbe).2.1
   ·have:=HNQ.out; omega
   obtain rfl:o2 = some ⟨bq,oq,none⟩:=by cases ex; exact hax
   clear ex hax;obtain ⟨z0,z1⟩:=hcq k (by have:=HNQ.out; omega) x hx;have TB:=zaw wr 90 #[.int .i64 x.1,.int .i64 x.2];have y0:=TB.cell (j:=0) (i:=0) rfl rfl;have y1:=TB.cell (j:=0) (i:=1) rfl rfl;rw [Nat.add_zero] at y0 y1;have hbe2:Below B w _:=hbe.trans (TB.below.mono hBr);have HLS:=zaa (zzu x (wr.alloc (.cells #[.int .i64 x.1,.int .i64 x.2] 90)));have HBT2:=zaa (hbt.call TB.below);have HBE2:=zaa hbe2;have HKE2:=zaa (hke.trans (KeepT.of_calls (b:=b) TB.below));have HBR2:=zaa (Nat.le_trans hBr TB.below.size);have HX:=zaa hx;clear hbt hbe hke hcq hx TB hbe2 hBr
   go_wp2_with fail
   refine HLS.out.mono ?_;rintro e w3 ⟨rfl,hb3⟩;have hbe3:Below B w w3:=HBE2.out.trans (hb3.mono HBR2.out);have hBr3:B ≤ w3.heap.size:=Nat.le_trans HBR2.out hb3.size;have HPU:=zaa (zx6 B b (l ++ zyw p d k) (lieN x) _ w3 (HBT2.out.call hb3) (by rw [List.length_append]; have:=zyh p d k; omega) hBr3 (lie_sign x) (HSG.out.below hbe3 hsb));have HBE3:=zaa hbe3;have HKE3:=zaa (HKE2.out.trans (KeepT.of_calls (b:=b) hb3));have HBR3:=zaa hBr3;clear hb3 hbe3 hBr3 HLS HBT2 HBE2 HKE2 HBR2 y0 y1 z0 z1
   go_wp2_with fail
   refine HPU.out.mono ?_;rintro e w4 ⟨rfl,g1,g2,g3⟩;have hbe4:Below B w w4:=HBE3.out.trans g2;have hBr4:B ≤ w4.heap.size:=Nat.le_trans HBR3.out g3.size;have hke4:=HKE3.out.trans g3;have hrp:=hke4.row HRP.out (by decide) (by omega);have hrf:=hke4.row HRF.out (by decide) (by omega);obtain ⟨hpi,hci,hfi⟩:=KI.out w4 hbe4 hBr4;have HPL:=zaa (zfi _ _ _ _ _ _ p d k w4 hpi hci hfi HS.out HD.out HR.out (by have:=HNQ.out; have:=HPS.out; omega));have b0:=hrp.cell (i:=0) (by show 0 < 5; omega);have b1:=hrp.cell (i:=1) (by show 1 < 5; omega);have b2:=hrp.cell (i:=2) (by show 2 < 5; omega);have b3:=hrp.cell (i:=3) (by show 3 < 5; omega);have b4:=hrp.cell (i:=4) (by show 4 < 5; omega);have q0:=hrf.cell (i:=0) (by show 0 < 4; omega);have q1:=hrf.cell (i:=1) (by show 1 < 4; omega);have q2:=hrf.cell (i:=2) (by show 2 < 4; omega);have q3:=hrf.cell (i:=3) (by show 3 < 4; omega);have HG1:=zaa g1;have HBE4:=zaa hbe4;have HKE4:=zaa hke4;have HBR4:=zaa hBr4;clear g1 g2 g3 hbe4 hBr4 hke4 hrp hrf hpi hci hfi HPU HBE3 HKE3 HBR3
   go_wp2_with fail
   refine HPL.out.mono ?_;clear b0 b1 b2 b3 b4 q0 q1 q2 q3 HPL;rintro e w5 ⟨v,rfl,hb5,mm,hown⟩;obtain ⟨av,cv,rfl⟩:=zag hown;have hmm:mm = (zbn p d (k:Int)).length:=(zb2 hown).1
   have hpt:ptC p d k = lieC x :: if 0 < mm then [33] else []:=by
    unfold ptC;rw [List.getD_eq_getElem?_getD,HX.out,hmm];rfl
   have HPC:=zaa hpt;have hbe5:Below B w w5:=HBE4.out.trans (hb5.mono HBR4.out);have hBr5:B ≤ w5.heap.size:=Nat.le_trans HBR4.out hb5.size;have hbt5:=HG1.out.call hb5;have HKE5:=zaa (HKE4.out.trans (KeepT.of_calls (b:=b) hb5));clear hown hmm hpt hb5 HG1 HBE4 HKE4 HBR4;by_cases hm0:0 < mm
   ·have hmi:decide ((0:Int) < (mm:Int)) = true:=decide_eq_true (by omega)
    have hmI:(0:Int) < (mm:Int):=by omega
    have HPU:=zaa (zx6 B b (l ++ zyw p d k ++ [lieC x]) 11 33 w5 hbt5 (by rw [List.length_append,List.length_append]; have:=zyh p d k; show _ + 1 ≤ _; omega) hBr5 rfl (HSG.out.below hbe5 hsb))
    have hw1:l ++ zyw p d k ++ [lieC x] ++ [33] = l ++ zyw p d (k + 1):=by rw [zx5,HPC.out,if_pos hm0]; simp
    rw [hw1] at HPU;have HBE5:=zaa hbe5;have HBR5:=zaa hBr5;clear hw1 hbe5 hBr5 hbt5 hm0
    go_wp2_with fail
    refine HPU.out.mono ?_;rintro e w6 ⟨rfl,k1,k2,k3⟩;have FIN:=zaa (show BuT B b (l ++ zyw p d (k + 1)) w6 ∧ Below B w w6 ∧ KeepT b W0 w6 ∧ B ≤ w6.heap.size from ⟨k1,HBE5.out.trans k2,HKE5.out.trans k3,Nat.le_trans HBR5.out k3.size⟩);clear k1 k2 k3 HPU;go_wp2;go_roundw
    case rel=>exact ⟨k + 1,by omega,by go_num,FIN.out⟩
    case measure=>simp [intOf]; omega
   ·obtain rfl:mm = 0:=by omega
    have hw1:l ++ zyw p d k ++ [lieC x] = l ++ zyw p d (k + 1):=by rw [zx5,HPC.out,if_neg hm0]; simp
    rw [hw1] at hbt5;have FIN:=zaa (show BuT B b (l ++ zyw p d (k + 1)) w5 ∧ Below B w w5 ∧ KeepT b W0 w5 ∧ B ≤ w5.heap.size from ⟨hbt5,hbe5,HKE5.out,hBr5⟩);clear hw1 hbe5 hBr5 hbt5 hm0;go_wp2;go_roundw
    case rel=>exact ⟨k + 1,by omega,by go_num,FIN.out⟩
    case measure=>simp [intOf]; omega
  ·have hlti:decide ((k:Int) < (nq:Int)) = false:=decide_eq_false (by omega)
   obtain rfl:k = nq:=by omega
   have FIN:=zaa (show zy4 B b (l ++ zyw p d k) w (.returned (.tuple #[])) wr from ⟨rfl,hbt,hbe,HK0.out.trans hke⟩);clear hbt hbe hke;go_wp2
   go_end0
   exact FIN.out
end Go.Proofs.YtdhinkgjiapigabGreatDoor
namespace Go.Proofs.YtdhinkgjiapigabGreatDoor
open Go.RowKit Go.Shelf Go.Deep
open Classical
def goesOut {α:Type} (id:Nat) (B c n0:Nat) (I Ix:List α → World → Prop) (xs:List α) (W:World):Exit → Act → World → Prop
 | .normal,_,W'=>Mid B (B + 2 + c) W W' ∧ Below n0 W W' ∧ I xs W'
 | .exit x,_,W'=>x = id ∧ Mid B (B + 2 + c) W W' ∧ Ix xs W'
 | _,_,_=>False
theorem zzw {α:Type} {id:Nat} {P:Program} {g:Operand} {ps:Array Tmp} {assign body:Code} {Q:Exit → Act → World → Prop} {a:Act} {w w0:World} {gf:Nat} {lb:Array Value} {encs:α → Array Value} {n0 c:Nat} {xs:List α}
  (hg:a.eval g = .func (.func gf) #[] lb) (eg:∀ args w,(callFunc gf args).run P w = .ok (.enter gf args) w) (hseq:ze4 P gf lb encs n0 c xs w0) (hb0:Below w0.heap.size w0 w) (hn:n0 ≤ w.heap.size) (hps:∀ x,(encs x).size = ps.size)
  (I Ix:List α → World → Prop) (hI:OwnFrom w.heap.size I) (hIx:OwnFrom w.heap.size Ix) (h0:I [] w) (a1:α → Act)
  (hassign:∀ (l:Nat) (x:α) (W:World) (K:Act → World → Prop),K (a1 x) W →
   assign.wpIn (Fence.wide.inRound l) 0 P (Exit.then K (fun _ _ _=>False)) { tmps:=(ps.zip (encs x)).foldl (fun t (p,v)=>t.setIfInBounds p v) a.tmps,defers:=[] } W)
  (hbody:∀ (l:Nat) (pre:List α) (x:α) (W:World),pre ++ [x] <+: xs → w.heap.size + 2 + c ≤ W.heap.size → (∀ k,w.heap.size ≤ k → k < w.heap.size + 2 → ∃ o:Obj,W.heap[k]? = some o ∧ o.isCells = false) → I pre W → body.wpIn (Fence.wide.inRound l) 0 P (goesOut id w.heap.size c n0 I Ix (pre ++ [x]) W) (a1 x) W)
  (hdone:∀ (D:Nat) (W:World),w.heap.size ≤ D → I xs W → W.heap[D]? = some (.deferred (some [])) → Q .normal { a with defers:={ target:=.collected D,args:=#[] } :: a.defers } W)
  (hstop:∀ (D:Nat) (pre:List α) (W:World),w.heap.size ≤ D → pre <+: xs → Ix pre W → W.heap[D]? = some (.deferred (some [])) → (Code.exit id).wpIn Fence.wide 0 P Q { a with defers:={ target:=.collected D,args:=#[] } :: a.defers } W) :
  (Code.rangeFunc g ps assign body).wpIn Fence.wide 0 P Q a w:=by
 refine wpIn_rangeFunc fun fn hfn=>?_
 let rec0:Loop:={ state:=.ready,pending:=none,fn,tmps:=a.tmps,params:=ps,assign,body,defers:=w.heap.size }
 let Fact (r:Loop) (W:World):Prop:=W.heap[w.heap.size]? = some (.deferred (some [])) ∧ W.heap[w.heap.size + 1]? = some (.loop r)
 have factOwn:∀ r s W W' row,Fact r W → W.grownBy W' row → (∀ b,row = some b → w.heap.size + 2 ≤ b) → (fun (_:List α)=>Fact r) s W':=fun r s W W' row hf hgr hr=>
  ⟨(hgr.block _ (Array.getElem?_eq_some_iff.1 hf.1).1 fun e=>by have:=hr _ e.symm; omega).trans hf.1,(hgr.block _ (Array.getElem?_eq_some_iff.1 hf.2).1 fun e=>by have:=hr _ e.symm; omega).trans hf.2⟩
 have factPut:∀ r r' W,Fact r W → Fact r' (W.putObj (w.heap.size + 1) (.loop r')):=fun r r' W hf=>
  ⟨(World.putObj_heap_other (by omega)).trans hf.1,World.putObj_heap_same (Array.getElem?_eq_some_iff.1 hf.2).1⟩
 have factKeep:∀ r W W',Fact r W → Mid w.heap.size (w.heap.size + 2 + c) W W' → Fact r W':=fun r W W' hf hk=>⟨(hk _ (Nat.le_refl _) (by omega)).trans hf.1,(hk _ (by omega) (by omega)).trans hf.2⟩;have putMid:∀ W o,Mid (w.heap.size + 2) (w.heap.size + 2 + c) W (W.putObj (w.heap.size + 1) o):=fun W o k h1 _=>World.putObj_heap_other (by omega)
 have putBelow:∀ r W o,Fact r W → Below n0 W (W.putObj (w.heap.size + 1) o):=fun r W o hf=>
  (Below.refl n0 W).grown (grownBy_putObj' _ _ _) (by have:=(Array.getElem?_eq_some_iff.1 hf.2).1; omega) fun k e=>by cases e; omega
 have ownPut:∀ {K:List α → World → Prop},OwnFrom w.heap.size K → ∀ r s W o,Fact r W → K s W → K s (W.putObj (w.heap.size + 1) o):=fun hK r s W o hf hs=>hK.putObj o hs (by omega) hf.2 rfl;obtain ⟨W1,hW1⟩:∃ W1,W1 = (w.alloc (.deferred (some []))).alloc (.loop rec0):=⟨_,rfl⟩
 have hz1:W1.heap.size = w.heap.size + 2:=by rw [hW1]; simp
 have hF1:Fact rec0 W1:=by
  have h1:=World.alloc_heap_new (w.alloc (.deferred (some []))) (.loop rec0);rw [World.size_alloc] at h1;rw [hW1];exact ⟨(Below.heap_alloc _ _ _ (by simp)).trans (World.alloc_heap_new w _),h1⟩
 have hb1:Below w.heap.size w W1:=by rw [hW1]; exact ((Below.refl _ w).alloc (Nat.le_refl _) _).alloc (by simp) _
 refine ⟨w.heap.size + 1,[{ target:=.collected w.heap.size,args:=#[] }],W1,{ target:=.fn (.func gf) lb,args:=#[.func (.yield (w.heap.size + 1)) #[] #[]] },W1,gf,
  #[.func (.yield (w.heap.size + 1)) #[] #[]] ++ lb,W1,?_,?_,fun _ _=>trivial,?_,fun h=>(by cases h),?_⟩
 ·rw [hW1]; exact run_enterLoop_outer _ _ _ _ _
 ·simp only [resolve,hg];simp [go_sem]
 ·simp [invoke,go_sem,eg]
 refine (hseq (w.heap.size + 1) (fun pre W=>I pre W ∧ Fact rec0 W) (fun pre W=>Ix pre W ∧ Fact { rec0 with state:=.done,pending:=some (.exit id) } W) W1 (hb0.trans (hb1.mono hb0.size))
  (fun s A B row hs hgr hr=>⟨zej hI (by omega) s A B row hs.1 hgr hr,factOwn _ s A B row hs.2 hgr fun b e=>by have:=(hr b e).1; omega⟩)
  (fun s A B row hs hgr hr=>⟨zej hIx (by omega) s A B row hs.1 hgr hr,factOwn _ s A B row hs.2 hgr fun b e=>by have:=(hr b e).1; omega⟩) ?_ ⟨zbh hI h0 hb1,hF1⟩).mono ?_
 ·rintro pre x W hpre hsz ⟨hi,hf⟩;rw [hz1] at hsz ⊢;refine ⟨fn,_,assign,body,run_yield hf.2 (hps x),roundIn_of_wpIn hfn (hassign _ x W _ ⟨_,run_beginRound hf.2 rfl,?_⟩)⟩;have hf2:=factPut _ { rec0 with state:=.busy } W hf
  have hnc:∀ k,w.heap.size ≤ k → k < w.heap.size + 2 → ∃ o:Obj,(W.putObj (w.heap.size + 1) (.loop { rec0 with state:=.busy })).heap[k]? = some o ∧ o.isCells = false:=fun k h1 h2=>by
   obtain rfl | rfl:k = w.heap.size ∨ k = w.heap.size + 1:=by omega
   ·exact ⟨_,hf2.1,rfl⟩
   ·exact ⟨_,hf2.2,rfl⟩
  refine wpIn_mono (hbody _ pre x _ hpre (by simpa using hsz) hnc (ownPut hI _ _ _ _ hf hi)) ?_;rintro e a3 W3 hp
  have fin:∀ (jump:Option Code),Mid w.heap.size (w.heap.size + 2 + c) (W.putObj (w.heap.size + 1) (.loop { rec0 with state:=.busy })) W3 →
    Fact { rec0 with state:=.busy } W3 ∧ (Instr.endRound (w.heap.size + 1) jump).run P W3 = .ok (.bool jump.isNone) (W3.putObj (w.heap.size + 1) (.loop { rec0 with state:=if jump.isNone then .ready else .done,pending:=jump })) ∧
    Mid (w.heap.size + 2) (w.heap.size + 2 + c) W (W3.putObj (w.heap.size + 1) (.loop { rec0 with state:=if jump.isNone then .ready else .done,pending:=jump })):=fun jump hk=>by
   have hf3:=factKeep _ _ _ hf2 hk;exact ⟨hf3,run_endRound (r:={ rec0 with state:=.busy }) jump hf3.2,((putMid _ _).trans (hk.part (by omega) (by omega))).trans (putMid _ _)⟩
  cases e with
  | normal=>
   obtain ⟨hk,hb,hi3⟩:=hp;obtain ⟨hf3,hr,hk4⟩:=fin none hk;exact ⟨_,_,hr,.inl ⟨rfl,⟨ownPut hI _ _ _ _ hf3 hi3,factPut _ _ _ hf3⟩,((putBelow _ _ _ hf).trans hb).trans (putBelow _ _ _ hf3),hk4⟩⟩
  | exit x=>
   obtain ⟨rfl,hk,hi3⟩:=hp;obtain ⟨hf3,hr,hk4⟩:=fin (some (.exit x)) hk;exact ⟨_,_,hr,.inr ⟨rfl,⟨ownPut hIx _ _ _ _ hf3 hi3,factPut _ _ _ hf3⟩,hk4⟩⟩
  | ret=>exact hp.elim
  | goto t=>exact hp.elim
  | panic ch=>exact hp.elim
  | outgrown=>exact hp.elim
 ·rintro e W2 ⟨⟨v,rfl⟩,⟨hi,hf⟩ | ⟨pre,hpre,hi,hf⟩⟩
  ·exact ⟨none,_,run_endLoop hf.2 (by simp [rec0]),hdone _ _ (Nat.le_refl _) (ownPut hI _ _ _ _ hf hi) (factPut _ _ _ hf).1⟩
  ·exact ⟨some (.exit id),_,run_endLoop hf.2 (by simp),hstop _ pre _ (Nat.le_refl _) hpre (ownPut hIx _ _ _ _ hf hi) (factPut _ _ _ hf).1⟩
def mark (D:Nat):Deferred:={ target:=.collected D,args:=#[] }
def Marks (n:Nat) (ds:List Nat) (w:World):Prop:=ds.Pairwise (fun a b=>b < a) ∧ ∀ D ∈ ds,n ≤ D ∧ w.heap[D]? = some (.deferred (some []))
theorem Marks.nil (n:Nat) (w:World):Marks n [] w:=⟨List.Pairwise.nil,fun _ h=>by cases h⟩
theorem Marks.lt {n:Nat} {ds:List Nat} {w:World} (h:Marks n ds w) {D:Nat} (hD:D ∈ ds):D < w.heap.size:=(Array.getElem?_eq_some_iff.1 (h.2 D hD).2).1
theorem Marks.cons {n D:Nat} {ds:List Nat} {w:World} (h:Marks n ds w) (hn:n ≤ D) (hD:w.heap[D]? = some (.deferred (some []))) (hl:∀ x ∈ ds,x < D):Marks n (D :: ds) w:=
 ⟨List.Pairwise.cons hl h.1,fun x hx=>by
  obtain rfl | hx:=List.mem_cons.1 hx
  ·exact ⟨hn,hD⟩
  ·exact h.2 x hx⟩
theorem Marks.keep {n b:Nat} {ds:List Nat} {w w':World} (h:Marks n ds w) (k:KeepT b w w') (hb:∀ D ∈ ds,D ≠ b):Marks n ds w':=
 ⟨h.1,fun D hD=>⟨(h.2 D hD).1,k.other D _ (h.2 D hD).2 rfl (hb D hD)⟩⟩
theorem Marks.grown {n N:Nat} {ds:List Nat} {w w':World} {row:Option Nat} (h:Marks n ds w) (g:w.grownBy w' row) (hr:∀ r,row = some r → N ≤ r) (hN:∀ D ∈ ds,D < N):Marks n ds w':=
 ⟨h.1,fun D hD=>⟨(h.2 D hD).1,(g.block D (h.lt hD) fun e=>by have:=hr D e.symm; have:=hN D hD; omega).trans (h.2 D hD).2⟩⟩
theorem zyn {P:Program} {fn:Func} {tmps:Array Value} {R:Ending → World → Prop} {n:Nat} {I:Unit → World → Prop} (hI:OwnFrom n I) (hfn:fn.results = #[]) (hR:∀ W,I () W → R (.returned (.tuple #[])) W) :
  ∀ (ds:List Nat) (w:World),Marks n ds w → I () w → LeavesInM Fence.wide 0 P fn tmps R (ds.map mark) .returning w
 | [],w,_,h=>⟨_,results_none hfn _ _ _,hR w h⟩
 | D :: ds,w,hm,h=>by
  obtain ⟨hp,ha⟩:=hm
  obtain ⟨h1,h2⟩:=List.pairwise_cons.1 hp
  obtain ⟨hn,hD⟩:=ha D (List.mem_cons_self ..)
  exact ⟨by simp,.inl ⟨D,_,rfl,run_takeDeferred hD,zyn hI hfn hR ds _ ⟨h2,fun x hx=>⟨(ha x (List.mem_cons_of_mem _ hx)).1,(World.putObj_heap_other (by have:=h1 x hx; omega)).trans (ha x (List.mem_cons_of_mem _ hx)).2⟩⟩ (hI.putObj _ h hn hD rfl)⟩⟩
theorem BuT.grown {B b N:Nat} {l:List UInt8} {w w':World} {row:Option Nat} (h:BuT B b l w) (g:w.grownBy w' row) (hr:∀ r,row = some r → N ≤ r ∧ ∃ o:Obj,w.heap[r]? = some o ∧ o.isCells = false):BuT B b l w':=by
 have key:∀ q,Lib.BuilderAt 140 5 B b q (Lib.byteCells l) w → Lib.BuilderAt 140 5 B b q (Lib.byteCells l) w':=fun q hq=>by
  obtain ⟨h1,v,h2,h3,h4⟩:=hq
  have hcell:∀ (x:Nat) cur t z,w.heap[x]? = some (.cells cur t z) → w'.heap[x]? = w.heap[x]?:=fun x cur t z hx=>g.block x (Array.getElem?_eq_some_iff.1 hx).1 fun e=>by
   obtain ⟨-,o,ho,hc⟩:=hr x e.symm;rw [hx] at ho
   cases ho
   cases hc
  refine ⟨h1,v,(hcell b _ _ _ h2).trans h2,za3 (K:=fun x=>some x ≠ row) h3 ⟨g.os,g.tape,g.output,g.size,fun x hx hk=>g.block x hx hk⟩ fun x hx hk=>?_,h4⟩;obtain ⟨-,⟨rfl,-⟩ | ⟨g',cap,cur',rfl,-,hh',-⟩⟩:=h3
  ·cases hx
  ·cases hx
   obtain ⟨-,o,ho,hc⟩:=hr _ hk.symm;rw [hh'] at ho
   cases ho
   cases hc
 obtain h | h:=h
 ·exact .inl (key _ h)
 ·exact .inr (key _ h)
theorem KeepT.turn {b N:Nat} {x w w':World} {row:Option Nat} (h:KeepT b x w) (g:w.grownBy w' row) (hr:∀ r,row = some r → N ≤ r ∧ ∃ o:Obj,w.heap[r]? = some o ∧ o.isCells = false) (hN:x.heap.size ≤ N):KeepT b x w':=
 ⟨Nat.le_trans h.size g.size,fun k cur t hk ht hn=>(g.block k (Nat.lt_of_lt_of_le (Array.getElem?_eq_some_iff.1 hk).1 h.size) fun e=>by
   have:=(hr k e.symm).1; have:=(Array.getElem?_eq_some_iff.1 hk).1; omega).trans (h.block k cur t hk ht hn),fun k o hk ho hn=>(g.block k (Nat.lt_of_lt_of_le (Array.getElem?_eq_some_iff.1 hk).1 h.size) fun e=>by
   have:=(hr k e.symm).1; have:=(Array.getElem?_eq_some_iff.1 hk).1; omega).trans (h.other k o hk ho hn)⟩
theorem any_kept {p:PlanD} {d:FrameD} {s:Int} {i:Nat} (hi:i ∈ za6 d.ways d.ways.length) (hk:zub p d s i = true) (hl:d.ways.length = p.ways.length):zz5 p d s p.ways.length = true:=by
 obtain ⟨h1,h2⟩:=zeu hi;unfold zz5;rw [List.any_eq_true];exact ⟨i,List.mem_range.2 (by omega),by show zud p d s i = true; rw [zuk,hk,h2]; rfl⟩
theorem none_kept {p:PlanD} {d:FrameD} {s:Int} (h:(za6 d.ways d.ways.length).all (fun i=>!zub p d s i) = true) (hl:d.ways.length = p.ways.length):zz5 p d s p.ways.length = false:=by
 unfold zz5;rw [List.any_eq_false];intro i hi;show ¬ zud p d s i = true;rw [zuk,Bool.and_eq_true];rintro ⟨h1,h2⟩;have:=List.all_eq_true.1 h i (by unfold za6; exact List.mem_filter.2 ⟨List.mem_range.2 (by have:=List.mem_range.1 hi; omega),h2⟩);rw [h1] at this
 cases this
end Go.Proofs.YtdhinkgjiapigabGreatDoor
namespace Go.Proofs.YtdhinkgjiapigabGreatDoor
open Go.RowKit Go.Shelf Go.Deep
open Classical
attribute [local go_sem] Oper.semAt_some
set_option maxRecDepth 100000 in
set_option maxHeartbeats 8000000 in
theorem zys (B b:Nat) (l:List UInt8) (p1 p2 p3 f1 f2 f3:Value) (p:PlanD) (d:FrameD) (w:World) (h:BuT B b l w) (hl:l.length ≤ 10000) (hB:B ≤ w.heap.size) (hp:PlanAt (fun c=>c < B) w p1 p2 p3 p) (hc:WaysC (fun c=>c < B) w p2 p.ways) (hf:FrameAt (fun c=>c < B) w f1 f2 f3 d) (hs:p.Small 1048576) (hd:d.Small 1048576) (hR:zas p d) (hsg:SignsAt w) (hsb : 0 < B) :
  Calls Tryz.prog 168 #[.agg #[.int .i64 p.sections,p1,p2,p3,.int .i64 p.hold],.agg #[.bool d.ok,f1,f2,f3],.func (.func 167) #[] #[.pointer (some ⟨b,0,none⟩)]] w fun e w'=>zy4 B b (l ++ zxz p d d.occ.length) w e w':=by
 have KF:=zaa fun (W:World) (k:Below B w W)=>hf.keep (Q:=fun c=>c < B) (za0 k fun _ z=>z) fun _ z=>z;have KC:=zaa fun (W:World) (k:Below B w W)=>hc.keep (Q:=fun c=>c < B) (za0 k fun _ z=>z) fun _ z=>z;obtain ⟨a1,c1,rfl⟩:=hp.1.size;obtain ⟨a2,c2,rfl⟩:=hp.2.1.size;obtain ⟨a3,c3,rfl⟩:=hp.2.2.size;obtain ⟨o1,m1,rfl⟩:=hf.1.size;obtain ⟨o2,m2,rfl⟩:=hf.2.1.size;obtain ⟨o3,m3,rfl⟩:=hf.2.2.size;obtain ⟨no,hno⟩:∃ n,n = d.occ.length:=⟨_,rfl⟩
 have hq40:no ≤ 100:=by rw [hno]; have h1:=hR.2.2.1; have h2:p.sections ≤ 60:=hR.1.parts.1.1.2; omega
 rw [← hno] at KF ⊢;have HNO:=zaa hno;have HR:=zaa hR;have HS:=zaa hs;have HD:=zaa hd;have hbl:=h.lt;have T0:=zbs w 37 42 198 #[.int .i64 p.sections,.slice a1 p.switches.length c1,.slice a2 p.ways.length c2,.slice a3 p.bars.length c3,.int .i64 p.hold] #[.bool d.ok,.slice o1 no m1,.slice o2 d.points.length m2,.slice o3 d.ways.length m3] #[.func (.func 167) #[] #[.pointer (some ⟨b,0,none⟩)]];have hrp:=T0.row 0 _ _ rfl;rw [Nat.add_zero] at hrp;have hrf:=T0.row 1 _ _ rfl;have hrt:=T0.row 2 _ _ rfl;have hb0:Below B w _:=T0.below.mono hB;have hB0:BuT B b l _:=h.call T0.below;have hk0:KeepT b w _:=KeepT.of_calls T0.below;obtain ⟨W0,hW0⟩:∃ W,W = ((w.alloc (.cells #[.int .i64 p.sections,.slice a1 p.switches.length c1,.slice a2 p.ways.length c2,.slice a3 p.bars.length c3,.int .i64 p.hold] 37)).alloc (.cells #[.bool d.ok,.slice o1 no m1,.slice o2 d.points.length m2,.slice o3 d.ways.length m3] 42)).alloc (.cells #[.func (.func 167) #[] #[.pointer (some ⟨b,0,none⟩)]] 198):=⟨_,rfl⟩
 have hz0:W0.heap.size = w.heap.size + 3:=by rw [hW0]; simp
 have g1:=T0.cell (j:=1) (i:=1) rfl rfl;rw [← hW0] at g1 hrp hrf hrt hb0 hB0 hk0;have HRP:=zaa hrp;have HRF:=zaa hrf;have HRT:=zaa hrt;have HB0:=zaa hb0;have HBT:=zaa hB0;have HK0:=zaa hk0;have HSG:=zaa hsg;have HW0:=zaa hW0;clear hf hp hc h T0 hrp hrf hrt hb0 hB0 hk0 hsg hno hR hs hd hW0;refine (callsIn_wide (n:=0)).1 (callsIn_of_wp_marks Tryz.func168 rfl trivial ?_ rfl);simp only [Tryz.ntmps168,List.size_toArray,List.length_cons,List.length_nil,Nat.reduceAdd,Nat.reduceSub,Array.replicate_succ,Array.replicate_zero,List.push_toArray,List.append_toArray,List.nil_append,List.cons_append]
 gi_wp2_with fail
 rw [← HW0.out];clear HW0;refine wpIn_wide.2 (wp_scope_straight ((wpIn_wide (n:=0)).1 ?_))
 gi_wp2_with fail
 refine wpIn_label ?_
 gi_wp2_with fail
 clear g1;refine wpIn_loop (fun a wr=>∃ u6 u7 u8 u9 u14 u15 u16 u17 u18 u19 u20 u21 u22 u23 u24 u25 u26 u27 u28 u29 u30 u31 u32 u33 u34 u35:Value,∃ (ds:List Nat) (k:Nat),k ≤ no ∧ a = { tmps:=#[.agg #[.int .i64 p.sections,.slice a1 p.switches.length c1,.slice a2 p.ways.length c2,.slice a3 p.bars.length c3,.int .i64 p.hold],.agg #[.bool d.ok,.slice o1 no m1,.slice o2 d.points.length m2,.slice o3 d.ways.length m3],.func (.func 167) #[] #[.pointer (some ⟨b,0,none⟩)],.pointer (some ⟨w.heap.size,0,none⟩),.pointer (some ⟨w.heap.size + 1,0,none⟩),.pointer (some ⟨w.heap.size + 1 + 1,0,none⟩),u6,u7,u8,u9,.pointer (some ⟨w.heap.size + 1,1,none⟩),.slice o1 no m1,.int .i64 (no:Int),.int .i64 (k:Int),u14,u15,u16,u17,u18,u19,u20,u21,u22,u23,u24,u25,u26,u27,u28,u29,u30,u31,u32,u33,u34,u35],defers:=ds.map mark } ∧ BuT B b (l ++ zxz p d k) wr ∧ Below B w wr ∧ KeepT b W0 wr ∧ B ≤ wr.heap.size ∧ Marks W0.heap.size ds wr) (fun a _=>no - (intOf (a.tmps.getD 13 undef)).toNat) ?start ?round
 case start=>exact ⟨_,_,_,_,_,_,_,_,_,_,_,_,_,_,_,_,_,_,_,_,_,_,_,_,_,_,[],0,Nat.zero_le _,rfl,by show BuT B b (l ++ []) W0; rw [List.append_nil]; exact HBT.out,HB0.out,KeepT.refl _ _,Nat.le_trans hB HK0.out.size,Marks.nil _ _⟩
 case round=>
  rintro a wr ⟨u6,u7,u8,u9,u14,u15,u16,u17,u18,u19,u20,u21,u22,u23,u24,u25,u26,u27,u28,u29,u30,u31,u32,u33,u34,u35,ds,k,hk,rfl,hbt,hbe,hke,hBr,hmk⟩;clear HB0 HBT;by_cases hlt:k < no
  ·have hlti:decide ((k:Int) < (no:Int)) = true:=decide_eq_true (by omega)
   have hkI:(k:Int) < (no:Int):=by omega
   obtain ⟨x,hx⟩:=zb4 d.occ (show k < d.occ.length by have:=HNO.out; omega);obtain ⟨ax,kx,ex,h0 | ⟨bq,oq,hax,hbq,hcq⟩⟩:=(KF.out _ hbe).1
   ·have:=HNO.out; omega
   obtain rfl:o1 = some ⟨bq,oq,none⟩:=by cases ex; exact hax
   clear ex hax;have z0:=hcq k (by have:=HNO.out; omega) x hx;have hrp:=hke.row HRP.out (by decide) (by omega);have hrf:=hke.row HRF.out (by decide) (by omega);have hrt:=hke.row HRT.out (by decide) (by omega);have b0:=hrp.cell (i:=0) (by show 0 < 5; omega);have b1:=hrp.cell (i:=1) (by show 1 < 5; omega);have b2:=hrp.cell (i:=2) (by show 2 < 5; omega);have b3:=hrp.cell (i:=3) (by show 3 < 5; omega);have b4:=hrp.cell (i:=4) (by show 4 < 5; omega);have q0:=hrf.cell (i:=0) (by show 0 < 4; omega);have q1:=hrf.cell (i:=1) (by show 1 < 4; omega);have q2:=hrf.cell (i:=2) (by show 2 < 4; omega);have q3:=hrf.cell (i:=3) (by show 3 < 4; omega);have t0:wr.cell? ⟨w.heap.size + 1 + 1,0,none⟩ = some (.func (.func 167) #[] #[.pointer (some ⟨b,0,none⟩)]):=hrt.cell (i:=0) (by show 0 < 1; omega);have HBT:=zaa hbt;have HBE:=zaa hbe;have HKE:=zaa hke;have HMK:=zaa hmk;clear hbt hbe hke hmk hcq hrp hrf hrt
   have hnb:∀ D ∈ ds,D ≠ b:=fun D hD e=>by have:=(HMK.out.2 D hD).1; omega
   have HNB:=zaa hnb;clear hnb
   cases x
   ·have HX:=zaa hx;clear hx;have hzk:=HKE.out.size;have hzW:=HK0.out.size;have TA:=zaw wr 130 #[.int .i64 p.sections,.slice a1 p.switches.length c1,.slice a2 p.ways.length c2,.slice a3 p.bars.length c3,.int .i64 p.hold,.bool d.ok,.slice (some ⟨bq,oq,none⟩) no m1,.slice o2 d.points.length m2,.slice o3 d.ways.length m3,.int .i64 (k:Int)];have r0:=(TA.below.cell (p:=⟨w.heap.size + 1,0,none⟩) (by show w.heap.size + 1 < _; omega)).trans q0;have r1:=(TA.below.cell (p:=⟨w.heap.size + 1,1,none⟩) (by show w.heap.size + 1 < _; omega)).trans q1;have r2:=(TA.below.cell (p:=⟨w.heap.size + 1,2,none⟩) (by show w.heap.size + 1 < _; omega)).trans q2;have r3:=(TA.below.cell (p:=⟨w.heap.size + 1,3,none⟩) (by show w.heap.size + 1 < _; omega)).trans q3;clear TA
    gi_wp2_with fail
    refine ⟨trivial,rfl,(callsIn_wide.2 (zf5 _ _ _ _ _)).mono ?_⟩;clear r0 r1 r2 r3 b0 b1 b2 b3 b4 q0 q1 q2 q3 z0;rintro e wc ⟨rfl,hwc⟩;have TB:=zbc wr 130 42 #[.int .i64 p.sections,.slice a1 p.switches.length c1,.slice a2 p.ways.length c2,.slice a3 p.bars.length c3,.int .i64 p.hold,.bool d.ok,.slice (some ⟨bq,oq,none⟩) no m1,.slice o2 d.points.length m2,.slice o3 d.ways.length m3,.int .i64 (k:Int)] #[.bool d.ok,.slice (some ⟨bq,oq,none⟩) no m1,.slice o2 d.points.length m2,.slice o3 d.ways.length m3];rw [← hwc] at TB
    have hsz:wc.heap.size = wr.heap.size + 2:=by rw [hwc]; simp
    have hs1:(wr.alloc (.cells #[.int .i64 p.sections,.slice a1 p.switches.length c1,.slice a2 p.ways.length c2,.slice a3 p.bars.length c3,.int .i64 p.hold,.bool d.ok,.slice (some ⟨bq,oq,none⟩) no m1,.slice o2 d.points.length m2,.slice o3 d.ways.length m3,.int .i64 (k:Int)] 130)).heap.size = wr.heap.size + 1:=by simp
    rw [hs1];clear hwc hs1;have tc:=(TB.below.cell (p:=⟨w.heap.size + 1 + 1,0,none⟩) (by show w.heap.size + 1 + 1 < _; omega)).trans t0;have HTB:=zaa TB;have HTC:=zaa tc;have f0:wc.cell? ⟨wr.heap.size + 1,0,none⟩ = some (.bool d.ok):=TB.cell (j:=1) (i:=0) rfl rfl;have f1:wc.cell? ⟨wr.heap.size + 1,1,none⟩ = some (.slice (some ⟨bq,oq,none⟩) no m1):=TB.cell (j:=1) (i:=1) rfl rfl;have f2:wc.cell? ⟨wr.heap.size + 1,2,none⟩ = some (.slice o2 d.points.length m2):=TB.cell (j:=1) (i:=2) rfl rfl;have f3:wc.cell? ⟨wr.heap.size + 1,3,none⟩ = some (.slice o3 d.ways.length m3):=TB.cell (j:=1) (i:=3) rfl rfl;have hbc:Below B w wc:=HBE.out.trans (TB.below.mono hBr);have HBC:=zaa hbc;have HKB:=zaa (HKE.out.trans (KeepT.of_calls (b:=b) TB.below));have HBU:=zaa (HBT.out.call TB.below);have HMC:=zaa (HMK.out.keep (KeepT.of_calls (b:=b) TB.below) HNB.out);have hmd:∀ D ∈ ds,D < wc.heap.size:=fun D hD=>HMC.out.lt hD;have HMD:=zaa hmd;have hl2:d.ways.length = p.ways.length:=HR.out.2.2.2.2.1;have HL:=zaa hl2
    have hkeep:∀ x W,x ∈ za6 d.ways d.ways.length → Below B w W → B ≤ W.heap.size → Calls Tryz.prog 113 #[.agg #[.int .i64 p.sections,.slice a1 p.switches.length c1,.slice a2 p.ways.length c2,.slice a3 p.bars.length c3,.int .i64 p.hold,.bool d.ok,.slice (some ⟨bq,oq,none⟩) no m1,.slice o2 d.points.length m2,.slice o3 d.ways.length m3,.int .i64 (k:Int)],.int .i64 (x:Int)] W fun e W'=>e = .returned (.bool (zub p d (k:Int) x)) ∧ Below W.heap.size W W':=fun x W hx hW hBW=>by
     have hlt:=(zeu hx).1;obtain ⟨y,hy⟩:=zb4 p.ways (show x < p.ways.length by omega);obtain ⟨g,hg⟩:=zb4 d.ways hlt;obtain ⟨v1,v2⟩:=zfv HR.out hy hg;rw [zui hy hg];exact zm1 _ _ _ _ _ _ _ _ _ p.ways d.ways x y g (k:Int) W ((KC.out W hW).keep (zax _ _) fun _ hb=>Nat.lt_of_lt_of_le hb hBW) ((KF.out W hW).2.2.keep (zax _ _) fun _ hb=>Nat.lt_of_lt_of_le hb hBW) hy hg HS.out.2.1 HD.out.2.2.1 (HS.out.2.2.1 y (List.mem_of_getElem? hy)).1 v1 v2
    have HKP:=zaa hkeep;have HGV:=zaa (zd3 _ _ _ _ d.ways wc.heap.size (wr.heap.size + 1) wc (by omega) (Nat.le_refl _) f0 f1 f2 f3 ((KF.out wc hbc).2.2.keep (zax _ _) fun _ hb=>Nat.lt_of_lt_of_le hb (by omega)) HD.out.2.2.1)
    have hsx:secC p d k = if zz5 p d (k:Int) p.ways.length = true then 61 else 46:=by
     unfold secC;rw [List.getD_eq_getElem?_getD,HX.out];rfl
    have HSX:=zaa hsx;clear hkeep f0 f1 f2 f3 TB tc hbc hmd hl2 hsx t0
    gi_wp2_with fail
    refine zzw (id:=1) (w0:=wc) (n0:=wc.heap.size) (c:=0) rfl (enters_of Tryz.func153 (by kernel_rfl) rfl) HGV.out (Below.refl _ _) (Nat.le_refl _) (fun _=>rfl)
     (fun pre W=>pre.all (fun i=>!zub p d (k:Int) i) = true ∧ Below wc.heap.size wc W)
     (fun _ W=>BuT B b (l ++ zxz p d (k + 1)) W ∧ Below B w W ∧ KeepT b W0 W ∧ B ≤ W.heap.size ∧ Marks W0.heap.size ds W)
     (fun _ A C row hs hg hr=>⟨hs.1,hs.2.grown hg hs.2.size fun r e=>(hr r e).1⟩)
     (fun _ A C row hs hg hr=>⟨hs.1.grown hg hr,hs.2.1.grown hg hs.2.2.2.1 fun r e=>by have:=(hr r e).1; omega,hs.2.2.1.turn hg hr (by omega),Nat.le_trans hs.2.2.2.1 hg.size,hs.2.2.2.2.grown hg (fun r e=>(hr r e).1) HMD.out⟩)
     ⟨rfl,Below.refl _ _⟩
     (fun x=>{ tmps:=#[.agg #[.int .i64 p.sections,.slice a1 p.switches.length c1,.slice a2 p.ways.length c2,.slice a3 p.bars.length c3,.int .i64 p.hold],.agg #[.bool d.ok,.slice (some ⟨bq,oq,none⟩) no m1,.slice o2 d.points.length m2,.slice o3 d.ways.length m3],.func (.func 167) #[] #[.pointer (some ⟨b,0,none⟩)],.pointer (some ⟨w.heap.size,0,none⟩),.pointer (some ⟨w.heap.size + 1,0,none⟩),.pointer (some ⟨w.heap.size + 1 + 1,0,none⟩),.int .i64 (k:Int),.bool false,.pointer (some ⟨wr.heap.size,0,none⟩),.int .i64 (x:Int),.pointer (some ⟨w.heap.size + 1,1,none⟩),.slice (some ⟨bq,oq,none⟩) no m1,.int .i64 (no:Int),.int .i64 (k:Int),.bool true,.int .i64 (k:Int),.pointer (some ⟨bq,oq + k,none⟩),.bool false,.bool false,u19,u20,.agg #[.int .i64 p.sections,.slice a1 p.switches.length c1,.slice a2 p.ways.length c2,.slice a3 p.bars.length c3,.int .i64 p.hold],.agg #[.bool d.ok,.slice (some ⟨bq,oq,none⟩) no m1,.slice o2 d.points.length m2,.slice o3 d.ways.length m3],.int .i64 (k:Int),.agg #[.int .i64 p.sections,.slice a1 p.switches.length c1,.slice a2 p.ways.length c2,.slice a3 p.bars.length c3,.int .i64 p.hold,.bool d.ok,.slice (some ⟨bq,oq,none⟩) no m1,.slice o2 d.points.length m2,.slice o3 d.ways.length m3,.int .i64 (k:Int)],.agg #[.bool d.ok,.slice (some ⟨bq,oq,none⟩) no m1,.slice o2 d.points.length m2,.slice o3 d.ways.length m3],.func (.func 153) #[] #[.pointer (some ⟨wr.heap.size + 1,0,none⟩)],.int .i64 (x:Int),u28,u29,u30,u31,u32,u33,u34,u35],defers:=[] }) ?assign ?body ?done ?stop
    case assign=>
     intro lr x Wr K hK
     gi_wp2
     exact hK
    case body=>
     rintro lr pre x Wr hpre hszr hnc ⟨hall,hB1⟩;have hmem:x ∈ za6 d.ways d.ways.length:=hpre.subset (by simp);have TW:=HTB.out.call hB1;have y0:=TW.cell (j:=0) (i:=0) rfl rfl;have y1:=TW.cell (j:=0) (i:=1) rfl rfl;have y2:=TW.cell (j:=0) (i:=2) rfl rfl;have y3:=TW.cell (j:=0) (i:=3) rfl rfl;have y4:=TW.cell (j:=0) (i:=4) rfl rfl;have y5:=TW.cell (j:=0) (i:=5) rfl rfl;have y6:=TW.cell (j:=0) (i:=6) rfl rfl;have y7:=TW.cell (j:=0) (i:=7) rfl rfl;have y8:=TW.cell (j:=0) (i:=8) rfl rfl;have y9:=TW.cell (j:=0) (i:=9) rfl rfl;rw [Nat.add_zero] at y0 y1 y2 y3 y4 y5 y6 y7 y8 y9;clear TW;have tw:=(hB1.cell (p:=⟨w.heap.size + 1 + 1,0,none⟩) (by show w.heap.size + 1 + 1 < _; omega)).trans HTC.out
     have hBW:B ≤ Wr.heap.size:=by omega
     have hBw:Below B w Wr:=HBC.out.trans (hB1.mono (by omega));have hI:=HKP.out x Wr hmem hBw hBW;have HB1:=zaa hB1;have HBw:=zaa hBw;have HTW:=zaa tw;have HNC:=zaa hnc;have HALL:=zaa hall;clear hB1 hBw tw hnc hall
     cases hkx:zub p d (k:Int) x
     ·rw [hkx] at hI;have HI:=zaa hI;have HKX:=zaa hkx;clear hI hkx
      gi_wp2_with fail
      refine ⟨trivial,rfl,CallsIn.inRound lr ((callsIn_wide.2 HI.out).mono ?_)⟩;clear y0 y1 y2 y3 y4 y5 y6 y7 y8 y9;rintro e v1 ⟨rfl,hb1⟩;have FIN:=zaa (show Mid wc.heap.size (wc.heap.size + 2 + 0) Wr v1 ∧ Below wc.heap.size Wr v1 ∧ (pre ++ [x]).all (fun i=>!zub p d (k:Int) i) = true ∧ Below wc.heap.size wc v1 from ⟨Mid.call hb1 (by omega),hb1.mono (by omega),by rw [List.all_append,HALL.out]; simp [HKX.out],HB1.out.trans (hb1.mono (by omega))⟩);clear hb1 HI
      gi_wp2
      exact FIN.out
     ·rw [hkx] at hI;have HI:=zaa hI
      have hw1:l ++ zxz p d k ++ [61] = l ++ zxz p d (k + 1):=by rw [zx4,HSX.out,any_kept hmem hkx HL.out]; simp
      have HW1:=zaa hw1;clear hI hkx hw1
      gi_wp2_with fail
      refine ⟨trivial,rfl,CallsIn.inRound lr ((callsIn_wide.2 HI.out).mono ?_)⟩;clear y0 y1 y2 y3 y4 y5 y6 y7 y8 y9;rintro e v1 ⟨rfl,hb1⟩;have hzv:=hb1.size;have t1:=(hb1.cell (p:=⟨w.heap.size + 1 + 1,0,none⟩) (by show w.heap.size + 1 + 1 < _; omega)).trans HTW.out;have hBv:Below B w v1:=HBw.out.trans (hb1.mono hBW);have HPU:=zaa (zx6 B b (l ++ zxz p d k) 6 61 v1 ((HBU.out.call HB1.out).call hb1) (by rw [List.length_append,zx0]; omega) (by omega) rfl (HSG.out.below hBv hsb));rw [HW1.out] at HPU;have HBv:=zaa hBv;have hk1:KeepT b wc v1:=(KeepT.of_calls HB1.out).trans (KeepT.of_calls hb1);have HK1:=zaa hk1;have HV1:=zaa hb1;clear hk1 hb1 hBv HI
      gi_wp2_with fail
      refine ⟨trivial,rfl,CallsIn.inRound lr ((callsIn_wide.2 HPU.out).mono ?_)⟩;rintro e v2 ⟨rfl,g1,g2,g3⟩
      have FIN:=zaa (show Mid wc.heap.size (wc.heap.size + 2 + 0) Wr v2 ∧ BuT B b (l ++ zxz p d (k + 1)) v2 ∧ Below B w v2 ∧ KeepT b W0 v2 ∧ B ≤ v2.heap.size ∧ Marks W0.heap.size ds v2 from ⟨fun j h1 h2=>by
        obtain ⟨o,ho,hoc⟩:=HNC.out j h1 (by omega)
        exact (g3.other j o ((HV1.out.block j (by omega)).trans ho) hoc (by omega)).trans ho.symm,g1,HBv.out.trans g2,(HKB.out.trans HK1.out).trans g3,by have:=g3.size; omega,(HMC.out.keep HK1.out HNB.out).keep g3 HNB.out⟩)
      clear g1 g2 g3 HPU t1
      gi_wp2
      exact ⟨rfl,FIN.out⟩
    case done=>
     rintro D Wr hD ⟨hall,hB1⟩ hK;have hzr:=hB1.size;have tw:=(hB1.cell (p:=⟨w.heap.size + 1 + 1,0,none⟩) (by show w.heap.size + 1 + 1 < _; omega)).trans HTC.out;have hBw:Below B w Wr:=HBC.out.trans (hB1.mono (by omega))
     have hw1:l ++ zxz p d k ++ [46] = l ++ zxz p d (k + 1):=by rw [zx4,HSX.out,none_kept hall HL.out]; simp
     have HPU:=zaa (zx6 B b (l ++ zxz p d k) 5 46 Wr (HBU.out.call hB1) (by rw [List.length_append,zx0]; omega) (by omega) rfl (HSG.out.below hBw hsb));rw [hw1] at HPU;have HMW:=zaa ((HMC.out.keep (KeepT.of_calls (b:=b) hB1) HNB.out).cons (show W0.heap.size ≤ D by omega) hK fun z hz=>Nat.lt_of_lt_of_le (HMD.out z hz) hD);have HKW:=zaa (HKB.out.trans (KeepT.of_calls (b:=b) hB1));have HBw:=zaa hBw;clear hall hB1 hBw hw1 hK
     gi_wp2_with fail
     refine ⟨trivial,rfl,(callsIn_wide.2 HPU.out).mono ?_⟩;rintro e v2 ⟨rfl,g1,g2,g3⟩;have FIN:=zaa (show BuT B b (l ++ zxz p d (k + 1)) v2 ∧ Below B w v2 ∧ KeepT b W0 v2 ∧ B ≤ v2.heap.size ∧ Marks W0.heap.size (D :: ds) v2 from ⟨g1,HBw.out.trans g2,HKW.out.trans g3,by have:=g3.size; omega,HMW.out.keep g3 fun z hz e=>by have:=(HMW.out.2 z hz).1; omega⟩);clear g1 g2 g3 HPU tw
     gi_wp2
     rw [show (k:Int) + 1 = ((k + 1:Nat):Int) from rfl];exact ⟨⟨_,_,_,_,_,_,_,_,_,_,_,_,_,_,_,_,_,_,_,_,_,_,_,_,_,_,D :: ds,k + 1,by omega,rfl,FIN.out⟩,by simp [intOf]; omega⟩
    case stop=>
     rintro D pre Wr hD hpre ⟨h1,h2,h3,h4,h5⟩ hK;have FIN:=zaa (show BuT B b (l ++ zxz p d (k + 1)) Wr ∧ Below B w Wr ∧ KeepT b W0 Wr ∧ B ≤ Wr.heap.size ∧ Marks W0.heap.size (D :: ds) Wr from ⟨h1,h2,h3,h4,h5.cons (show W0.heap.size ≤ D by omega) hK fun z hz=>Nat.lt_of_lt_of_le (HMD.out z hz) hD⟩);clear h1 h2 h3 h4 h5 hK
     gi_wp2
     rw [show (k:Int) + 1 = ((k + 1:Nat):Int) from rfl];exact ⟨⟨_,_,_,_,_,_,_,_,_,_,_,_,_,_,_,_,_,_,_,_,_,_,_,_,_,_,D :: ds,k + 1,by omega,rfl,FIN.out⟩,by simp [intOf]; omega⟩
   ·have hw1:l ++ zxz p d k ++ [35] = l ++ zxz p d (k + 1):=by
     rw [zx4,List.append_assoc];unfold secC;rw [List.getD_eq_getElem?_getD,hx];rfl
    have HPU:=zaa (zx6 B b (l ++ zxz p d k) 7 35 wr HBT.out (by rw [List.length_append,zx0]; omega) hBr rfl (HSG.out.below HBE.out hsb));rw [hw1] at HPU;clear hw1 hx
    gi_wp2_with fail
    refine ⟨trivial,rfl,(callsIn_wide.2 HPU.out).mono ?_⟩;rintro e w3 ⟨rfl,g1,g2,g3⟩;clear b0 b1 b2 b3 b4 q0 q1 q2 q3 t0 z0;have FIN:=zaa (show BuT B b (l ++ zxz p d (k + 1)) w3 ∧ Below B w w3 ∧ KeepT b W0 w3 ∧ B ≤ w3.heap.size ∧ Marks W0.heap.size ds w3 from ⟨g1,HBE.out.trans g2,HKE.out.trans g3,Nat.le_trans hBr g3.size,HMK.out.keep g3 HNB.out⟩);clear g1 g2 g3 HPU
    gi_wp2
    rw [show (k:Int) + 1 = ((k + 1:Nat):Int) from rfl];exact ⟨⟨_,_,_,_,_,_,_,_,_,_,_,_,_,_,_,_,_,_,_,_,_,_,_,_,_,_,ds,k + 1,by omega,rfl,FIN.out⟩,by simp [intOf]; omega⟩
  ·have hlti:decide ((k:Int) < (no:Int)) = false:=decide_eq_false (by omega)
   obtain rfl:k = no:=by omega
   have FIN:=zaa (show zy4 B b (l ++ zxz p d k) w (.returned (.tuple #[])) wr from ⟨rfl,hbt,hbe,HK0.out.trans hke⟩);have HMK:=zaa hmk;clear hbt hbe hke hmk
   gi_wp2
   exact zyn (n:=W0.heap.size) (I:=fun _ W=>zy4 B b (l ++ zxz p d k) w (.returned (.tuple #[])) W) (fun _ A C row hs hg hr=>⟨rfl,hs.2.1.grown hg hr,hs.2.2.1.grown hg (Nat.le_trans hB hs.2.2.2.size) fun r e=>by have:=(hr r e).1; omega,hs.2.2.2.turn hg hr (by omega)⟩) rfl (fun W hW=>hW) ds wr HMK.out FIN.out
end Go.Proofs.YtdhinkgjiapigabGreatDoor
namespace Go.Proofs.YtdhinkgjiapigabGreatDoor
open Go.RowKit Go.Lib
open Classical
def zzi:DataW Unit:=tabData .u8 (signL.map fun c=>(c.toNat:Int))
theorem Tryz.sgName : Tryz.prog.globalNamed "loop.example/tappet/impl.signs" = some 0 := by kernel_rfl
theorem Tryz.sgType:(Tryz.prog.globals[0]?).map (·.type) = some 146:=by kernel_rfl
theorem zza {l : List (String × DataW Unit)} {W : World} (h : laidMet Tryz.prog l W) (hm : ("loop.example/tappet/impl.signs", zzi) ∈ l) : SignsAt W ∧ 0 < W.heap.size := by
 obtain ⟨g,t,cs,fuel,p,hg,hty,hvar,hd⟩:=laidMet.reads h hm
 obtain rfl:=Option.some.inj (Tryz.sgName.symm.trans hg)
 obtain rfl:=Option.some.inj (Tryz.sgType.symm.trans hty)
 have hcs:=cells_of_tab (n:=13) Tryz.underlying146 Tryz.underlying5 (by kernel_rfl) (by kernel_rfl) hd
 have key:SignsAt W:=fun k c hc=>by
  rw [World.var?_cell hg hvar k,← Array.getElem?_toList,hcs]
  simp [hc]
 refine ⟨key,?_⟩
 have:=key 0 45 rfl
 unfold World.cell? at this
 rcases Nat.lt_or_ge 0 W.heap.size with z | z
 ·exact z
 ·rw [Array.getElem?_eq_none (by simpa using z)] at this
  cases this
end Go.Proofs.YtdhinkgjiapigabGreatDoor

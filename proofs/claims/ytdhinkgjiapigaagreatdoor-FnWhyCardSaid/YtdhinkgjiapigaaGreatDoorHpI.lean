import Derived.Test.YtdhinkgjiapigaaGreatDoorStood
import Derived.Test.YtdhinkgjiapigaaGreatDoorConc
import Derived.Test.YtdhinkgjiapigaaGreatDoorWantA
import Derived.Test.YtdhinkgjiapigaaGreatDoorDoI4
import Derived.Deep.DeepCutAuto
import Derived.Test.YtdhinkgjiapigaaGreatDoorBx
namespace Go.Proofs.YtdhinkgjiapigaaGreatDoor
open Go.RowKit Go.Deep Go.Shelf Go.Sort
open Classical
theorem zwr {a:Option Addr} {n m c:Nat} (h:n = m):Ending.returned (.slice a n c) = .returned (.slice a m c):=by rw [h]
def zv5 (ts:List (Int × Int)) (lk sk:Int × Int → Bool):List Int:=(ts.filter fun y=>lk y || sk y).map Prod.fst
theorem zwn {ts:List (Int × Int)} {lk sk:Int × Int → Bool} {j:Nat} {y:Int × Int} (hy:ts[j]? = some y) (h:(lk y || sk y) = false):zv5 (ts.take (j + 1)) lk sk = zv5 (ts.take j) lk sk:=by
 unfold zv5;rw [zku hy,List.filter_append,List.filter_cons_of_neg (by simp [h]),List.filter_nil,List.append_nil]
theorem zv7 {ts:List (Int × Int)} {lk sk:Int × Int → Bool} {j:Nat} {y:Int × Int} (hy:ts[j]? = some y) (h:(lk y || sk y) = true):zv5 (ts.take (j + 1)) lk sk = zv5 (ts.take j) lk sk ++ [y.1]:=by
 unfold zv5;rw [zku hy,List.filter_append,List.filter_cons_of_pos (by simpa using h),List.filter_nil,List.map_append];rfl
theorem zwm {ts:List (Int × Int)} {lk sk:Int × Int → Bool} {j:Nat}:(zv5 (ts.take j) lk sk).length ≤ j:=by
 unfold zv5;rw [List.length_map];exact Nat.le_trans (List.length_filter_le _ _) (by rw [List.length_take]; omega)
theorem zwf {ts:List (Int × Int)} {lk sk:Int × Int → Bool}:(zv5 ts lk sk).length = 0 ↔ ts.any lk = false ∧ ts.any sk = false:=by
 unfold zv5;rw [List.length_map,List.length_eq_zero_iff,List.filter_eq_nil_iff,List.any_eq_false,List.any_eq_false];constructor
 ·intro h;exact ⟨fun y hy e=>h y hy (by rw [e]; rfl),fun y hy e=>h y hy (by rw [e]; simp)⟩
 ·rintro ⟨h,k⟩ y hy e;rcases (show lk y = true ∨ sk y = true by simpa using e) with e | e
  ·exact h y hy e
  ·exact k y hy e
set_option maxRecDepth 100000 in
set_option maxHeartbeats 1600000 in
theorem zwd (a1 a2 a3 o1 o2 o3:Option Addr) (c1 c2 c3 m1 m2 m3:Nat) (p:PlanD) (d:FrameD) (i:Nat) (ts:List (Int × Int)) (lk sk:Int × Int → Bool) (w:World) (hts:ts.length ≤ 1048576)
  (htu:∀ W,Below w.heap.size w W → Calls Tryz.prog 105 #[.agg #[.int .i64 p.sections,.slice a1 p.switches.length c1,.slice a2 p.ways.length c2,.slice a3 p.bars.length c3,.int .i64 p.hold,.bool d.ok,.slice o1 d.occ.length m1,.slice o2 d.points.length m2,.slice o3 d.ways.length m3,.int .i64 (i:Int)]] W fun e w'=>∃ v,e = .returned v ∧ Below W.heap.size W w' ∧ Lies (In w') w' v ts)
  (hlk:∀ y W,y ∈ ts → Below w.heap.size w W → Calls Tryz.prog 107 #[.agg #[.int .i64 p.sections,.slice a1 p.switches.length c1,.slice a2 p.ways.length c2,.slice a3 p.bars.length c3,.int .i64 p.hold,.bool d.ok,.slice o1 d.occ.length m1,.slice o2 d.points.length m2,.slice o3 d.ways.length m3,.int .i64 (i:Int)],.agg #[.int .i64 y.1,.int .i64 y.2]] W fun e w'=>e = .returned (.bool (lk y)) ∧ Below W.heap.size W w')
  (hsk:∀ y W,y ∈ ts → Below w.heap.size w W → Calls Tryz.prog 108 #[.agg #[.int .i64 p.sections,.slice a1 p.switches.length c1,.slice a2 p.ways.length c2,.slice a3 p.bars.length c3,.int .i64 p.hold,.bool d.ok,.slice o1 d.occ.length m1,.slice o2 d.points.length m2,.slice o3 d.ways.length m3,.int .i64 (i:Int)],.agg #[.int .i64 y.1,.int .i64 y.2]] W fun e w'=>e = .returned (.bool (sk y)) ∧ Below W.heap.size W w') :
  Calls Tryz.prog 66 #[.agg #[.int .i64 p.sections,.slice a1 p.switches.length c1,.slice a2 p.ways.length c2,.slice a3 p.bars.length c3,.int .i64 p.hold,.bool d.ok,.slice o1 d.occ.length m1,.slice o2 d.points.length m2,.slice o3 d.ways.length m3,.int .i64 (i:Int)]] w fun e w'=>∃ a c,e = .returned (.slice a (zv5 ts lk sk).length c) ∧ Below w.heap.size w w':=by
 have T1:=zaw w 107 #[.int .i64 p.sections,.slice a1 p.switches.length c1,.slice a2 p.ways.length c2,.slice a3 p.bars.length c3,.int .i64 p.hold,.bool d.ok,.slice o1 d.occ.length m1,.slice o2 d.points.length m2,.slice o3 d.ways.length m3,.int .i64 (i:Int)];obtain ⟨ce0,ce1,ce2,ce3,ce4,ce5,ce6,ce7,ce8,ce9⟩:=xb10 T1 0 rfl rfl rfl rfl rfl rfl rfl rfl rfl rfl rfl;rw [Nat.add_zero] at ce0 ce1 ce2 ce3 ce4 ce5 ce6 ce7 ce8 ce9;have HT1:=zaa T1;have HTU:=zaa (htu _ T1.below);have HLK:=zaa hlk;have HSK:=zaa hsk;clear htu hlk hsk T1;go_enter Tryz.func66,Tryz.ntmps66
 go_wp2_with fail
 refine HTU.out.mono ?_;rintro e w2 ⟨v,rfl,hb,hv⟩;clear ce0 ce1 ce2 ce3 ce4 ce5 ce6 ce7 ce8 ce9 HTU;have hT2:=HT1.out.call hb;obtain ⟨av,cv,rfl,hc⟩:=hv;obtain ⟨nt,hnt⟩:∃ n,n = ts.length:=⟨_,rfl⟩;rw [← hnt] at hc hts ⊢;have HC:=zaa hc;have HNT:=zaa hnt;have HT2:=zaa hT2;clear hb hc hnt hT2 HT1;go_wp2
 go_loopw [3,9] (fun o z wr=>∃ (j:Nat) (l:List Int),j ≤ nt ∧ z = .int .i64 (j:Int) ∧ wr.ownsRow w2.heap.size 3 1 o l.length (zcg l) ∧ l = zv5 (ts.take j) lk sk ∧ Below w2.heap.size w2 wr) (fun _ z _=>nt - (intOf z).toNat)
 case atStart=>exact ⟨0,[],Nat.zero_le _,rfl,World.ownsRow_nil _ _ _ _,by simp [zv5],Below.refl _ _⟩
 case round=>
  obtain ⟨j,l,hj,rfl,hown,hl,hbr⟩:=hrel;rename World=>wr;rename Value=>vo;obtain ⟨al,ca,e⟩:=zag hown;subst e;obtain ⟨nn,hnn⟩:∃ nn,nn = l.length:=⟨_,rfl⟩;rw [← hnn] at hown ⊢
  have hnl:nn ≤ j:=by rw [hnn,hl]; exact zwm
  have HNN:=zaa hnn;have HLL:=zaa hl;have HOW:=zaa hown;have HBR:=zaa hbr;clear hnn hl hown;by_cases hlt:j < nt
  ·obtain h0 | ⟨b,off,rfl,hb0,hc⟩:=HC.out
   ·omega
   obtain ⟨y,hy⟩:=zb4 ts (show j < ts.length by have:=HNT.out; omega);obtain ⟨g0,g1⟩:=hc j hlt y hy;rw [← hbr.cell (p:=⟨b,_,none⟩) hb0] at g0 g1;have hym:=List.mem_of_getElem? hy;have Hy:=zaa hy
   have hlt':(j:Int) < (nt:Int):=by omega
   have hbn:=zab wr (.cells #[.int .i64 y.1,.int .i64 y.2] 58);have hbx:=hbr.trans (hbn.mono hbr.size);have hTx:=HT2.out.call hbx;obtain ⟨ce0,ce1,ce2,ce3,ce4,ce5,ce6,ce7,ce8,ce9⟩:=xb10 hTx 0 rfl rfl rfl rfl rfl rfl rfl rfl rfl rfl rfl;rw [Nat.add_zero] at ce0 ce1 ce2 ce3 ce4 ce5 ce6 ce7 ce8 ce9;obtain ⟨wx,hwx⟩:∃ W,W = wr.alloc (.cells #[.int .i64 y.1,.int .i64 y.2] 58):=⟨_,rfl⟩
   have z0:wx.cell? ⟨wr.heap.size,0,none⟩ = some (.int .i64 y.1):=by rw [hwx]; simp
   have z1:wx.cell? ⟨wr.heap.size,1,none⟩ = some (.int .i64 y.2):=by rw [hwx]; simp
   have hzx:wr.heap.size < wx.heap.size:=by rw [hwx]; simp
   have hox:=za3 (K:=fun _=>True) HOW.out (But.of_calls hbn) fun _ _=>trivial;rw [← hwx] at ce0 ce1 ce2 ce3 ce4 ce5 ce6 ce7 ce8 ce9 hbx hTx hox;have HLY:=zaa (HLK.out y wx hym hTx.below);have HSY:=zaa fun W h=>HSK.out y W hym h;have HTX:=zaa hTx;have HOX:=zaa hox;have HBX:=zaa hbx;obtain ⟨lb,hlb⟩:∃ n,n = wr.heap.size:=⟨_,rfl⟩;rw [← hlb] at z0 z1 hzx;have HZX:=zaa hzx;have Z0:=zaa z0;clear hy hc hb0 hbn hbx hTx hox hym HOW HBR hbr hzx
   go_upto_region 5 with fail
   rw [← hwx,← hlb];clear hwx hlb g0 g1
   go_wp2_with fail
   refine HLY.out.mono ?_;rintro e w3 ⟨rfl,hb3⟩;have hT3:=HTX.out.call hb3;have hB3:=HBX.out.trans (hb3.mono HBX.out.size);have hO3:=za3 (K:=fun _=>True) HOX.out (But.of_calls hb3) fun _ _=>trivial;have k0:=(hb3.cell (p:=⟨lb,0,none⟩) HZX.out).trans z0;have k1:=(hb3.cell (p:=⟨lb,1,none⟩) HZX.out).trans z1;have hz3:lb < w3.heap.size:=Nat.lt_of_lt_of_le HZX.out hb3.size;clear ce0 ce1 ce2 ce3 ce4 ce5 ce6 ce7 ce8 ce9 z0 z1 hb3 HLY HTX HOX HBX HZX Z0
   cases hly:lk y
   case' false=>
    obtain ⟨ce0,ce1,ce2,ce3,ce4,ce5,ce6,ce7,ce8,ce9⟩:=xb10 hT3 0 rfl rfl rfl rfl rfl rfl rfl rfl rfl rfl rfl;rw [Nat.add_zero] at ce0 ce1 ce2 ce3 ce4 ce5 ce6 ce7 ce8 ce9;have HSY3:=zaa (HSY.out w3 hT3.below);have HT3:=zaa hT3;have HB3:=zaa hB3;have HO3:=zaa hO3;have HZ3:=zaa hz3;have HLYF:=zaa hly;clear hT3 hB3 hO3 hly hz3
    go_wp2_with fail
    refine HSY3.out.mono ?_;rintro e w4 ⟨rfl,hb4⟩;have hT4:=HT3.out.call hb4;have hB4:=HB3.out.trans (hb4.mono HB3.out.size);have hO4:=za3 (K:=fun _=>True) HO3.out (But.of_calls hb4) fun _ _=>trivial;have q0:=(hb4.cell (p:=⟨lb,0,none⟩) HZ3.out).trans k0;clear ce0 ce1 ce2 ce3 ce4 ce5 ce6 ce7 ce8 ce9 k0 k1 hb4 HSY3 HT3 HB3 HO3 HZ3
    cases hsy:sk y
    case false=>
     have hno:=zwn (lk:=lk) (sk:=sk) Hy.out (by rw [HLYF.out,hsy]; rfl)
     have FIN:Hid (l = zv5 (ts.take (j + 1)) lk sk):=by show l = _; rw [hno]; exact HLL.out
     have HB4:=zaa hB4;have HO4:=zaa hO4;clear hno hB4 hO4 hT4 q0 hsy;go_wp2;go_roundw
     case rel=>exact ⟨j + 1,l,by omega,by go_num,by rw [← HNN.out]; exact HO4.out,FIN.out,HB4.out⟩
     case measure=>simp [intOf]; omega
    case' true=>
     have hyes:=zv7 (lk:=lk) (sk:=sk) Hy.out (by rw [hsy]; simp)
   case' true=>
    have hyes:=zv7 (lk:=lk) (sk:=sk) Hy.out (by rw [hly]; rfl);rename w3.cell? ⟨lb,0,none⟩ = some (.int .i64 y.1)=>q0;rename Below w2.heap.size w2 w3=>hB4;rename w3.ownsRow w2.heap.size 3 1 (.slice al nn ca) nn (zcg l)=>hO4;rename World=>w4
   all_goals
    have hn5:=zab w4 (.cells #[.int .i64 y.1] 3);have hB5:=hB4.trans (hn5.mono hB4.size);have OWY:=zaa (za3 (K:=fun _=>True) hO4 (But.of_calls hn5) fun _ _=>trivial);have HB5:=zaa hB5;have SRC:=zaa (zou (W:=w4) (t:=3) (x:=.int .i64 y.1))
    have ONE:Hid (∀ u ∈ ([.int .i64 y.1]:List Value),u.oneCell' = true):=by
     show ∀ u ∈ ([.int .i64 y.1]:List Value),u.oneCell' = true;intro u hu;rw [List.mem_singleton.1 hu];rfl
    have HM7:Hid (nn + 1 ≤ maxLen):=by show nn + 1 ≤ maxLen; unfold maxLen; omega
    have HM8:Hid ((nn + 1) * 8 ≤ 140737488355328):=by show (nn + 1) * 8 ≤ 140737488355328; omega
    have HZY:Hid (w2.heap.size ≤ (w4.alloc (.cells #[.int .i64 y.1] 3)).heap.size):=hB5.size
    have FIN:Hid (l ++ [y.1] = zv5 (ts.take (j + 1)) lk sk):=by show l ++ [y.1] = _; rw [hyes,HLL.out]
    obtain ⟨xs,hxs⟩:∃ xs,xs = zcg l:=⟨_,rfl⟩;have HXS:=zaa hxs;rw [← hxs] at OWY
    try rename Below w2.heap.size w2 w4=>hB4
    clear hn5 hB5 hxs hB4 hO4 hyes
    go_wp2_with (at_builtin; refine zai rfl _ _ 23 rfl w2.heap.size 3 (.int .i64 0) 1 8 Tryz.underlying23 Tryz.infoInt rfl (by decide) (.slice al nn ca) nn xs rfl OWY.out (some ⟨w4.heap.size,0,none⟩) 1 1 [.int .i64 y.1] rfl rfl SRC.out ONE.out HM7.out HM8.out HZY.out ?_)
    intro u5 w5 hown5 hgr5;obtain ⟨a6,c6,rfl⟩:=zag hown5;have hB6:=zbm OWY.out hgr5 (Nat.le_refl _) HZY.out;have HB7:=zaa (HB5.out.trans hB6)
    have FIN2:Hid (w5.ownsRow w2.heap.size 3 1 (.slice a6 (nn + 1) c6) (l ++ [y.1]).length (zcg (l ++ [y.1]))):=by
     show w5.ownsRow _ _ _ _ _ _;rw [zc4,← HXS.out,show (l ++ [y.1]).length = nn + 1 by rw [HNN.out]; simp];exact hown5
    clear hown5 hgr5 hB6 OWY SRC ONE HB5;go_wp2;go_roundw
    case rel=>exact ⟨j + 1,l ++ [y.1],by omega,by go_num,FIN2.out,FIN.out,HB7.out⟩
    case measure=>simp [intOf]; omega
  ·have hlti:decide ((j:Int) < (nt:Int)) = false:=decide_eq_false (by omega)
   have hle:(zv5 ts lk sk).length = nn:=by
    have:=HLL.out;rw [List.take_of_length_le (by have:=HNT.out; omega)] at this;rw [← this]; exact HNN.out.symm
   have hnb:nn < 4611686018427387904:=by omega
   have HLE:=zaa hle;have HLO:=zaa (show l.length = nn from HNN.out.symm);have HB0:=zaa (HT2.out.call hbr).below;clear hle hbr HLK HSK HLL HNN HNT HC hts hj hnl
   go_upto_region 8 with fail
   clear hlti hlt;rcases HOW.out.2 with ⟨hnil,hk0⟩ | ⟨g,cap,cur,hv,hbase,hg,h1,h2,h3,h4⟩
   ·cases hnil
    go_wp2_with (go_at_call 113; refine (zhh none 0 _).mono ?_; rintro e w' ⟨rfl,rfl⟩)
    go_ret;exact ⟨_,_,zwr HLE.out.symm,HB0.out⟩
   ·cases hv
    have hH:Holds (Value.int .i64) wr g 0 l.toArray:=holds_of_blockI hg (by rw [HLO.out]; simpa [zcg] using h4);have hgl:g < wr.heap.size:=(Array.getElem?_eq_some_iff.1 hg).1;have hsort:=zlo g 0 ca l wr hH hgl (by rw [HLO.out]; exact hnb);rw [HLO.out] at hsort;have hgb:w.heap.size ≤ g:=Nat.le_trans HT2.out.below.size hbase;have HSO:=zaa hsort;have HGB:=zaa hgb;clear hH hsort hg h1 h2 h3 h4 hbase hgb
    go_wp2_with (go_at_call 113; refine HSO.out.mono ?_; rintro e w' ⟨rfl,nk,os,rfl⟩)
    go_ret;have hgr:=grownBy_sortedI (w:=wr) (g:=g) (n:=nk) (os:=os) (l.mergeSort fun x y=>decide (x ≤ y)).toArray;exact ⟨_,_,zwr HLE.out.symm,HB0.out.grown hgr HB0.out.size fun r e=>by cases e; exact HGB.out⟩
end Go.Proofs.YtdhinkgjiapigaaGreatDoor

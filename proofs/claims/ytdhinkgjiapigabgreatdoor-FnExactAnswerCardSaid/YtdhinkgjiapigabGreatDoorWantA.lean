import Derived.Test.YtdhinkgjiapigabGreatDoorFrA
import Derived.Test.YtdhinkgjiapigabGreatDoorBase
import Derived.Test.YtdhinkgjiapigabGreatDoorToA
import Derived.Deep.RegionWith
import Derived.Deep.DeepCutAuto
import Derived.Shelf.Abstract
namespace Go.Proofs.YtdhinkgjiapigabGreatDoor
open Go.RowKit Go.Deep
open Classical
theorem zrb {l:List Int} {k:Nat} {y s:Int} (h:l[k]? = some y) (hy:(y == s) = true):l.any (· == s) = true:=by
 rw [List.any_eq_true]; exact ⟨y,List.mem_of_getElem? h,hy⟩
theorem zpj {l:List Int} {k:Nat} {y s:Int} (h:(l.take k).any (· == s) = false) (hy:l[k]? = some y) (e:(y == s) = false):(l.take (k + 1)).any (· == s) = false:=by
 rw [List.take_add_one,hy,List.any_append,h]; simp [e]
set_option maxHeartbeats 1000000 in
theorem zj8 (v:Value) (l:List Int) (s:Int) (w:World) (hv:Ints (In w) w v l) (hl:l.length ≤ 1048576) :
  Calls Tryz.prog 194 #[v,.int .i64 s] w fun e w'=>∃ r:Int,e = .returned (.int .i64 r) ∧ decide (0 ≤ r) = l.any (· == s) ∧ w' = w:=by
 obtain ⟨a,cap,rfl,hc⟩:=hv;have HC:=zaa hc;clear hc;go_enter Tryz.func194,Tryz.ntmps194;go_wp2
 go_loop [8] (fun z=>∃ (q:Nat),q ≤ l.length ∧ z = .int .i64 q ∧ (l.take q).any (· == s) = false) (fun z=>l.length - (intOf z).toNat)
 case atStart=>exact ⟨0,Nat.zero_le _,rfl,by simp⟩
 case round=>
  obtain ⟨q,hq,rfl,hall⟩:=hrel;have HA:=zaa hall;clear hall;by_cases hql:q < l.length
  ·obtain h0 | ⟨b,off,rfl,hb0,hc⟩:=HC.out
   ·omega
   obtain ⟨y,hy⟩:=zb4 l hql;have g0:=hc q hql y hy;have Hy:=zaa hy;clear hy hc
   cases hys:(s == y)
   ·have hys':(y == s) = false:=by rw [← hys]; exact Bool.beq_comm ..
    go_wp2
    go_round
    case rel=>exact ⟨q + 1,by omega,by go_num,zpj HA.out Hy.out hys'⟩
    case measure=>simp [intOf]; omega
   ·have hys':(y == s) = true:=by rw [← hys]; exact Bool.beq_comm ..
    go_wp2;go_ret;exact ⟨q,rfl,by rw [zrb Hy.out hys']; simp,rfl⟩
  ·go_wp2;go_ret;exact ⟨-1,rfl,by have:=HA.out; rw [List.take_of_length_le (by omega)] at this; rw [this]; rfl,rfl⟩
set_option maxHeartbeats 1000000 in
theorem zg0 (v:Value) (l:List Int) (s:Int) (w:World) (hv:Ints (In w) w v l) (hl:l.length ≤ 1048576) :
  Calls Tryz.prog 154 #[v,.int .i64 s] w fun e w'=>e = .returned (.bool (l.any (· == s))) ∧ w' = w:=by
 have hi:=zj8 v l s w hv hl;obtain ⟨a,cap,rfl,-⟩:=hv;go_enter Tryz.func154,Tryz.ntmps154
 go_wp2_with fail
 refine hi.mono ?_;rintro e w1 ⟨r,rfl,hr,rfl⟩;have HR:=zaa hr;clear hi hr;go_wp2;go_ret;exact ⟨zad (by rw [← HR.out]),rfl⟩
end Go.Proofs.YtdhinkgjiapigabGreatDoor
namespace Go.Proofs.YtdhinkgjiapigabGreatDoor
open Go.RowKit Go.Deep
open Classical
theorem Ints.drop {P:Nat → Prop} {w:World} {b off n:Nat} {l:List Int} (hn:n = l.length) (hb:P b) (h:∀ i,i < n → ∀ x,l[i]? = some x → w.cell? ⟨b,off + i,none⟩ = some (.int .i64 x)) {g c m:Nat} (hm:m = (l.drop g).length):Ints P w (.slice (some ⟨b,off + g,none⟩) m c) (l.drop g):=by
 subst hm;refine ⟨_,_,rfl,.inr ⟨b,off + g,rfl,hb,fun i hi x hx=>?_⟩⟩;rw [List.getElem?_drop] at hx;have:=h (g + i) (by rw [hn]; exact (List.getElem?_eq_some_iff.1 hx).1) x hx
 rwa [← Nat.add_assoc] at this
set_option maxRecDepth 100000 in
set_option maxHeartbeats 4000000 in
theorem zm1 (n hd ok p1 p2 p3 f1 f2 f3:Value) (ways:List WayD) (helds:List HeldD) (i:Nat) (x:WayD) (h:HeldD) (s:Int) (w:World) (hp:WaysC (In w) w p2 ways) (hf:Helds (In w) w f3 helds)
  (hi:ways[i]? = some x) (hj:helds[i]? = some h) (_hw:ways.length ≤ 1048576) (_hh:helds.length ≤ 1048576) (hs:x.sections.length ≤ 1048576) (hg:0 ≤ h.gone) (hg2:h.gone < x.sections.length) :
  Calls Tryz.prog 113 #[.agg #[n,p1,p2,p3,hd,ok,f1,f2,f3,.int .i64 s],.int .i64 i] w fun e w'=>e = .returned (.bool ((x.sections.drop h.gone.toNat).any (· == s))) ∧ Below w.heap.size w w':=by
 obtain ⟨ap,cp,rfl,hcp⟩:=hp;obtain ⟨af,cf,rfl,hcf⟩:=hf;have hil:i < ways.length:=(List.getElem?_eq_some_iff.1 hi).1;have hjl:i < helds.length:=(List.getElem?_eq_some_iff.1 hj).1;obtain h0 | ⟨bp,op,rfl,hbp,hcw⟩:=hcp
 ·omega
 obtain h0 | ⟨bf,of,rfl,hbf,hch⟩:=hcf
 ·omega
 obtain ⟨v0,v1,v2,v3,v4,⟨⟨hv0,-,-,-,-⟩,hcap⟩,y0,-,-,-,-⟩:=hcw i hil x hi;obtain ⟨asx,cs,rfl,hcs⟩:=hv0;obtain ⟨_,_,_,e,hcap⟩:=hcap
 cases e
 obtain h0 | ⟨bs,os,rfl,hbs,hss⟩:=hcs
 ·omega
 obtain ⟨u2,-,-,j1,-,-,-⟩:=hch i hjl h hj;obtain ⟨g,hgn⟩:∃ g:Nat,h.gone = g:=⟨h.gone.toNat,by omega⟩;rw [hgn] at j1 hg2 ⊢
 have hgt:((g:Int)).toNat = g:=by simp
 rw [hgt];have T0:=zaw w 130 #[n,p1,.slice (some ⟨bp,op,none⟩) ways.length cp,p3,hd,ok,f1,f2,.slice (some ⟨bf,of,none⟩) helds.length cf,.int .i64 s];have x0:=(T0.below.cell (p:=⟨bp,op + i * 5,none⟩) hbp).trans y0;have z0:=(T0.below.cell (p:=⟨bf,of + i * 5 + 1,none⟩) hbf).trans j1;have r2:=T0.cell (j:=0) (i:=2) rfl rfl;have r8:=T0.cell (j:=0) (i:=8) rfl rfl;have r9:=T0.cell (j:=0) (i:=9) rfl rfl;rw [Nat.add_zero] at r2 r8 r9
 have hne:¬ cs = g:=by omega
 have hgl:(g:Int) ≤ (x.sections.length:Int):=by omega
 have hil':(i:Int) < (ways.length:Int):=by omega
 have hjl':(i:Int) < (helds.length:Int):=by omega
 have hsub:Ints (In (w.alloc (.cells #[n,p1,.slice (some ⟨bp,op,none⟩) ways.length cp,p3,hd,ok,f1,f2,.slice (some ⟨bf,of,none⟩) helds.length cf,.int .i64 s] 130))) _ (.slice (some ⟨bs,os + g,none⟩) (x.sections.length - g) (cs - g)) (x.sections.drop g):=
  Ints.drop (P:=In _) (b:=bs) (off:=os) rfl (Nat.lt_of_lt_of_le hbs T0.below.size) (fun k hk y hy=>(T0.below.cell (p:=⟨bs,os + k,none⟩) hbs).trans (hss k hk y hy)) (by simp)
 have hci:∀ n:Ext (w.alloc (.cells #[n,p1,.slice (some ⟨bp,op,none⟩) ways.length cp,p3,hd,ok,f1,f2,.slice (some ⟨bf,of,none⟩) helds.length cf,.int .i64 s] 130)),Calls Tryz.prog 154 #[.slice (some ⟨bs,os + g,none⟩) (x.sections.length - g) (cs - g),.int .i64 s] n.w fun e w'=>e = .returned (.bool ((x.sections.drop g).any (· == s))) ∧ Below n.w.heap.size n.w w':=fun n=>
  (zg0 _ _ s _ (hsub.keep (In.keep n.below).1 (In.keep n.below).2) (by simp; omega)).mono fun e w' ⟨he,hw⟩=>⟨he,by rw [hw]; exact Below.refl _ _⟩
 have HCI:=zaa hci;have hne0:=Ext.any (w.alloc (.cells #[n,p1,.slice (some ⟨bp,op,none⟩) ways.length cp,p3,hd,ok,f1,f2,.slice (some ⟨bf,of,none⟩) helds.length cf,.int .i64 s] 130));have X0:=Ext.cell x0;have Z0:=Ext.cell z0;have R2:=Ext.cell r2;have R8:=Ext.cell r8;have R9:=Ext.cell r9;clear hci hsub hcw hch hss hi hj y0 j1 x0 z0 r2 r8 r9;have HT:=zaa T0;clear T0;go_enter Tryz.func113,Tryz.ntmps113;go_wp2;refine zaj (by kernel_rfl) (by kernel_rfl) ?_
 repeat (go_big_quiet_step ((go_at_call 154; exact zaz (HCI.out _))))
 refine wpQuiet_nil ?_;rintro _ ⟨nq,rfl⟩;go_wp2;go_ret;exact ⟨rfl,(HT.out.call nq.below).below⟩
end Go.Proofs.YtdhinkgjiapigabGreatDoor
namespace Go.Proofs.YtdhinkgjiapigabGreatDoor
open Go.RowKit Go.Deep Go.Shelf
open Classical
theorem zpv (n hd ok p1 p2 p3 f1 f2 f3:Value) (q a b:Int) (w:World) :
  Calls Tryz.prog 196 #[.agg #[n,p1,p2,p3,hd,ok,f1,f2,f3,.int .i64 q],.agg #[.int .i64 a,.int .i64 b]] w fun e w'=>e = .returned (.bool (a == q)) ∧ Below w.heap.size w w':=by
 have T0:=zbc w 191 175 #[n,p1,p2,p3,hd,ok,f1,f2,f3,.int .i64 q] #[.int .i64 a,.int .i64 b];have r9:=T0.cell (j:=0) (i:=9) rfl rfl;have r0:=T0.cell (j:=1) (i:=0) rfl rfl;rw [Nat.add_zero] at r9;go_enter Tryz.func196,Tryz.ntmps196;go_wp2;go_ret;exact ⟨rfl,T0.below⟩
theorem zny {α:Type} {l:List α} {k:Nat} {y:α} {pr:α → Bool} (h:l[k]? = some y) (hy:pr y = true):l.any pr = true:=by
 rw [List.any_eq_true]; exact ⟨y,List.mem_of_getElem? h,hy⟩
theorem zjx {α:Type} {l:List α} {k:Nat} {y:α} {pr:α → Bool} (h:(l.take k).any pr = false) (hy:l[k]? = some y) (e:pr y = false):(l.take (k + 1)).any pr = false:=by
 rw [List.take_add_one,hy,List.any_append,h]; simp [e]
set_option maxRecDepth 100000 in
set_option maxHeartbeats 2000000 in
theorem zhx (kf:Nat) (recv:Array Value) (v:Value) (l:List (Int × Int)) (pr:Int × Int → Bool) (w:World) (hv:Lies (In w) w v l) (hl:l.length ≤ 1048576) (ek:∀ args w,(callFunc kf args).run Tryz.prog w = .ok (.enter kf args) w)
  (hkeep:∀ x W,x ∈ l → Below w.heap.size w W → Calls Tryz.prog kf (recv.push (.agg #[.int .i64 x.1,.int .i64 x.2])) W fun e W'=>e = .returned (.bool (pr x)) ∧ Below W.heap.size W W') :
  Calls Tryz.prog 201 #[v,.func (.func kf) recv #[]] w fun e w'=>∃ r:Int,e = .returned (.int .i64 r) ∧ decide (0 ≤ r) = l.any pr ∧ Below w.heap.size w w':=by
 obtain ⟨a,cap,rfl,hc⟩:=hv;have HC:=zaa hc;have HK:=zaa hkeep;clear hc hkeep;go_enter Tryz.func201,Tryz.ntmps201;go_wp2
 go_loopw [8] (fun z wr=>∃ (i:Nat),i ≤ l.length ∧ z = .int .i64 i ∧ (l.take i).any pr = false ∧ Below w.heap.size w wr) (fun z _=>l.length - (intOf z).toNat)
 case atStart=>exact ⟨0,Nat.zero_le _,rfl,by simp,Below.refl _ _⟩
 case round=>
  obtain ⟨i,hi,rfl,hall,hb⟩:=hrel;have HA:=zaa hall;have HB:=zaa hb;clear hall;by_cases hlt:i < l.length
  ·obtain h0 | ⟨b,off,rfl,hb0,hc⟩:=HC.out
   ·omega
   obtain ⟨y,hy⟩:=zb4 l hlt;obtain ⟨g0,g1⟩:=hc i hlt y hy;rw [← hb.cell (p:=⟨b,_,none⟩) hb0] at g0 g1;have hq:=HK.out y wr (List.mem_of_getElem? hy) hb;have Hy:=zaa hy
   have hlt':(i:Int) < (l.length:Int):=by omega
   clear hy hc hb
   cases hys:pr y
   ·rw [hys] at hq;have HQ:=zaa hq;have HYS:=zaa hys;clear hq hys;go_wp2;refine HQ.out.mono ?_;rintro e w1 ⟨rfl,hb1⟩;have HB1:=zaa hb1;clear hb1;go_wp2;go_roundw
    case rel=>exact ⟨i + 1,by omega,by go_num,zjx HA.out Hy.out HYS.out,HB.out.trans (HB1.out.mono HB.out.size)⟩
    case measure=>simp [intOf]; omega
   ·rw [hys] at hq;have HQ:=zaa hq;have HYS:=zaa hys;clear hq hys;go_wp2;refine HQ.out.mono ?_;rintro e w1 ⟨rfl,hb1⟩;have HB1:=zaa hb1;clear hb1;go_wp2;go_ret;exact ⟨i,rfl,by rw [zny Hy.out HYS.out]; simp,HB.out.trans (HB1.out.mono HB.out.size)⟩
  ·clear hb;go_wp2;go_ret;exact ⟨-1,rfl,by have:=HA.out; rw [List.take_of_length_le (by omega)] at this; rw [this]; rfl,HB.out⟩
set_option maxHeartbeats 1000000 in
theorem zcj (kf:Nat) (recv:Array Value) (v:Value) (l:List (Int × Int)) (pr:Int × Int → Bool) (w:World) (hv:Lies (In w) w v l) (hl:l.length ≤ 1048576) (ek:∀ args w,(callFunc kf args).run Tryz.prog w = .ok (.enter kf args) w)
  (hkeep:∀ x W,x ∈ l → Below w.heap.size w W → Calls Tryz.prog kf (recv.push (.agg #[.int .i64 x.1,.int .i64 x.2])) W fun e W'=>e = .returned (.bool (pr x)) ∧ Below W.heap.size W W') :
  Calls Tryz.prog 158 #[v,.func (.func kf) recv #[]] w fun e w'=>e = .returned (.bool (l.any pr)) ∧ Below w.heap.size w w':=by
 have HI:=zaa (zhx kf recv v l pr w hv hl ek hkeep);obtain ⟨a,cap,rfl,-⟩:=hv;clear hkeep;go_enter Tryz.func158,Tryz.ntmps158
 go_wp2_with fail
 refine HI.out.mono ?_;rintro e w1 ⟨r,rfl,hr,hb⟩;have HR:=zaa hr;have HB:=zaa hb;clear hr hb;go_wp2;go_ret;exact ⟨zad (by rw [← HR.out]),HB.out⟩
end Go.Proofs.YtdhinkgjiapigabGreatDoor
namespace Go.Proofs.YtdhinkgjiapigabGreatDoor
open Go.RowKit Go.Deep Go.Shelf
open Classical
def zgf (sw:List Int) (x:WayD) (h:HeldD) (q:Nat):Bool:=x.flanks.any (fun y=>y.1 == (q:Int)) || (x.lies.any (fun y=>y.1 == (q:Int)) && (x.sections.drop h.gone.toNat).any (· == sw.getD q 0))
set_option maxRecDepth 100000 in
set_option maxHeartbeats 8000000 in
theorem zky (n hd ok p1 p2 p3 f1 f2 f3:Value) (sw:List Int) (ways:List WayD) (helds:List HeldD) (i:Nat) (x:WayD) (h:HeldD) (q:Nat) (w:World) (hsw:Ints (In w) w p1 sw) (hp:WaysC (In w) w p2 ways) (hf:Helds (In w) w f3 helds)
  (hf1:∃ a l c,f1 = .slice a l c) (hf2:∃ a l c,f2 = .slice a l c) (hp3:∃ a l c,p3 = .slice a l c) (hn:∃ z,n = .int .i64 z) (hhd:∃ z,hd = .int .i64 z) (hok:∃ z,ok = .bool z)
  (hi:ways[i]? = some x) (hj:helds[i]? = some h) (hwl:ways.length ≤ 1048576) (hhl:helds.length ≤ 1048576) (hs:x.Small 1048576) (hg:0 ≤ h.gone) (hg2:h.gone < x.sections.length) (hq:q < sw.length) (_hsl:sw.length ≤ 1048576) :
  Calls Tryz.prog 156 #[.agg #[n,p1,p2,p3,hd,ok,f1,f2,f3,.int .i64 q],.int .i64 i] w fun e w'=>e = .returned (.bool (zgf sw x h q)) ∧ Below w.heap.size w w':=by
 obtain ⟨oz,rfl⟩:=hok;obtain ⟨nz,rfl⟩:=hn;obtain ⟨hz,rfl⟩:=hhd;obtain ⟨fa,fl,fc,rfl⟩:=hf1;obtain ⟨ga,gl,gc,rfl⟩:=hf2;obtain ⟨pa,pl,pc,rfl⟩:=hp3;have hk:=zm1 (.int .i64 nz) (.int .i64 hz) (.bool oz) p1 p2 (.slice pa pl pc) (.slice fa fl fc) (.slice ga gl gc) f3 ways helds i x h (sw.getD q 0);have HP:=zaa hp;have HF:=zaa hf;obtain ⟨asw,csw,rfl,hcsw⟩:=hsw;obtain ⟨ap,cp,rfl,hcp⟩:=hp;obtain ⟨af,cf,rfl,-⟩:=hf;have hil:i < ways.length:=(List.getElem?_eq_some_iff.1 hi).1;obtain h0 | ⟨bs,os,rfl,hbs,hcs⟩:=hcsw
 ·omega
 obtain h0 | ⟨bp,op,rfl,hbp,hcw⟩:=hcp
 ·omega
 obtain ⟨v0,v1,v2,v3,v4,⟨⟨hv0,hv1,hv2,hv3,hv4⟩,-⟩,y0,y1,y2,y3,y4⟩:=hcw i hil x hi;obtain ⟨s0,t0,rfl⟩:=hv0.size;obtain ⟨s1,t1,rfl⟩:=hv1.size;obtain ⟨s2,t2,rfl⟩:=hv2.size;obtain ⟨s3,t3,rfl⟩:=hv3.size;obtain ⟨s4,t4,rfl⟩:=hv4.size;obtain ⟨sv,hsv⟩:∃ sv,sw[q]? = some sv:=⟨_,List.getElem?_eq_getElem hq⟩;have cs:=hcs q hq sv hsv
 have hsvd:sw.getD q 0 = sv:=by rw [List.getD_eq_getElem?_getD,hsv]; rfl
 rw [hsvd] at hk;have T0:=zbc w 191 122 #[.int .i64 nz,.slice (some ⟨bs,os,none⟩) sw.length csw,.slice (some ⟨bp,op,none⟩) ways.length cp,.slice pa pl pc,.int .i64 hz,.bool oz,.slice fa fl fc,.slice ga gl gc,.slice af helds.length cf,.int .i64 q] #[.slice s0 x.sections.length t0,.slice s1 x.lies.length t1,.slice s2 x.flanks.length t2,.slice s3 x.over.length t3,.slice s4 x.near.length t4]
 have hcf:∀ (l:List (Int × Int)) (v:Value),Lies (In w) w v l → l.length ≤ 1048576 → ∀ n:Ext ((w.alloc (.cells #[.int .i64 nz,.slice (some ⟨bs,os,none⟩) sw.length csw,.slice (some ⟨bp,op,none⟩) ways.length cp,.slice pa pl pc,.int .i64 hz,.bool oz,.slice fa fl fc,.slice ga gl gc,.slice af helds.length cf,.int .i64 q] 191)).alloc (.cells #[.slice s0 x.sections.length t0,.slice s1 x.lies.length t1,.slice s2 x.flanks.length t2,.slice s3 x.over.length t3,.slice s4 x.near.length t4] 122)),Calls Tryz.prog 158 #[v,.func (.func 196) #[.agg #[.int .i64 nz,.slice (some ⟨bs,os,none⟩) sw.length csw,.slice (some ⟨bp,op,none⟩) ways.length cp,.slice pa pl pc,.int .i64 hz,.bool oz,.slice fa fl fc,.slice ga gl gc,.slice af helds.length cf,.int .i64 q]] #[]] n.w fun e w'=>e = .returned (.bool (l.any fun y=>y.1 == (q:Int))) ∧ Below n.w.heap.size n.w w':=fun l v hv hl n=>
  zcj _ _ v l (fun y=>y.1 == (q:Int)) n.w (hv.keep (In.keep (T0.call n.below).below).1 (In.keep (T0.call n.below).below).2) hl (enters_of Tryz.func196 (by kernel_rfl) rfl) fun y W _ _=>zpv _ _ _ _ _ _ _ _ _ q y.1 y.2 W
 have hfl:=hcf x.flanks _ hv2 hs.2.2.1;have hli:=hcf x.lies _ hv1 hs.2.1
 have hkb:∀ n:Ext ((w.alloc (.cells #[.int .i64 nz,.slice (some ⟨bs,os,none⟩) sw.length csw,.slice (some ⟨bp,op,none⟩) ways.length cp,.slice pa pl pc,.int .i64 hz,.bool oz,.slice fa fl fc,.slice ga gl gc,.slice af helds.length cf,.int .i64 q] 191)).alloc (.cells #[.slice s0 x.sections.length t0,.slice s1 x.lies.length t1,.slice s2 x.flanks.length t2,.slice s3 x.over.length t3,.slice s4 x.near.length t4] 122)),Calls Tryz.prog 113 #[.agg #[.int .i64 nz,.slice (some ⟨bs,os,none⟩) sw.length csw,.slice (some ⟨bp,op,none⟩) ways.length cp,.slice pa pl pc,.int .i64 hz,.bool oz,.slice fa fl fc,.slice ga gl gc,.slice af helds.length cf,.int .i64 sv],.int .i64 i] n.w fun e w'=>e = .returned (.bool ((x.sections.drop h.gone.toNat).any (· == sv))) ∧ Below n.w.heap.size n.w w':=fun n=>
  hk n.w (HP.out.keep (In.keep (T0.call n.below).below).1 (In.keep (T0.call n.below).below).2) (HF.out.keep (In.keep (T0.call n.below).below).1 (In.keep (T0.call n.below).below).2) hi hj hwl hhl hs.1 hg hg2
 have hne:=Ext.any ((w.alloc (.cells #[.int .i64 nz,.slice (some ⟨bs,os,none⟩) sw.length csw,.slice (some ⟨bp,op,none⟩) ways.length cp,.slice pa pl pc,.int .i64 hz,.bool oz,.slice fa fl fc,.slice ga gl gc,.slice af helds.length cf,.int .i64 q] 191)).alloc (.cells #[.slice s0 x.sections.length t0,.slice s1 x.lies.length t1,.slice s2 x.flanks.length t2,.slice s3 x.over.length t3,.slice s4 x.near.length t4] 122))
 have hil':(i:Int) < (ways.length:Int):=by omega
 have hq':(q:Int) < (sw.length:Int):=by omega
 have z0:=(zab w (.cells #[.int .i64 nz,.slice (some ⟨bs,os,none⟩) sw.length csw,.slice (some ⟨bp,op,none⟩) ways.length cp,.slice pa pl pc,.int .i64 hz,.bool oz,.slice fa fl fc,.slice ga gl gc,.slice af helds.length cf,.int .i64 q] 191)).cell (p:=⟨bp,op + i * 5,none⟩) hbp |>.trans y0;have z1:=(zab w (.cells #[.int .i64 nz,.slice (some ⟨bs,os,none⟩) sw.length csw,.slice (some ⟨bp,op,none⟩) ways.length cp,.slice pa pl pc,.int .i64 hz,.bool oz,.slice fa fl fc,.slice ga gl gc,.slice af helds.length cf,.int .i64 q] 191)).cell (p:=⟨bp,op + i * 5 + 1,none⟩) hbp |>.trans y1;have z2:=(zab w (.cells #[.int .i64 nz,.slice (some ⟨bs,os,none⟩) sw.length csw,.slice (some ⟨bp,op,none⟩) ways.length cp,.slice pa pl pc,.int .i64 hz,.bool oz,.slice fa fl fc,.slice ga gl gc,.slice af helds.length cf,.int .i64 q] 191)).cell (p:=⟨bp,op + i * 5 + 2,none⟩) hbp |>.trans y2;have z3:=(zab w (.cells #[.int .i64 nz,.slice (some ⟨bs,os,none⟩) sw.length csw,.slice (some ⟨bp,op,none⟩) ways.length cp,.slice pa pl pc,.int .i64 hz,.bool oz,.slice fa fl fc,.slice ga gl gc,.slice af helds.length cf,.int .i64 q] 191)).cell (p:=⟨bp,op + i * 5 + 3,none⟩) hbp |>.trans y3;have z4:=(zab w (.cells #[.int .i64 nz,.slice (some ⟨bs,os,none⟩) sw.length csw,.slice (some ⟨bp,op,none⟩) ways.length cp,.slice pa pl pc,.int .i64 hz,.bool oz,.slice fa fl fc,.slice ga gl gc,.slice af helds.length cf,.int .i64 q] 191)).cell (p:=⟨bp,op + i * 5 + 4,none⟩) hbp |>.trans y4
 have u2:=(zaw w 191 #[.int .i64 nz,.slice (some ⟨bs,os,none⟩) sw.length csw,.slice (some ⟨bp,op,none⟩) ways.length cp,.slice pa pl pc,.int .i64 hz,.bool oz,.slice fa fl fc,.slice ga gl gc,.slice af helds.length cf,.int .i64 q]).cell (j:=0) (i:=2) rfl rfl;rw [Nat.add_zero] at u2;have SW:=Ext.cell ((T0.below.cell (p:=⟨bs,os + q,none⟩) hbs).trans cs);have R0:=Ext.cell (T0.cell (j:=0) (i:=0) rfl rfl);have R1:=Ext.cell (T0.cell (j:=0) (i:=1) rfl rfl);have R2:=Ext.cell (T0.cell (j:=0) (i:=2) rfl rfl);have R3:=Ext.cell (T0.cell (j:=0) (i:=3) rfl rfl);have R4:=Ext.cell (T0.cell (j:=0) (i:=4) rfl rfl);have R5:=Ext.cell (T0.cell (j:=0) (i:=5) rfl rfl);have R6:=Ext.cell (T0.cell (j:=0) (i:=6) rfl rfl);have R7:=Ext.cell (T0.cell (j:=0) (i:=7) rfl rfl);have R8:=Ext.cell (T0.cell (j:=0) (i:=8) rfl rfl);have R9:=Ext.cell (T0.cell (j:=0) (i:=9) rfl rfl);have W1:=Ext.cell (T0.cell (j:=1) (i:=1) rfl rfl);have W2:=Ext.cell (T0.cell (j:=1) (i:=2) rfl rfl);rw [Nat.add_zero] at R0 R1 R2 R3 R4 R5 R6 R7 R8 R9;have HFL:=zaa hfl;have HLI:=zaa hli;have HKB:=zaa hkb;have HSV:=zaa hsvd;have HT:=zaa T0;clear hfl hli hkb hsvd hk hcf hcs hcw y0 y1 y2 y3 y4 T0 hi hj hsv hv0 hv1 hv2 hv3 hv4 cs;go_enter Tryz.func156,Tryz.ntmps156
 cases hb1:x.flanks.any (fun y=>y.1 == (q:Int))
 case true=>
  rw [hb1] at HFL;have HB1:=zaa hb1;clear hb1;go_wp2;refine zaj (by kernel_rfl) (by kernel_rfl) ?_
  repeat (go_big_quiet_step ((go_at_call 158; exact zaz (HFL.out _))))
  refine wpQuiet_nil ?_;rintro _ ⟨nq,rfl⟩;go_wp2;go_ret;exact ⟨zad (by unfold zgf; rw [HB1.out]; rfl),(HT.out.call nq.below).below⟩
 rw [hb1] at HFL;have HB1:=zaa hb1;clear hb1
 cases hb2:x.lies.any (fun y=>y.1 == (q:Int))
 case false=>
  rw [hb2] at HLI;have HB2:=zaa hb2;clear hb2;go_wp2;refine zaj (by kernel_rfl) (by kernel_rfl) ?_
  repeat (go_big_quiet_step ((go_at_call 158; first | exact zaz (HFL.out _) | exact zaz (HLI.out _))))
  refine wpQuiet_nil ?_;rintro _ ⟨nq,rfl⟩;go_wp2;go_ret;exact ⟨zad (by unfold zgf; rw [HB1.out,HB2.out]; rfl),(HT.out.call nq.below).below⟩
 rw [hb2] at HLI;have HB2:=zaa hb2;clear hb2;go_wp2;refine zaj (by kernel_rfl) (by kernel_rfl) ?_
 repeat (go_big_quiet_step ((first | (go_at_call 158; first | exact zaz (HFL.out _) | exact zaz (HLI.out _)) | (go_at_call 113; exact zaz (HKB.out _)))))
 refine wpQuiet_nil ?_;rintro _ ⟨nq,rfl⟩;go_wp2;go_ret;exact ⟨zad (by unfold zgf; rw [HB1.out,HB2.out,HSV.out]; rfl),(HT.out.call nq.below).below⟩
end Go.Proofs.YtdhinkgjiapigabGreatDoor

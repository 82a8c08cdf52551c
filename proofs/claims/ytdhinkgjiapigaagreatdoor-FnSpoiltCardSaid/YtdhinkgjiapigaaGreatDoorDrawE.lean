import Derived.Test.YtdhinkgjiapigaaGreatDoorConc
import Derived.Test.YtdhinkgjiapigaaGreatDoorToA
import Derived.Test.YtdhinkgjiapigaaGreatDoorSpec3
import Derived.Laws.Bits64b
import Derived.Deep.DeepCutAuto
import Derived.Test.YtdhinkgjiapigaaGreatDoorDoI4
namespace Go.Proofs.YtdhinkgjiapigaaGreatDoor
open Go.RowKit Go.Deep
open Classical
def Cur (W:World) (cb K:Nat):Prop:=∃ (a:Option Addr) (n c i:Nat) (s:Int),W.rowIs cb 74 3 (fun j=>(#[.slice a n c,.int .i64 (i:Int),.int .u64 s]:Array Value)[j]!) ∧ Bys (fun b=>b < cb) W (.slice a n c) n ∧ n ≤ 1048576 ∧ i ≤ K ∧ 0 ≤ s ∧ s < 18446744073709551616
theorem Cur.mono {W:World} {cb K L:Nat} (h:Cur W cb K) (hk:K ≤ L):Cur W cb L:=by
 obtain ⟨a,n,c,i,s,h1,h2,h3,h4,h5⟩:=h;exact ⟨a,n,c,i,s,h1,h2,h3,by omega,h5⟩
theorem Cur.lt {W:World} {cb K:Nat} (h:Cur W cb K):cb < W.heap.size:=by
 obtain ⟨_,_,_,_,_,h,-⟩:=h;exact h.lt
theorem Cur.but {W W':World} {cb K:Nat} {Q:Nat → Prop} (h:Cur W cb K) (hB:But Q W W') (hc:∀ b,b ≤ cb → Q b):Cur W' cb K:=by
 have hlt:=h.lt;obtain ⟨a,n,c,i,s,h1,h2,h3,h4,h5⟩:=h;exact ⟨a,n,c,i,s,hB.row h1 (hc _ (Nat.le_refl _)),h2.keep (hB.same fun b (hb:b < cb)=>⟨by omega,hc b (by omega)⟩) fun b hb=>hb,h3,h4,h5⟩
theorem But.low {K:Nat → Prop} {a b c:World} (h:But K a b) (k:Below a.heap.size b c):But K a c:=⟨k.os.trans h.os,k.tape.trans h.tape,k.output.trans h.output,Nat.le_trans h.size k.size,fun x hx hk=>(k.block x hx).trans (h.block x hx hk)⟩
theorem zqp (x:Int):0 ≤ IntKind.u64.wrap x ∧ IntKind.u64.wrap x < 18446744073709551616:=by rw [IntKind.wrap_u64]; omega
theorem zq5 (x:Int):∃ y:Nat,wrap64 (bits .and .u64 (IntKind.u64.wrap x / 1099511627776) 255) = (y:Int) ∧ y ≤ 255:=by
 have h:=zqp x;obtain ⟨q,hq⟩:∃ q:Nat,IntKind.u64.wrap x / 1099511627776 = (q:Int):=⟨(IntKind.u64.wrap x / 1099511627776).toNat,by omega⟩
 have hq2:q < 18446744073709551616:=by omega
 have e:=bits_and_u64_nat q 255 hq2 (by omega);have hle:q &&& 255 ≤ 255:=Nat.and_le_right;refine ⟨q &&& 255,?_,hle⟩;rw [hq,show (255:Int) = ((255:Nat):Int) from rfl,e];exact IntWalk.wrap64_in _ ⟨by omega,by omega⟩
theorem Cur.step {w:World} {cb K:Nat} {a:Option Addr} {n c i:Nat} {s:Int} (hr:w.rowIs cb 74 3 (fun j=>(#[.slice a n c,.int .i64 (i:Int),.int .u64 s]:Array Value)[j]!)) (hb:Bys (fun b=>b < cb) w (.slice a n c) n) (hn:n ≤ 1048576) (hi:i ≤ K) (m:Nat) (x:Int) :
  (Cur (((w.drewN m).setCell ⟨cb,1,none⟩ (.int .i64 ((i:Int) + 1))).setCell ⟨cb,2,none⟩ (.int .u64 (IntKind.u64.wrap x))) cb (K + 1) ∧ But (fun b=>b ≠ cb) w (((w.drewN m).setCell ⟨cb,1,none⟩ (.int .i64 ((i:Int) + 1))).setCell ⟨cb,2,none⟩ (.int .u64 (IntKind.u64.wrap x)))) ∧
  (Cur (((w.drewN m).setCell ⟨cb,2,none⟩ (.int .u64 (IntKind.u64.wrap x))).setCell ⟨cb,1,none⟩ (.int .i64 ((i:Int) + 1))) cb (K + 1) ∧ But (fun b=>b ≠ cb) w (((w.drewN m).setCell ⟨cb,2,none⟩ (.int .u64 (IntKind.u64.wrap x))).setCell ⟨cb,1,none⟩ (.int .i64 ((i:Int) + 1)))):=by
 have hB0:But (fun b=>b ≠ cb) w (w.drewN m):=But.of_calls (zci _ m);have hr0:=zah hr (zci w m);have h0:=zqp x;constructor
 ·have hB:=(hB0.setCell (p:=⟨cb,1,none⟩) (fun z=>z rfl) (.int .i64 ((i:Int) + 1))).setCell (p:=⟨cb,2,none⟩) (fun z=>z rfl) (.int .u64 (IntKind.u64.wrap x));refine ⟨⟨a,n,c,i + 1,IntKind.u64.wrap x,((hr0.set 1 (.int .i64 ((i:Int) + 1))).set 2 (.int .u64 (IntKind.u64.wrap x))).congr fun j hj=>?_,hb.keep (hB.same fun b (z:b < cb)=>⟨Nat.lt_trans z hr.lt,Nat.ne_of_lt z⟩) fun b z=>z,hn,by omega,h0⟩,hB⟩;rcases j with _ | _ | _ | j
  ·rfl
  ·rfl
  ·rfl
  ·omega
 ·have hB:=(hB0.setCell (p:=⟨cb,2,none⟩) (fun z=>z rfl) (.int .u64 (IntKind.u64.wrap x))).setCell (p:=⟨cb,1,none⟩) (fun z=>z rfl) (.int .i64 ((i:Int) + 1));refine ⟨⟨a,n,c,i + 1,IntKind.u64.wrap x,((hr0.set 2 (.int .u64 (IntKind.u64.wrap x))).set 1 (.int .i64 ((i:Int) + 1))).congr fun j hj=>?_,hb.keep (hB.same fun b (z:b < cb)=>⟨Nat.lt_trans z hr.lt,Nat.ne_of_lt z⟩) fun b z=>z,hn,by omega,h0⟩,hB⟩;rcases j with _ | _ | _ | j
  ·rfl
  ·rfl
  ·rfl
  ·omega
set_option maxHeartbeats 4000000 in
theorem zg1 (cb K:Nat) (w:World) (hc:Cur w cb K) (hK:K ≤ 1000000000) :
  Calls Tryz.prog 120 #[.pointer (some ⟨cb,0,none⟩)] w fun e w'=>∃ x:Nat,e = .returned (.int .i64 (x:Int)) ∧ x ≤ 255 ∧ Cur w' cb (K + 1) ∧ But (fun b=>b ≠ cb) w w':=by
 obtain ⟨a,n,c,i,s,hr,hb,hn,hi,hs0,hs1⟩:=hc;have c0:w.cell? ⟨cb,0,none⟩ = some (.slice a n c):=hr.cell (i:=0) (by omega);have c1:w.cell? ⟨cb,1,none⟩ = some (.int .i64 (i:Int)):=hr.cell (i:=1) (by omega);have c2:w.cell? ⟨cb,2,none⟩ = some (.int .u64 s):=hr.cell (i:=2) (by omega);have f1:=hr.frozen 1;have f2:=hr.frozen 2;have HR:=zaa hr;have HB:=zaa hb;clear hr hb;by_cases hlt:i < n
 ·have hlt':(i:Int) < (n:Int):=by omega
  obtain ⟨a',c',e,hc⟩:=HB.out
  cases e
  obtain h0 | ⟨b,off,rfl,hb,hc⟩:=hc
  ·omega
  obtain ⟨x,h0,h1,hx⟩:=hc i hlt;go_enter Tryz.func120,Tryz.ntmps120;go_wp2
  go_quiet (fail)
  go_wp2
  go_quiet (fail)
  go_wp2;go_ret;exact ⟨x.toNat,congrArg (fun z=>Ending.returned (.int .i64 z)) (Int.toNat_of_nonneg h0).symm,by omega,(Cur.step HR.out HB.out hn hi _ _).1⟩
 ·go_enter Tryz.func120,Tryz.ntmps120;go_wp2
  go_quiet (fail)
  go_wp2;go_ret;obtain ⟨y,hy,hy2⟩:=zq5 (IntKind.u64.wrap (s * 6364136223846793005) + 1442695040888963407);exact ⟨y,congrArg (fun z=>Ending.returned (.int .i64 z)) hy,hy2,(Cur.step HR.out HB.out hn hi _ _).2⟩
set_option maxHeartbeats 4000000 in
theorem zap (cb K:Nat) (n:Nat) (w:World) (hc:Cur w cb K) (hK:K ≤ 900000000) (hn:n ≤ 100000) :
  Calls Tryz.prog 72 #[.pointer (some ⟨cb,0,none⟩),.int .i64 (n:Int)] w fun e w'=>∃ x:Nat,e = .returned (.int .i64 (x:Int)) ∧ x < max n 1 ∧ Cur w' cb (K + 2) ∧ But (fun b=>b ≠ cb) w w':=by
 by_cases h1:n ≤ 1
 ·have b1:decide ((n:Int) ≤ 1) = true:=decide_eq_true (by omega);go_enter Tryz.func72,Tryz.ntmps72;go_wp2;go_ret;exact ⟨0,rfl,by omega,hc.mono (by omega),But.refl _ _⟩
 have b1:decide ((n:Int) ≤ 1) = false:=decide_eq_false (by omega)
 have hnz:(n:Int) ≠ 0:=by omega
 have hnzb:((n:Int) == 0) = false:=by simp; omega
 go_enter Tryz.func72,Tryz.ntmps72
 go_wp2_with fail
 refine (zg1 cb K w hc (by omega)).mono ?_;rintro e w1 ⟨x,rfl,hx,hc1,hB1⟩;by_cases h2:200 < n
 ·have b2:decide ((200:Int) < (n:Int)) = true:=decide_eq_true (by omega)
  go_wp2_with fail
  refine (zg1 cb (K + 1) w1 hc1 (by omega)).mono ?_;rintro e w2 ⟨y,rfl,hy,hc2,hB2⟩;obtain ⟨r,hr⟩:∃ r:Nat,r = (x * 256 + y) % n:=⟨_,rfl⟩
  have hrn:r < n:=by rw [hr]; exact Nat.mod_lt _ (by omega)
  have ht2:((x:Int) * 256 + (y:Int)) % (n:Int) = (r:Int):=by rw [hr,Int.natCast_emod,Int.natCast_add,Int.natCast_mul]; rfl
  have ht:Int.tmod ((x:Int) * 256 + (y:Int)) (n:Int) = (r:Int):=by rw [Int.tmod_eq_emod_of_nonneg (by omega)]; exact ht2
  clear hr;go_wp2;go_ret;exact ⟨r,rfl,by omega,hc2,hB1.trans hB2⟩
 ·have b2:decide ((200:Int) < (n:Int)) = false:=decide_eq_false (by omega);obtain ⟨r,hr⟩:∃ r:Nat,r = x % n:=⟨_,rfl⟩
  have hrn:r < n:=by rw [hr]; exact Nat.mod_lt _ (by omega)
  have ht2:(x:Int) % (n:Int) = (r:Int):=by rw [hr,Int.natCast_emod]
  have ht:Int.tmod (x:Int) (n:Int) = (r:Int):=by rw [Int.tmod_eq_emod_of_nonneg (by omega)]; exact ht2
  clear hr;go_wp2;go_ret;exact ⟨r,rfl,by omega,hc1.mono (by omega),hB1⟩
end Go.Proofs.YtdhinkgjiapigaaGreatDoor
namespace Go.Proofs.YtdhinkgjiapigaaGreatDoor
open Go.RowKit Go.Deep
open Classical
theorem zjf (W:World) (x:Int):Ints (In (W.alloc (.cells #[.int .i64 x] 3))) (W.alloc (.cells #[.int .i64 x] 3)) (.slice (some ⟨W.heap.size,0,none⟩) 1 1) [x]:=by
 refine ⟨_,1,rfl,.inr ⟨W.heap.size,0,rfl,by show W.heap.size < _; rw [World.size_alloc]; omega,fun i hi y hy=>?_⟩⟩
 have hi0:i = 0:=by
  have:i < 1:=hi;omega
 subst hi0
 cases hy
 exact (zak W 3 #[.int .i64 x]).cell (i:=0) (by show 0 < 1; omega)
theorem zji {x:Int} {l:List Int}:Meet [x] l ↔ x ∈ l:=
 ⟨fun ⟨y,h1,h2⟩=>by rw [List.mem_singleton.1 h1] at h2; exact h2,fun h=>⟨x,List.mem_singleton.2 rfl,h⟩⟩
theorem zkl {n:Int} {l:List Int} {x:Int} (h:∀ j,j < l.length → znr n l j) (hx:InR x 0 (n - 1)) (hm:¬ x ∈ l):∀ j,j < (l ++ [x]).length → znr n (l ++ [x]) j:=fun j hj y hy=>by
 by_cases e:j < l.length
 ·rw [List.getElem?_append_left e] at hy
  obtain ⟨h1,h2⟩:=h j e y hy
  refine ⟨h1,fun q hq=>?_⟩
  rw [List.getElem?_append_left (by omega)]
  exact h2 q hq
 ·have e2:j = l.length:=by simp at hj; omega
  subst e2
  rw [List.getElem?_append_right (Nat.le_refl _),Nat.sub_self] at hy
  cases hy
  refine ⟨hx,fun q hq e=>?_⟩
  rw [List.getElem?_append_left hq] at e
  exact hm (List.mem_of_getElem? e)
set_option maxRecDepth 100000 in
set_option maxHeartbeats 8000000 in
theorem zet (cb K n most:Nat) (vn:Value) (nt:List Int) (w:World) (hc:Cur w cb K) (hK:K ≤ 800000000) (hn:1 ≤ n) (hn2:n ≤ 100) (hm:most ≤ 100) (hnt:Ints (fun b=>b < w.heap.size ∧ b ≠ cb) w vn nt) (hntl:nt.length ≤ 1000) :
  Calls Tryz.prog 78 #[.pointer (some ⟨cb,0,none⟩),.int .i64 (n:Int),.int .i64 (most:Int),vn] w fun e w'=>∃ v l,e = .returned v ∧ w'.ownsRow w.heap.size 3 1 v l.length (zcg l) ∧ (∀ j,j < l.length → znr (n:Int) l j) ∧ l.length ≤ most ∧ ¬ Meet l nt ∧ Cur w' cb (K + 2 * most + 4) ∧ But (fun b=>b ≠ cb) w w':=by
 have hcb:=hc.lt;have HNT:=zaa hnt;obtain ⟨an,cn,rfl⟩:=hnt.size;generalize hnl:nt.length = nl at *;have HNL:=zaa hnl;clear hnt hnl;go_enter Tryz.func78,Tryz.ntmps78
 go_wp2_with fail
 refine (zap cb K (most + 1) w hc (by omega) (by omega)).mono ?_;rintro e w1 ⟨k0,rfl,hk0,hc1,hB1⟩;have HC1:=zaa hc1;have HB1:=zaa hB1
 have hk0':k0 ≤ most:=by omega
 clear hc1 hB1 hc hk0;go_wp2
 go_loopw [9,10] (fun o z wr=>∃ (k:Nat) (l:List Int),l.length + k ≤ most ∧ z = .int .i64 (k:Int) ∧ wr.ownsRow w.heap.size 3 1 o l.length (zcg l) ∧ (∀ j,j < l.length → znr (n:Int) l j) ∧ ¬ Meet l nt ∧ Cur wr cb (K + 2 + 2 * (most - k)) ∧ But (fun b=>b ≠ cb) w wr) (fun _ z _=>(intOf z).toNat)
 case atStart=>exact ⟨k0,[],by simpa using hk0',rfl,World.ownsRow_nil _ _ _ _,fun j hj=>absurd hj (by show ¬ j < 0; omega),(fun ⟨x,hx,_⟩=>by cases hx),HC1.out.mono (by omega),HB1.out⟩
 case round=>
  obtain ⟨k,l,hlk,rfl,hown,hok,hmt,hcr,hBr⟩:=hrel;rename World=>wr;rename Value=>vo;obtain ⟨al,ca,e⟩:=zag hown;subst e;obtain ⟨nn,hnn⟩:∃ nn,nn = l.length:=⟨_,rfl⟩;rw [← hnn] at hlk hown;rw [← hnn];have HNN:=zaa hnn;have HOK:=zaa hok;have HMT:=zaa hmt;clear hnn hok hmt HC1 HB1;by_cases hz:0 < k
  ·have hzi:decide ((0:Int) < (k:Int)) = true:=decide_eq_true (by omega);have HCP:=zaa (zap cb (K + 2 + 2 * (most - k)) n wr hcr (by omega) (by omega));have HOW:=zaa hown;have HBR:=zaa hBr;clear hcr hown hBr
   go_wp2_with fail
   refine HCP.out.mono ?_;rintro e w2 ⟨x,rfl,hx,hc2,hB2⟩
   have hxn:x < n:=by omega
   have hn1:=zab w2 (.cells #[.int .i64 (x:Int)] 3)
   have hown2:=za3 HOW.out hB2 fun g hg=>by have:=(zat HOW.out hg).1; omega
   have hB3:=(HBR.out.trans hB2).call hn1;have hown3:=za3 (K:=fun _=>True) hown2 (But.of_calls hn1) fun _ _=>trivial;have hc3:=hc2.but (Q:=fun _=>True) (But.of_calls hn1) fun _ _=>trivial;have hi3:=(zb2 hown3).2
   have hl3:l.length ≤ 1048576:=by have:=HNN.out; omega
   have HM1:=zaa (zbx _ _ [(x:Int)] l (w2.alloc (.cells #[.int .i64 (x:Int)] 3)) (zjf w2 (x:Int)) (hi3.keep (zax _ _) (Q:=In _) fun b hb=>hb.2) (by show 1 ≤ 1048576; omega) hl3);have HC3:=zaa hc3;have HB3:=zaa hB3;have HO3:=zaa hown3;clear hc2 hB2 hn1 hown2 hB3 hown3 hc3 hi3 hl3 hx HCP HOW HBR
   go_wp2_with fail
   refine HM1.out.mono ?_;rintro e w3 ⟨rfl,hw3⟩;have hw3':=hw3.symm;subst hw3';clear hw3 HM1;obtain ⟨wA,hwA⟩:∃ W,W = w2.alloc (.cells #[.int .i64 (x:Int)] 3):=⟨_,rfl⟩;rw [← hwA] at HC3 HB3 HO3 ⊢;clear hwA;by_cases m1:Meet [(x:Int)] l
   ·rw [zam m1];have HF:=zaa (show K + 2 + 2 * (most - k) + 2 ≤ K + 2 + 2 * (most - (k - 1)) by omega);clear m1;go_wp2;go_roundw
    case rel=>exact ⟨k - 1,l,by have:=HNN.out; omega,by go_num,by rw [← HNN.out]; exact HO3.out,HOK.out,HMT.out,HC3.out.mono HF.out,HB3.out⟩
    case measure=>simp [intOf]; omega
   ·rw [zae m1];have M1:=zaa m1;have hn4:=zab wA (.cells #[.int .i64 (x:Int)] 3);have hB4:=HB3.out.call hn4;have hown4:=za3 (K:=fun _=>True) HO3.out (But.of_calls hn4) fun _ _=>trivial;have hc4:=HC3.out.but (Q:=fun _=>True) (But.of_calls hn4) fun _ _=>trivial;have hi4:=HNT.out.keep (hB4.same fun b hb=>hb) (Q:=In (wA.alloc (.cells #[.int .i64 (x:Int)] 3))) fun b hb=>Nat.lt_of_lt_of_le hb.1 hB4.size
    have hl4:nt.length ≤ 1048576:=by have:=HNL.out; omega
    have HM2:=zaa (zbx _ _ [(x:Int)] nt (wA.alloc (.cells #[.int .i64 (x:Int)] 3)) (zjf wA (x:Int)) hi4 (by show 1 ≤ 1048576; omega) hl4);have HC4:=zaa hc4;have HB4:=zaa hB4;have HO4:=zaa hown4;clear m1 hn4 hB4 hown4 hc4 hi4 hl4 HC3 HB3 HO3
    go_wp2_with fail
    refine HM2.out.mono ?_;rintro e w4 ⟨rfl,hw4⟩;have hw4':=hw4.symm;subst hw4';clear hw4 HM2;obtain ⟨wB,hwB⟩:∃ W,W = wA.alloc (.cells #[.int .i64 (x:Int)] 3):=⟨_,rfl⟩;rw [← hwB] at HC4 HB4 HO4 ⊢;clear hwB;by_cases m2:Meet [(x:Int)] nt
    ·rw [zam m2];have HF:=zaa (show K + 2 + 2 * (most - k) + 2 ≤ K + 2 + 2 * (most - (k - 1)) by omega);clear m2;go_wp2;go_roundw
     case rel=>exact ⟨k - 1,l,by have:=HNN.out; omega,by go_num,by rw [← HNN.out]; exact HO4.out,HOK.out,HMT.out,HC4.out.mono HF.out,HB4.out⟩
     case measure=>simp [intOf]; omega
    ·rw [zae m2];have M2:=zaa m2;have hn5:=zab wB (.cells #[.int .i64 (x:Int)] 3);have hB5:=HB4.out.call hn5;have OWY:=zaa (za3 (K:=fun _=>True) HO4.out (But.of_calls hn5) fun _ _=>trivial);have hc5:=HC4.out.but (Q:=fun _=>True) (But.of_calls hn5) fun _ _=>trivial;have HC5:=zaa hc5;have HB5:=zaa hB5;have SRC:=zaa (zou (W:=wB) (t:=3) (x:=.int .i64 (x:Int)))
     have ONE:Hid (∀ u ∈ ([.int .i64 (x:Int)]:List Value),u.oneCell' = true):=by
      show ∀ u ∈ ([.int .i64 (x:Int)]:List Value),u.oneCell' = true;intro u hu;rw [List.mem_singleton.1 hu];rfl
     have HM7:Hid (nn + 1 ≤ maxLen):=by show nn + 1 ≤ maxLen; unfold maxLen; omega
     have HM8:Hid ((nn + 1) * 8 ≤ 140737488355328):=by show (nn + 1) * 8 ≤ 140737488355328; omega
     have HZY:Hid (w.heap.size ≤ (wB.alloc (.cells #[.int .i64 (x:Int)] 3)).heap.size):=hB5.size;obtain ⟨xs,hxs⟩:∃ xs,xs = zcg l:=⟨_,rfl⟩;have HXS:=zaa hxs;rw [← hxs] at OWY;clear m2 hn5 hB5 hc5 hxs HC4 HB4 HO4
     go_wp2_with (at_builtin; refine zai rfl _ _ 23 rfl w.heap.size 3 (.int .i64 0) 1 8 Tryz.underlying23 Tryz.infoInt rfl (by decide) (.slice al nn ca) nn xs rfl OWY.out (some ⟨wB.heap.size,0,none⟩) 1 1 [.int .i64 (x:Int)] rfl rfl SRC.out ONE.out HM7.out HM8.out HZY.out ?_)
     intro u5 w5 hown5 hgr5;obtain ⟨a6,c6,rfl⟩:=zag hown5;have hB6:=zbm OWY.out hgr5 (Nat.le_refl _) HZY.out
     have hC6:=HC5.out.but (But.of_below (K:=fun c=>c < w.heap.size) hB6 fun _ _ z=>z) fun b hb=>by omega
     have HC6:=zaa hC6;have HB7:=zaa (HB5.out.low hB6)
     have FIN:Hid (w5.ownsRow w.heap.size 3 1 (.slice a6 (nn + 1) c6) (l ++ [(x:Int)]).length (zcg (l ++ [(x:Int)]))):=by
      show w5.ownsRow _ _ _ _ _ _;rw [zc4,← HXS.out,show (l ++ [(x:Int)]).length = nn + 1 by rw [HNN.out]; simp];exact hown5
     have HOK2:=zaa (zkl HOK.out (x:=(x:Int)) ⟨by omega,by omega⟩ fun z=>M1.out (zji.2 z))
     have HMT2:Hid (¬ Meet (l ++ [(x:Int)]) nt):=fun ⟨y,h1,h2⟩=>by
      rcases List.mem_append.1 h1 with z | z
      ·exact HMT.out ⟨y,z,h2⟩
      ·exact M2.out ⟨y,z,h2⟩
     have HLN:Hid ((l ++ [(x:Int)]).length + (k - 1) ≤ most):=by show (l ++ [(x:Int)]).length + (k - 1) ≤ most; have:=HNN.out; simp; omega
     have HF:=zaa (show K + 2 + 2 * (most - k) + 2 ≤ K + 2 + 2 * (most - (k - 1)) by omega);clear hown5 hgr5 hB6 hC6 OWY SRC ONE HB5 HC5;go_wp2;go_roundw
     case rel=>exact ⟨k - 1,l ++ [(x:Int)],HLN.out,by go_num,FIN.out,HOK2.out,HMT2.out,HC6.out.mono HF.out,HB7.out⟩
     case measure=>simp [intOf]; omega
  ·go_wp2;go_ret;exact ⟨_,l,rfl,by rw [← HNN.out]; exact hown,HOK.out,by have:=HNN.out; omega,HMT.out,hcr.mono (by omega),hBr⟩
end Go.Proofs.YtdhinkgjiapigaaGreatDoor
namespace Go.Proofs.YtdhinkgjiapigaaGreatDoor
open Go.RowKit Go.Deep
open Classical
theorem zrz {P:Program} {w:World} {o:Oper} {a:Act} {K:Act → World → Prop} {Q:Exit → Act → World → Prop} (s x:Operand) (t:TypeId)
  (ho:o.op = .call { callee:=.builtin .append,args:=#[s,x],argTypes:=#[t,t] })
  (base:Nat) (e:TypeId) (z:Value) (size bytes:Nat) (ht:P.underlying t = some (.slice e)) (hinfo:(P.info? e).map (fun i=>(i.zero,i.size,i.bytes)) = some (some z,size,bytes)) (hzs:z.cells.size = size) (hsz:0 < size)
  (v:Value) (n:Nat) (xs:List Value) (hs:a.eval s = v) (hown:w.ownsRow base e size v n xs)
  (A:Addr) (m c:Nat) (news:List Value) (hx:a.eval x = .slice (some A) m c) (hl:news.length = m * size) (hnews:∀ j u,news[j]? = some u → w.cell? (A.add j) = some u) (h1:∀ u ∈ news,u.oneCell' = true)
  (h63:n + m ≤ maxLen) (hbytes:(n + m) * bytes ≤ 140737488355328) (hbase:base ≤ w.heap.size)
  (h:∀ v' w',w'.ownsRow base e size v' (n + m) (xs ++ news) → w.grownBy w' v.ownBlock → K (a.put o.dst v') w'):Oper.wp P o a w K Q:=by
 cases hi:P.info? e with
 | none=>rw [hi] at hinfo; cases hinfo
 | some i=>
  rw [hi] at hinfo;simp only [Option.map_some,Option.some.injEq,Prod.mk.injEq] at hinfo;obtain ⟨hz,hsize,hby⟩:=hinfo;obtain ⟨v',w',hrun,r1,r2,-⟩:=run_append_own (P:=P) w base t o.type e i z size bytes ht hi hz hsize hby hzs hsz v n xs hown A m c news hl hnews h1 h63 hbytes hbase;unfold Oper.wp;simp [execOp,ho,resolve,invoke,builtin,hs,hx,hrun,Result.andThen];exact h v' w' r1 r2
end Go.Proofs.YtdhinkgjiapigaaGreatDoor
namespace Go.Proofs.YtdhinkgjiapigaaGreatDoor
open Go.RowKit Go.Deep
open Classical
theorem zbi {W W':World} {b1 b2 e1 e2 s1 s2:Nat} {v1 v2:Value} {n1 n2:Nat} {x1 x2:List Value} (h1:W.ownsRow b1 e1 s1 v1 n1 x1) (h2:W.ownsRow b2 e2 s2 v2 n2 x2) (he:e1 ≠ e2) (hg:W.grownBy W' v2.ownBlock):W'.ownsRow b1 e1 s1 v1 n1 x1:=by
 have hB:But (fun c=>some c ≠ v2.ownBlock) W W':=⟨hg.os,hg.tape,hg.output,hg.size,fun c hc hk=>hg.block c hc hk⟩;refine za3 h1 hB fun g hg1 e=>?_;obtain ⟨-,⟨ee,-⟩ | ⟨g3,cap3,cur3,e3,-,hh3,-⟩⟩:=h1
 ·rw [ee] at hg1; cases hg1
 ·rw [e3] at hg1; cases hg1;obtain ⟨-,⟨ee5,-⟩ | ⟨g4,cap4,cur4,e5,-,hh4,-⟩⟩:=h2
  ·rw [ee5] at e; cases e
  ·rw [e5] at e; cases e;rw [hh3] at hh4
   cases hh4
   exact he rfl
theorem zd8 {W:World} {b1 e1 s1:Nat} {v1:Value} {n1:Nat} {x1:List Value} (h1:W.ownsRow b1 e1 s1 v1 n1 x1) {g t N:Nat} {f:Nat → Value} (hr:W.rowIs g t N f) (he:t ≠ e1) (o:Nat) (u:Value):(W.setCell ⟨g,o,none⟩ u).ownsRow b1 e1 s1 v1 n1 x1:=
 za3 (K:=fun c=>c ≠ g) h1 ((But.refl _ _).setCell (fun z=>z rfl) u) fun _g' hg'=>fun e=>(zat h1 hg').2.2 _ _ _ _ hr he e.symm
theorem zhj (W:World) (t:Nat) (c:Array Value) (j:Nat) (u:Value) (h:c.toList[j]? = some u):(W.alloc (.cells c t)).cell? ((⟨W.heap.size,0,none⟩:Addr).add j) = some u:=by
 rw [zbp,Nat.zero_add]
 have hj:j < c.size:=by
  have:=(List.getElem?_eq_some_iff.1 h).1;simpa using this
 rw [(zak W t c).cell hj];show some c[j]! = some u;rw [getElem!_pos c j hj,← Array.getElem?_eq_getElem hj,← Array.getElem?_toList];exact h
theorem zp1 (W:World) (t:Nat) (x:Value):(W.alloc (.cells #[x] t)).ownsRow W.heap.size t 1 (.slice (some ⟨W.heap.size,0,none⟩) 1 1) 1 [x]:=by
 refine ⟨rfl,.inr ⟨W.heap.size,1,#[x],rfl,Nat.le_refl _,heap_alloc_new W _,Nat.le_refl _,by unfold maxLen; omega,rfl,rfl⟩⟩
theorem zc6 {W:World} {base e size:Nat} {v:Value} {n:Nat} {xs:List Value} (h:W.ownsRow base e size v n xs) (hn:0 < n):∃ g cap,v = .slice (some ⟨g,0,none⟩) n cap ∧ base ≤ g ∧ g < W.heap.size ∧ ∀ j u,xs[j]? = some u → W.cell? ⟨g,j,none⟩ = some u:=by
 obtain ⟨g,cap,f,e,hb,hr,hc,hf⟩:=zdt h hn;refine ⟨g,cap,e,hb,hr.lt,fun j u hu=>?_⟩;have hj:=(List.getElem?_eq_some_iff.1 hu).1;rw [hr.cell (by rw [h.1] at hj; omega),hf j u hu]
structure WayQ where
 v0:Value
 v1:Value
 v2:Value
 v3:Value
 v4:Value
structure WayO (W:World) (lo:Nat) (q:WayQ) (d:WayD):Prop where
 s0:W.ownsRow lo 3 1 q.v0 d.sections.length (zcg d.sections)
 l1:W.ownsRow lo 58 2 q.v1 d.lies.length (zau d.lies)
 l2:W.ownsRow lo 58 2 q.v2 d.flanks.length (zau d.flanks)
 o3:W.ownsRow lo 3 1 q.v3 d.over.length (zcg d.over)
 n4:W.ownsRow lo 3 1 q.v4 d.near.length (zcg d.near)
theorem WayO.far {W W':World} {lo:Nat} {q:WayQ} {d:WayD} {K:Nat → Prop} (h:WayO W lo q d) (hB:But K W W') (hk:∀ c,lo ≤ c → c < W.heap.size → K c):WayO W' lo q d:=
 ⟨zba h.s0 hB hk,zba h.l1 hB hk,zba h.l2 hB hk,zba h.o3 hB hk,zba h.n4 hB hk⟩
theorem WayO.other {W W':World} {lo:Nat} {q:WayQ} {d:WayD} (h:WayO W lo q d) {b2 e2 s2:Nat} {v2:Value} {n2:Nat} {x2:List Value} (h2:W.ownsRow b2 e2 s2 v2 n2 x2) (he : 3 ≠ e2 ∧ 58 ≠ e2) (hg:W.grownBy W' v2.ownBlock):WayO W' lo q d:=
 ⟨zbi h.s0 h2 he.1 hg,zbi h.l1 h2 he.2 hg,zbi h.l2 h2 he.2 hg,zbi h.o3 h2 he.1 hg,zbi h.n4 h2 he.1 hg⟩
theorem WayO.box {W:World} {lo:Nat} {q:WayQ} {d:WayD} (h:WayO W lo q d) {g t N:Nat} {f:Nat → Value} (hr:W.rowIs g t N f) (he:t ≠ 3 ∧ t ≠ 58) (o:Nat) (u:Value):WayO (W.setCell ⟨g,o,none⟩ u) lo q d:=
 ⟨zd8 h.s0 hr he.1 o u,zd8 h.l1 hr he.2 o u,zd8 h.l2 hr he.2 o u,zd8 h.o3 hr he.1 o u,zd8 h.n4 hr he.1 o u⟩
theorem WayO.low {W:World} {lo b:Nat} {q:WayQ} {d:WayD} (h:WayO W lo q d) (hb:b ≤ lo):WayO W b q d:=⟨zb5 h.s0 hb,zb5 h.l1 hb,zb5 h.l2 hb,zb5 h.o3 hb,zb5 h.n4 hb⟩
theorem zna {W:World} {base e size:Nat} {v:Value} {n:Nat} {xs:List Value} (h:W.ownsRow base e size v n xs):znt v:=by
 obtain ⟨-,⟨e,h0⟩ | ⟨g,cap,cur,e,-,-,hn,-⟩⟩:=h
 ·exact ⟨none,0,0,e,Nat.le_refl _⟩
 ·exact ⟨_,_,_,e,hn⟩
theorem WayO.at {W:World} {lo:Nat} {q:WayQ} {d:WayD} (h:WayO W lo q d):WayAt (fun c=>lo ≤ c ∧ c < W.heap.size) W q.v0 q.v1 q.v2 q.v3 q.v4 d ∧ znt q.v0:=
 ⟨⟨(zb2 h.s0).2,zhd h.l1,zhd h.l2,(zb2 h.o3).2,(zb2 h.n4).2⟩,zna h.s0⟩
def zdj (l:List (WayQ × WayD)):List Value:=l.flatMap fun x=>[x.1.v0,x.1.v1,x.1.v2,x.1.v3,x.1.v4]
theorem zk5 (l:List (WayQ × WayD)) (x:WayQ × WayD):zdj (l ++ [x]) = zdj l ++ [x.1.v0,x.1.v1,x.1.v2,x.1.v3,x.1.v4]:=by simp [zdj]
theorem zfq:∀ (l:List (WayQ × WayD)) (i:Nat) (x:WayQ × WayD),l[i]? = some x → (zdj l)[i * 5]? = some x.1.v0 ∧ (zdj l)[i * 5 + 1]? = some x.1.v1 ∧ (zdj l)[i * 5 + 2]? = some x.1.v2 ∧ (zdj l)[i * 5 + 3]? = some x.1.v3 ∧ (zdj l)[i * 5 + 4]? = some x.1.v4
 | [],_,_,h=>by simp at h
 | y :: l,0,x,h=>by
  cases h
  exact ⟨rfl,rfl,rfl,rfl,rfl⟩
 | y :: l,i + 1,x,h=>by
  have ih:=zfq l i x h
  have e:∀ j,(zdj (y :: l))[(i + 1) * 5 + j]? = (zdj l)[i * 5 + j]?:=fun j=>by
   rw [show (i + 1) * 5 + j = (i * 5 + j) + 5 by omega]
   rfl
  have e0:=e 0
  rw [Nat.add_zero,Nat.add_zero] at e0
  rw [e0,e 1,e 2,e 3,e 4]
  exact ih
structure WaysO (W:World) (lo:Nat) (v:Value) (l:List (WayQ × WayD)):Prop where
 own:W.ownsRow lo 51 5 v l.length (zdj l)
 ways:∀ x ∈ l,WayO W lo x.1 x.2
theorem WaysO.far {W W':World} {lo:Nat} {v:Value} {l:List (WayQ × WayD)} {K:Nat → Prop} (h:WaysO W lo v l) (hB:But K W W') (hk:∀ c,lo ≤ c → c < W.heap.size → K c):WaysO W' lo v l:=
 ⟨zba h.own hB hk,fun x hx=>(h.ways x hx).far hB hk⟩
theorem WaysO.at {W:World} {lo:Nat} {v:Value} {l:List (WayQ × WayD)} (h:WaysO W lo v l):WaysC (fun c=>lo ≤ c ∧ c < W.heap.size) W v (l.map Prod.snd):=by
 by_cases hl:l.length = 0
 ·obtain ⟨a,c,e⟩:=zag h.own;exact ⟨a,c,by rw [List.length_map]; exact e,.inl (by rw [List.length_map]; exact hl)⟩
 ·obtain ⟨g,cap,e,hlo,hlt,hc⟩:=zc6 h.own (by omega);refine ⟨_,cap,by rw [List.length_map]; exact e,.inr ⟨g,0,rfl,⟨hlo,hlt⟩,fun i hi x hx=>?_⟩⟩;rw [List.getElem?_map] at hx;obtain ⟨y,hy,rfl⟩:=Option.map_eq_some_iff.1 hx;obtain ⟨g0,g1,g2,g3,g4⟩:=zfq l i y hy;rw [Nat.zero_add];exact ⟨_,_,_,_,_,(h.ways y (List.mem_of_getElem? hy)).at,hc _ _ g0,hc _ _ g1,hc _ _ g2,hc _ _ g3,hc _ _ g4⟩
structure RowsO (W:World) (lo:Nat) (v:Value) (l:List (Value × List Bool)):Prop where
 own:W.ownsRow lo 36 1 v l.length (l.map Prod.fst)
 rows:∀ x ∈ l,W.ownsRow lo 4 1 x.1 x.2.length (x.2.map Value.bool)
theorem RowsO.far {W W':World} {lo:Nat} {v:Value} {l:List (Value × List Bool)} {K:Nat → Prop} (h:RowsO W lo v l) (hB:But K W W') (hk:∀ c,lo ≤ c → c < W.heap.size → K c):RowsO W' lo v l:=
 ⟨zba h.own hB hk,fun x hx=>zba (h.rows x hx) hB hk⟩
theorem zm9 {W:World} {lo:Nat} {v:Value} {n:Nat} {l:List Bool} (h:W.ownsRow lo 4 1 v n (l.map Value.bool)) (hn:n = l.length):Bools (fun c=>lo ≤ c ∧ c < W.heap.size) W v l:=by
 subst hn;by_cases hl:l.length = 0
 ·obtain ⟨a,c,e⟩:=zag h;exact ⟨a,c,e,.inl hl⟩
 ·obtain ⟨g,cap,e,hlo,hlt,hc⟩:=zc6 h (by omega);refine ⟨_,cap,e,.inr ⟨g,0,rfl,⟨hlo,hlt⟩,fun i hi x hx=>?_⟩⟩;rw [Nat.zero_add];exact hc _ _ (by rw [List.getElem?_map,hx]; rfl)
theorem RowsO.at {W:World} {lo:Nat} {v:Value} {l:List (Value × List Bool)} (h:RowsO W lo v l):Rows2 (fun c=>lo ≤ c ∧ c < W.heap.size) W v (l.map Prod.snd):=by
 by_cases hl:l.length = 0
 ·obtain ⟨a,c,e⟩:=zag h.own;exact ⟨a,c,by rw [List.length_map]; exact e,.inl (by rw [List.length_map]; exact hl)⟩
 ·obtain ⟨g,cap,e,hlo,hlt,hc⟩:=zc6 h.own (by omega);refine ⟨_,cap,by rw [List.length_map]; exact e,.inr ⟨g,0,rfl,⟨hlo,hlt⟩,fun i hi x hx=>?_⟩⟩;rw [List.getElem?_map] at hx;obtain ⟨y,hy,rfl⟩:=Option.map_eq_some_iff.1 hx;rw [Nat.zero_add];exact ⟨_,zm9 (h.rows y (List.mem_of_getElem? hy)) rfl,hc _ _ (by rw [List.getElem?_map,hy]; rfl)⟩
theorem RowsO.cell {W:World} {lo:Nat} {v:Value} {l:List (Value × List Bool)} (h:RowsO W lo v l) {i k:Nat} {x:Value × List Bool} {y:Bool} (hx:l[i]? = some x) (hy:x.2[k]? = some y):∃ g cap g2 cap2,v = .slice (some ⟨g,0,none⟩) l.length cap ∧ W.cell? ⟨g,i,none⟩ = some (.slice (some ⟨g2,0,none⟩) x.2.length cap2) ∧ W.cell? ⟨g2,k,none⟩ = some (.bool y):=by
 have hl:=(List.getElem?_eq_some_iff.1 hx).1;have hk:=(List.getElem?_eq_some_iff.1 hy).1;obtain ⟨g,cap,e,hlo,hlt,hc⟩:=zc6 h.own (by omega);obtain ⟨g2,cap2,e2,hlo2,hlt2,hc2⟩:=zc6 (h.rows x (List.mem_of_getElem? hx)) (by omega);refine ⟨g,cap,g2,cap2,e,?_,hc2 _ _ (by rw [List.getElem?_map,hy]; rfl)⟩;rw [← e2];exact hc _ _ (by rw [List.getElem?_map,hx]; rfl)
structure PlB (w:World) (cb pb K:Nat) (ns hold:Int) (W:World) (s y b:Value):Prop where
 but:But (fun c=>c ≠ cb) w W
 cur:Cur W cb K
 res:∃ g,W.rowIs w.heap.size 27 5 g
 hcb:cb < w.heap.size
 lt:w.heap.size < pb
 plan:W.rowIs pb 27 5 (fun i=>(#[.int .i64 ns,s,y,b,.int .i64 hold]:Array Value)[i]!)
theorem PlB.far {w:World} {cb pb K:Nat} {ns hold:Int} {W W':World} {s y b:Value} {Q:Nat → Prop} (h:PlB w cb pb K ns hold W s y b) (hB:But Q W W') (hq:∀ c,c ≤ pb → Q c):PlB w cb pb K ns hold W' s y b:=by
 obtain ⟨g,hg⟩:=h.res;have hl:=h.lt;have hc:=h.hcb;exact ⟨h.but.low (hB.below h.but.size fun c hc=>hq c (by omega)),h.cur.but hB fun c hc=>hq c (by omega),⟨g,hB.row hg (hq _ (by omega))⟩,h.hcb,h.lt,hB.row h.plan (hq _ (Nat.le_refl _))⟩
theorem PlB.pick {w:World} {cb pb K:Nat} {ns hold:Int} {W W':World} {s y b:Value} (h:PlB w cb pb K ns hold W s y b) (hB:But (fun c=>c ≠ cb) W W') {L:Nat} (hc:Cur W' cb L):PlB w cb pb L ns hold W' s y b:=by
 obtain ⟨g,hg⟩:=h.res;have hl:=h.lt;have hc':=h.hcb;exact ⟨h.but.trans hB,hc,⟨g,hB.row hg (by omega)⟩,h.hcb,h.lt,hB.row h.plan (by omega)⟩
theorem PlB.mono {w:World} {cb pb K L:Nat} {ns hold:Int} {W:World} {s y b:Value} (h:PlB w cb pb K ns hold W s y b) (hk:K ≤ L):PlB w cb pb L ns hold W s y b:=⟨h.but,h.cur.mono hk,h.res,h.hcb,h.lt,h.plan⟩
theorem PlB.set {w:World} {cb pb K:Nat} {ns hold:Int} {W:World} {s y b:Value} (h:PlB w cb pb K ns hold W s y b) (j:Nat) (u:Value):But (fun c=>c ≠ pb) W (W.setCell ⟨pb,j,none⟩ u) ∧ But (fun c=>c ≠ cb) w (W.setCell ⟨pb,j,none⟩ u) ∧ Cur (W.setCell ⟨pb,j,none⟩ u) cb K ∧ ∃ g,(W.setCell ⟨pb,j,none⟩ u).rowIs w.heap.size 27 5 g:=by
 have hl:=h.lt;have hc:=h.hcb;have hB:But (fun c=>c ≠ pb) W (W.setCell ⟨pb,j,none⟩ u):=(But.refl _ _).setCell (fun z=>z rfl) u;obtain ⟨g,hg⟩:=h.res;exact ⟨hB,h.but.setNew (p:=⟨pb,j,none⟩) (by show w.heap.size ≤ pb; omega) u,h.cur.but hB fun c hc=>by omega,g,hB.row hg (by omega)⟩
theorem PlB.set1 {w:World} {cb pb K:Nat} {ns hold:Int} {W:World} {s y b:Value} (h:PlB w cb pb K ns hold W s y b) (u:Value):PlB w cb pb K ns hold (W.setCell ⟨pb,1,none⟩ u) u y b:=by
 obtain ⟨-,h1,h2,h3⟩:=h.set 1 u;refine ⟨h1,h2,h3,h.hcb,h.lt,(h.plan.set 1 u).congr fun i hi=>?_⟩;rcases i with _ | _ | _ | _ | _ | i
 ·rfl
 ·rfl
 ·rfl
 ·rfl
 ·rfl
 ·omega
theorem PlB.set2 {w:World} {cb pb K:Nat} {ns hold:Int} {W:World} {s y b:Value} (h:PlB w cb pb K ns hold W s y b) (u:Value):PlB w cb pb K ns hold (W.setCell ⟨pb,2,none⟩ u) s u b:=by
 obtain ⟨-,h1,h2,h3⟩:=h.set 2 u;refine ⟨h1,h2,h3,h.hcb,h.lt,(h.plan.set 2 u).congr fun i hi=>?_⟩;rcases i with _ | _ | _ | _ | _ | i
 ·rfl
 ·rfl
 ·rfl
 ·rfl
 ·rfl
 ·omega
theorem PlB.set3 {w:World} {cb pb K:Nat} {ns hold:Int} {W:World} {s y b:Value} (h:PlB w cb pb K ns hold W s y b) (u:Value):PlB w cb pb K ns hold (W.setCell ⟨pb,3,none⟩ u) s y u:=by
 obtain ⟨-,h1,h2,h3⟩:=h.set 3 u;refine ⟨h1,h2,h3,h.hcb,h.lt,(h.plan.set 3 u).congr fun i hi=>?_⟩;rcases i with _ | _ | _ | _ | _ | i
 ·rfl
 ·rfl
 ·rfl
 ·rfl
 ·rfl
 ·omega
end Go.Proofs.YtdhinkgjiapigaaGreatDoor
namespace Go.Proofs.YtdhinkgjiapigaaGreatDoor
open Go.RowKit Go.Deep
open Classical
theorem zqm {P:Program} {w:World} {o:Oper} {a:Act} {K:Act → World → Prop} {Q:Exit → Act → World → Prop} (s x:Operand) (t:TypeId)
  (ho:o.op = .call { callee:=.builtin .append,args:=#[s,x],argTypes:=#[t,t] })
  (base:Nat) (e:TypeId) (z:Value) (size bytes:Nat) (ht:P.underlying t = some (.slice e)) (hinfo:(P.info? e).map (fun i=>(i.zero,i.size,i.bytes)) = some (some z,size,bytes)) (hzs:z.cells.size = size) (hsz:0 < size)
  (v:Value) (n:Nat) (xs:List Value) (hs:a.eval s = v) (hown:w.ownsRow base e size v n xs)
  (A:Addr) (m c:Nat) (news:List Value) (hx:a.eval x = .slice (some A) m c) (hl:news.length = m * size) (hnews:∀ j u,news[j]? = some u → w.cell? (A.add j) = some u) (h1:∀ u ∈ news,u.oneCell' = true)
  (h63:n + m ≤ maxLen) (hbytes:(n + m) * bytes ≤ 140737488355328) (hbase:base ≤ w.heap.size)
  (h:∀ v' w',w'.ownsRow base e size v' (n + m) (xs ++ news) → w.grownBy w' v.ownBlock → (v'.ownBlock = v.ownBlock ∨ ∀ g,v'.ownBlock = some g → w.heap.size ≤ g) → K (a.put o.dst v') w'):Oper.wp P o a w K Q:=by
 cases hi:P.info? e with
 | none=>rw [hi] at hinfo; cases hinfo
 | some i=>
  rw [hi] at hinfo;simp only [Option.map_some,Option.some.injEq,Prod.mk.injEq] at hinfo;obtain ⟨hz,hsize,hby⟩:=hinfo;obtain ⟨v',w',hrun,r1,r2,-⟩:=run_append_own (P:=P) w base t o.type e i z size bytes ht hi hz hsize hby hzs hsz v n xs hown A m c news hl hnews h1 h63 hbytes hbase
  have hfr:v'.ownBlock = v.ownBlock ∨ ∀ g,v'.ownBlock = some g → w.heap.size ≤ g:=by
   rcases hown.2 with ⟨rfl,rfl⟩ | ⟨g,cap,cur,rfl,hbg,hg,hnc,hcm,hcs,htake⟩
   ·have hx0:xs = []:=List.eq_nil_of_length_eq_zero (by simpa using hown.1);subst hx0;obtain ⟨v2,w2,hrun2,q1,-,-⟩:=run_append_own (P:=P) w w.heap.size t o.type e i z size bytes ht hi hz hsize hby hzs hsz (.slice none 0 0) 0 [] (World.ownsRow_nil _ _ _ _) A m c news hl hnews h1 h63 hbytes (Nat.le_refl _);rw [hrun] at hrun2
    cases hrun2
    exact .inr fun g hg=>(q1.lt g hg).1
   ·by_cases hroom:n + m ≤ cap
    ·have hr:=run_append_room (P:=P) w t o.type e i ht hi g n cap cur hg A m c news (by rw [hsize]; exact hl) hnews h1 hroom (by rw [hl,hcs,hsize,← Nat.add_mul]; exact Nat.mul_le_mul_right _ hroom);rw [hrun] at hr
     cases hr
     exact .inl rfl
    ·have hr:=run_append_grow (P:=P) w t o.type e i z ht hi hz ⟨g,0,none⟩ n cap xs (by rw [hsize]; exact hown.1) (hown.cells (g:=g) rfl) A m c news (by rw [hsize]; exact hl) hnews (by omega) (by simp only [maxLen] at h63; omega) (by rw [hby]; exact growslice_fits (by omega) hbytes);rw [hrun] at hr
     cases hr
     refine .inr fun g hg=>?_
     cases hg
     exact Nat.le_refl _
  unfold Oper.wp;simp [execOp,ho,resolve,invoke,builtin,hs,hx,hrun,Result.andThen];exact h v' w' r1 r2 hfr
structure WyB (w wr:World) (cb pb wb:Nat) (ns hold:Int) (s y:Value) (K:Nat) (W:World) (q:WayQ) (d:WayD):Prop where
 pl:PlB w cb pb K ns hold W s y (.slice none 0 0)
 kp:But (fun c=>pb < c) wr W
 box:W.rowIs wb 51 5 (fun i=>(#[q.v0,q.v1,q.v2,q.v3,q.v4]:Array Value)[i]!)
 way:WayO W (wb + 1) q d
 dis:∀ g,q.v1.ownBlock = some g → q.v2.ownBlock ≠ some g
 hwb:wr.heap.size = wb
 lt:pb < wb
section
variable {w wr : World} {cb pb wb : Nat} {ns hold : Int} {s y : Value} {K : Nat} {W : World} {q : WayQ} {d : WayD}
theorem WyB.call (h:WyB w wr cb pb wb ns hold s y K W q d) {W':World} (hb:Below W.heap.size W W'):WyB w wr cb pb wb ns hold s y K W' q d:=
 ⟨h.pl.far (Q:=fun _=>True) (But.of_calls hb) fun _ _=>trivial,h.kp.call hb,zah h.box hb,h.way.far (K:=fun _=>True) (But.of_calls hb) fun _ _ _=>trivial,h.dis,h.hwb,h.lt⟩
theorem WyB.pick (h:WyB w wr cb pb wb ns hold s y K W q d) {W':World} {L:Nat} (hB:But (fun c=>c ≠ cb) W W') (hc:Cur W' cb L):WyB w wr cb pb wb ns hold s y L W' q d:=by
 have h1:=h.lt;have h2:=h.pl.lt;have h3:=h.pl.hcb;have h4:=h.hwb;exact ⟨h.pl.pick hB hc,h.kp.trans (hB.mono fun c _ hc=>by omega),hB.row h.box (by omega),h.way.far hB fun c hc _=>by omega,h.dis,h.hwb,h.lt⟩
theorem WyB.mono (h:WyB w wr cb pb wb ns hold s y K W q d) {L:Nat} (hk:K ≤ L):WyB w wr cb pb wb ns hold s y L W q d:=⟨h.pl.mono hk,h.kp,h.box,h.way,h.dis,h.hwb,h.lt⟩
theorem WyB.set (h:WyB w wr cb pb wb ns hold s y K W q d) (j:Nat) (u:Value):PlB w cb pb K ns hold (W.setCell ⟨wb,j,none⟩ u) s y (.slice none 0 0) ∧ But (fun c=>pb < c) wr (W.setCell ⟨wb,j,none⟩ u) ∧ WayO (W.setCell ⟨wb,j,none⟩ u) (wb + 1) q d:=by
 have h1:=h.lt;exact ⟨h.pl.far (Q:=fun c=>c ≠ wb) ((But.refl _ _).setCell (fun z=>z rfl) u) fun c hc=>by omega,h.kp.setNew (p:=⟨wb,j,none⟩) (by show wr.heap.size ≤ wb; rw [h.hwb]; omega) u,h.way.box h.box ⟨by decide,by decide⟩ j u⟩
theorem WyB.put0 (h:WyB w wr cb pb wb ns hold s y K W q d) {v:Value} {l:List Int} (ho:W.ownsRow (wb + 1) 3 1 v l.length (zcg l)):WyB w wr cb pb wb ns hold s y K (W.setCell ⟨wb,0,none⟩ v) ⟨v,q.v1,q.v2,q.v3,q.v4⟩ ⟨l,d.lies,d.flanks,d.over,d.near⟩:=by
 obtain ⟨a1,a2,a3⟩:=h.set 0 v;refine ⟨a1,a2,(h.box.set 0 v).congr fun i hi=>?_,⟨zd8 ho h.box (by decide) _ _,a3.l1,a3.l2,a3.o3,a3.n4⟩,h.dis,h.hwb,h.lt⟩;rcases i with _ | _ | _ | _ | _ | i
 ·rfl
 ·rfl
 ·rfl
 ·rfl
 ·rfl
 ·omega
theorem WyB.put3 (h:WyB w wr cb pb wb ns hold s y K W q d) {v:Value} {l:List Int} (ho:W.ownsRow (wb + 1) 3 1 v l.length (zcg l)):WyB w wr cb pb wb ns hold s y K (W.setCell ⟨wb,3,none⟩ v) ⟨q.v0,q.v1,q.v2,v,q.v4⟩ ⟨d.sections,d.lies,d.flanks,l,d.near⟩:=by
 obtain ⟨a1,a2,a3⟩:=h.set 3 v;refine ⟨a1,a2,(h.box.set 3 v).congr fun i hi=>?_,⟨a3.s0,a3.l1,a3.l2,zd8 ho h.box (by decide) _ _,a3.n4⟩,h.dis,h.hwb,h.lt⟩;rcases i with _ | _ | _ | _ | _ | i
 ·rfl
 ·rfl
 ·rfl
 ·rfl
 ·rfl
 ·omega
theorem WyB.put4 (h:WyB w wr cb pb wb ns hold s y K W q d) {v:Value} {l:List Int} (ho:W.ownsRow (wb + 1) 3 1 v l.length (zcg l)):WyB w wr cb pb wb ns hold s y K (W.setCell ⟨wb,4,none⟩ v) ⟨q.v0,q.v1,q.v2,q.v3,v⟩ ⟨d.sections,d.lies,d.flanks,d.over,l⟩:=by
 obtain ⟨a1,a2,a3⟩:=h.set 4 v;refine ⟨a1,a2,(h.box.set 4 v).congr fun i hi=>?_,⟨a3.s0,a3.l1,a3.l2,a3.o3,zd8 ho h.box (by decide) _ _⟩,h.dis,h.hwb,h.lt⟩;rcases i with _ | _ | _ | _ | _ | i
 ·rfl
 ·rfl
 ·rfl
 ·rfl
 ·rfl
 ·omega
theorem WyB.grown (h:WyB w wr cb pb wb ns hold s y K W q d) {v:Value} {n:Nat} {xs:List Value} (ho:W.ownsRow (wb + 1) 58 2 v n xs) {W':World} (hg:W.grownBy W' v.ownBlock):PlB w cb pb K ns hold W' s y (.slice none 0 0) ∧ But (fun c=>pb < c) wr W' ∧ W'.rowIs wb 51 5 (fun i=>(#[q.v0,q.v1,q.v2,q.v3,q.v4]:Array Value)[i]!):=by
 have h1:=h.lt;have hB:But (fun c=>some c ≠ v.ownBlock) W W':=⟨hg.os,hg.tape,hg.output,hg.size,fun c hc hk=>hg.block c hc hk⟩;have hz:wb + 1 ≤ W.heap.size:=h.box.lt
 have hk:∀ c,c ≤ wb → some c ≠ v.ownBlock:=fun c hc e=>by
  have:=(zat ho e.symm).1;omega
 exact ⟨h.pl.far hB fun c hc=>hk c (by omega),h.kp.low (zbm ho hg (by have:=h.hwb; omega) (by have:=h.hwb; omega)),hB.row h.box (hk wb (Nat.le_refl _))⟩
theorem WyB.lie (h:WyB w wr cb pb wb ns hold s y K W q d) {W':World} (hg:W.grownBy W' q.v1.ownBlock) {v:Value} (hv:v.ownBlock = q.v1.ownBlock ∨ ∀ g,v.ownBlock = some g → W.heap.size ≤ g) {x:Int × Int} {n:Nat} (ho:W'.ownsRow (wb + 1) 58 2 v n (zau d.lies ++ [.int .i64 x.1,.int .i64 x.2])) (hn:n = d.lies.length + 1):WyB w wr cb pb wb ns hold s y K (W'.setCell ⟨wb,1,none⟩ v) ⟨q.v0,v,q.v2,q.v3,q.v4⟩ ⟨d.sections,d.lies ++ [x],d.flanks,d.over,d.near⟩:=by
 obtain ⟨p1,p2,p3⟩:=h.grown h.way.l1 hg;have hB:But (fun c=>some c ≠ q.v1.ownBlock) W W':=⟨hg.os,hg.tape,hg.output,hg.size,fun c hc hk=>hg.block c hc hk⟩;have hl2:=za3 h.way.l2 hB fun g e e2=>h.dis g e2.symm e;have h1:=h.lt;have hwr:=h.hwb
 have p4:WayO W' (wb + 1) ⟨q.v0,v,q.v2,q.v3,q.v4⟩ ⟨d.sections,d.lies ++ [x],d.flanks,d.over,d.near⟩:=⟨zbi h.way.s0 h.way.l1 (by decide) hg,by
  show W'.ownsRow (wb + 1) 58 2 v (d.lies ++ [x]).length (zau (d.lies ++ [x]));rw [zes,List.length_append,List.length_singleton,← hn]
  exact ho,hl2,zbi h.way.o3 h.way.l1 (by decide) hg,zbi h.way.n4 h.way.l1 (by decide) hg⟩
 refine ⟨p1.far (Q:=fun c=>c ≠ wb) ((But.refl _ _).setCell (fun z=>z rfl) v) fun c hc=>by omega,p2.setNew (p:=⟨wb,1,none⟩) (by show wr.heap.size ≤ wb; omega) v,(p3.set 1 v).congr fun i hi=>?_,p4.box p3 ⟨by decide,by decide⟩ 1 v,fun g e1 e2=>?_,h.hwb,h.lt⟩
 ·rcases i with _ | _ | _ | _ | _ | i
  ·rfl
  ·rfl
  ·rfl
  ·rfl
  ·rfl
  ·omega
 ·rcases hv with e | e
  ·exact h.dis g (e.symm.trans e1) e2
  ·have z1:=e g e1;have z2:=(zat h.way.l2 e2).2.1;omega
theorem WyB.flank (h:WyB w wr cb pb wb ns hold s y K W q d) {W':World} (hg:W.grownBy W' q.v2.ownBlock) {v:Value} (hv:v.ownBlock = q.v2.ownBlock ∨ ∀ g,v.ownBlock = some g → W.heap.size ≤ g) {x:Int × Int} {n:Nat} (ho:W'.ownsRow (wb + 1) 58 2 v n (zau d.flanks ++ [.int .i64 x.1,.int .i64 x.2])) (hn:n = d.flanks.length + 1):WyB w wr cb pb wb ns hold s y K (W'.setCell ⟨wb,2,none⟩ v) ⟨q.v0,q.v1,v,q.v3,q.v4⟩ ⟨d.sections,d.lies,d.flanks ++ [x],d.over,d.near⟩:=by
 obtain ⟨p1,p2,p3⟩:=h.grown h.way.l2 hg;have hB:But (fun c=>some c ≠ q.v2.ownBlock) W W':=⟨hg.os,hg.tape,hg.output,hg.size,fun c hc hk=>hg.block c hc hk⟩;have hl1:=za3 h.way.l1 hB fun g e e2=>h.dis g e e2.symm;have h1:=h.lt;have hwr:=h.hwb
 have p4:WayO W' (wb + 1) ⟨q.v0,q.v1,v,q.v3,q.v4⟩ ⟨d.sections,d.lies,d.flanks ++ [x],d.over,d.near⟩:=⟨zbi h.way.s0 h.way.l2 (by decide) hg,hl1,by
  show W'.ownsRow (wb + 1) 58 2 v (d.flanks ++ [x]).length (zau (d.flanks ++ [x]));rw [zes,List.length_append,List.length_singleton,← hn]
  exact ho,zbi h.way.o3 h.way.l2 (by decide) hg,zbi h.way.n4 h.way.l2 (by decide) hg⟩
 refine ⟨p1.far (Q:=fun c=>c ≠ wb) ((But.refl _ _).setCell (fun z=>z rfl) v) fun c hc=>by omega,p2.setNew (p:=⟨wb,2,none⟩) (by show wr.heap.size ≤ wb; omega) v,(p3.set 2 v).congr fun i hi=>?_,p4.box p3 ⟨by decide,by decide⟩ 2 v,fun g e1 e2=>?_,h.hwb,h.lt⟩
 ·rcases i with _ | _ | _ | _ | _ | i
  ·rfl
  ·rfl
  ·rfl
  ·rfl
  ·rfl
  ·omega
 ·rcases hv with e | e
  ·exact h.dis g e1 (e.symm.trans e2)
  ·have z1:=e g e2;have z2:=(zat h.way.l1 e1).2.1;omega
end
theorem WyB.done {w wr:World} {cb pb wb:Nat} {ns hold:Int} {s y:Value} {K:Nat} {W:World} {q:WayQ} {d:WayD} (h:WyB w wr cb pb wb ns hold s y K W q d) {n:Nat} {xs:List Value} (hsw:wr.ownsRow (pb + 1) 3 1 s n xs) {ws:List (WayQ × WayD)} (hws:WaysO wr (pb + 1) y ws) {W':World} (hg:W.grownBy W' y.ownBlock) {v:Value} {m:Nat} (ho:W'.ownsRow (pb + 1) 51 5 v m (zdj ws ++ [q.v0,q.v1,q.v2,q.v3,q.v4])) (hm:m = ws.length + 1) :
  PlB w cb pb K ns hold W' s y (.slice none 0 0) ∧ PlB w cb pb K ns hold (W'.setCell ⟨pb,2,none⟩ v) s v (.slice none 0 0) ∧ (W'.setCell ⟨pb,2,none⟩ v).ownsRow (pb + 1) 3 1 s n xs ∧ WaysO (W'.setCell ⟨pb,2,none⟩ v) (pb + 1) v (ws ++ [(q,d)]):=by
 have hlt:=h.lt
 have hwsW:=hws.far h.kp fun c hc _=>by omega
 have hswW:=zba hsw h.kp fun c hc _=>by omega
 have hz:pb + 1 ≤ W.heap.size:=h.pl.plan.lt
 have hP:=h.pl.far (Q:=fun c=>c < pb + 1) (But.of_below (zbm hwsW.own hg (Nat.le_refl _) hz) fun _ _ z=>z) fun c hc=>by omega
 have hB:But (fun c=>c ≠ pb) W' (W'.setCell ⟨pb,2,none⟩ v):=(But.refl _ _).setCell (fun z=>z rfl) v;refine ⟨hP,hP.set2 v,zba (zbi hswW hwsW.own (by decide) hg) hB fun c hc _=>by omega,?_,fun x hx=>?_⟩
 ·rw [zk5,List.length_append,List.length_singleton,← hm]
  exact zba ho hB fun c hc _=>by omega
 ·have h1:WayO W' (pb + 1) x.1 x.2:=by
   rcases List.mem_append.1 hx with e | e
   ·exact (hwsW.ways x e).other hwsW.own ⟨by decide,by decide⟩ hg
   ·rw [List.mem_singleton.1 e];exact (h.way.low (by omega)).other hwsW.own ⟨by decide,by decide⟩ hg
  exact h1.far hB fun c hc _=>by omega
theorem zrs {n:Nat} {sw l lov lnr:List Int} {li fl:List (Int × Int)} (h0:1 ≤ l.length) (h1:∀ j,j < l.length → znr (n:Int) l j) (h2:l.length ≤ 4) (h3:(∀ j,j < lov.length → znr (n:Int) lov j) ∧ lov.length ≤ 2 ∧ ¬ Meet lov l) (h4:(∀ j,j < lnr.length → znr (n:Int) lnr j) ∧ lnr.length ≤ 2) (hs:sw.length ≤ 3)
  (h5:∀ j,j < li.length → zhr sw.length li j) (h6:∀ j,j < fl.length → zhr sw.length fl j) (h7:li.length ≤ sw.length) (h8:fl.length ≤ sw.length) (h9:∀ x ∈ li,∃ s,sw[x.1.toNat]? = some s ∧ s ∈ l) (h10:∀ x ∈ fl,∃ s,sw[x.1.toNat]? = some s ∧ ¬ s ∈ l):WayOk (n:Int) sw ⟨l,li,fl,lov,lnr⟩:=by
 refine ⟨fun e=>?_,⟨h1,Nat.le_trans h2 (by omega)⟩,⟨h3.1,Nat.le_trans h3.2.1 (by omega)⟩,⟨h4.1,Nat.le_trans h4.2 (by omega)⟩,⟨h5,Nat.le_trans h7 (by omega)⟩,⟨h6,Nat.le_trans h8 (by omega)⟩,fun x hx=>⟨fun z hz e=>?_,h9 x hx⟩,h3.2.2⟩
 ·have e':l = []:=e;rw [e'] at h0;exact absurd h0 (by show ¬ 1 ≤ 0; omega)
 ·obtain ⟨s,hs1,hs2⟩:=h9 x hx;obtain ⟨s',hs1',hs2'⟩:=h10 z hz;rw [e,hs1'] at hs1
  cases hs1
  exact hs2' hs2
theorem znb {W:World} {rb t n:Nat} {f:Nat → Value} (h:W.rowIs rb t n f) (hn:n ≤ maxLen):W.ownsRow rb t 1 (.slice (some ⟨rb,0,none⟩) n n) n ((List.range n).map f):=by
 obtain ⟨cur,hh,hs,hc⟩:=h;refine ⟨by simp,.inr ⟨rb,n,cur,rfl,Nat.le_refl _,hh,Nat.le_refl _,hn,by omega,?_⟩⟩;refine List.ext_getElem? fun j=>?_;rw [List.getElem?_take];by_cases e:j < n
 ·rw [if_pos (by omega),Array.getElem?_toList,hc j e,List.getElem?_map,List.getElem?_range e];rfl
 ·rw [if_neg (by omega),List.getElem?_eq_none (by simp; omega)]
structure RwB (w wr:World) (cb pb rb:Nat) (ns hold:Int) (s y b:Value) (nw K:Nat) (W:World) (f:Nat → Bool):Prop where
 pl:PlB w cb pb K ns hold W s y b
 kp:But (fun c=>pb < c) wr W
 row:W.rowIs rb 4 nw (fun j=>.bool (f j))
 hrb:wr.heap.size = rb
 lt:pb < rb
section
variable {w wr : World} {cb pb rb : Nat} {ns hold : Int} {s y b : Value} {nw K : Nat} {W : World} {f : Nat → Bool}
theorem RwB.call (h:RwB w wr cb pb rb ns hold s y b nw K W f) {W':World} (hb:Below W.heap.size W W'):RwB w wr cb pb rb ns hold s y b nw K W' f:=
 ⟨h.pl.far (Q:=fun _=>True) (But.of_calls hb) fun _ _=>trivial,h.kp.call hb,zah h.row hb,h.hrb,h.lt⟩
theorem RwB.pick (h:RwB w wr cb pb rb ns hold s y b nw K W f) {W':World} {L:Nat} (hB:But (fun c=>c ≠ cb) W W') (hc:Cur W' cb L):RwB w wr cb pb rb ns hold s y b nw L W' f:=by
 have h1:=h.lt;have h2:=h.pl.lt;have h3:=h.pl.hcb;exact ⟨h.pl.pick hB hc,h.kp.trans (hB.mono fun c _ hc=>by omega),hB.row h.row (by omega),h.hrb,h.lt⟩
theorem RwB.mono (h:RwB w wr cb pb rb ns hold s y b nw K W f) {L:Nat} (hk:K ≤ L):RwB w wr cb pb rb ns hold s y b nw L W f:=⟨h.pl.mono hk,h.kp,h.row,h.hrb,h.lt⟩
theorem RwB.put (h:RwB w wr cb pb rb ns hold s y b nw K W f) (k:Nat) (v:Bool):RwB w wr cb pb rb ns hold s y b nw K (W.setCell ⟨rb,k,none⟩ (.bool v)) (fun j=>if j = k then v else f j):=by
 have h1:=h.lt;refine ⟨h.pl.far (Q:=fun c=>c ≠ rb) ((But.refl _ _).setCell (fun z=>z rfl) _) fun c hc=>by omega,h.kp.setNew (p:=⟨rb,k,none⟩) (by show wr.heap.size ≤ rb; rw [h.hrb]; omega) _,(h.row.set k (.bool v)).congr fun j _=>?_,h.hrb,h.lt⟩;by_cases e:j = k
 ·simp [e]
 ·simp [e]
theorem RwB.done (h:RwB w wr cb pb rb ns hold s y b nw K W f) {lo:Nat} {rs:List (Value × List Bool)} (hrs:RowsO wr lo b rs) (hlo:pb < lo) (hlr:lo ≤ rb) (hnw:nw ≤ maxLen) {W':World} (hg:W.grownBy W' b.ownBlock) {v:Value} {m:Nat} (ho:W'.ownsRow lo 36 1 v m (rs.map Prod.fst ++ [.slice (some ⟨rb,0,none⟩) nw nw])) (hm:m = rs.length + 1) :
  PlB w cb pb K ns hold W' s y b ∧ PlB w cb pb K ns hold (W'.setCell ⟨pb,3,none⟩ v) s y v ∧ Below lo W W' ∧ RowsO (W'.setCell ⟨pb,3,none⟩ v) lo v (rs ++ [(.slice (some ⟨rb,0,none⟩) nw nw,(List.range nw).map f)]):=by
 have hlt:=h.lt
 have hrsW:=hrs.far h.kp fun c hc _=>by omega
 have hz:lo ≤ W.heap.size:=Nat.le_trans hlr (Nat.le_of_lt h.row.lt);have hbl:=zbm hrsW.own hg (Nat.le_refl _) hz
 have hP:=h.pl.far (Q:=fun c=>c < lo) (But.of_below hbl fun _ _ z=>z) fun c hc=>by omega
 have hB:But (fun c=>c ≠ pb) W' (W'.setCell ⟨pb,3,none⟩ v):=(But.refl _ _).setCell (fun z=>z rfl) v;refine ⟨hP,hP.set3 v,hbl,?_,fun x hx=>?_⟩
 ·rw [List.map_append,List.length_append,List.length_singleton,← hm]
  exact zba ho hB fun c hc _=>by omega
 ·rcases List.mem_append.1 hx with e | e
  ·exact zba (zbi (hrsW.rows x e) hrsW.own (by decide) hg) hB fun c hc _=>by omega
  ·rw [List.mem_singleton.1 e];have h1:=zbi (zb5 (znb h.row hnw) hlr) hrsW.own (by decide) hg
   have h2:=zba h1 hB fun c hc _=>by omega
   show (W'.setCell ⟨pb,3,none⟩ v).ownsRow lo 4 1 (.slice (some ⟨rb,0,none⟩) nw nw) ((List.range nw).map f).length (((List.range nw).map f).map Value.bool);rw [List.map_map,List.length_map,List.length_range];exact h2
end
theorem tkG {P:Program} {Q:Exit → Act → World → Prop} {S:World → Prop} {l:List Oper} {m i:Nat} {oi:Oper} {v:Value} {fuel:Nat} {listed:Array Bool} {a:Act} {w:World} (hi:At l i oi) (hc:tkOk l listed m i = true)
  (hQ:∀ c a w,Q (.panic c) (a.put oi.dst v) w → Q (.panic c) a w) (hg:Region.wanted oi (yielded l.toArray a.tmps) = true) (hy:∀ w,S w → (execOp a.eval oi).run P w = .ok (.value v) w) (hS:S w)
  (h:zbq P .any l.toArray Q S m fuel (listed.setIfInBounds i true) (a.put oi.dst v) w):zbq P .any l.toArray Q S m (fuel + 1) listed a w:=
 ze3 hi.arr (tkOk.all hc).1 (tkOk.all hc).2.1 (tkOk.all hc).2.2.1 (tkOk.all hc).2.2.2 hQ (.inl ⟨hg,hy⟩) hS h
theorem tkN {P:Program} {Q:Exit → Act → World → Prop} {S:World → Prop} {l:List Oper} {m i:Nat} {oi:Oper} {fuel:Nat} {listed:Array Bool} {a:Act} {w:World} (hi:At l i oi) (hc:tkOk l listed m i = true)
  (hQ:∀ c a w,Q (.panic c) (a.put oi.dst undef) w → Q (.panic c) a w) (hg:Region.wanted oi (yielded l.toArray a.tmps) = false) (hS:S w)
  (h:zbq P .any l.toArray Q S m fuel (listed.setIfInBounds i true) (a.put oi.dst undef) w):zbq P .any l.toArray Q S m (fuel + 1) listed a w:=
 ze3 hi.arr (tkOk.all hc).1 (tkOk.all hc).2.1 (tkOk.all hc).2.2.1 (tkOk.all hc).2.2.2 hQ (.inr ⟨hg,rfl⟩) hS h
theorem zif {i:Nat} {l:List (Int × Int)} {x:Int} (h:∀ j,j < l.length → zhr i l j) (hx:InR x 1 2):∀ j,j < (l ++ [((i:Int),x)]).length → zhr (i + 1) (l ++ [((i:Int),x)]) j:=fun j hj y hy=>by
 by_cases e:j < l.length
 ·rw [List.getElem?_append_left e] at hy
  obtain ⟨⟨⟨h1,h1'⟩,h2⟩,h3⟩:=h j e y hy
  refine ⟨⟨⟨h1,by omega⟩,h2⟩,fun q z hq hz=>?_⟩
  rw [List.getElem?_append_left (by omega)] at hz
  exact h3 q z hq hz
 ·have e2:j = l.length:=by simp at hj; omega
  subst e2
  rw [List.getElem?_append_right (Nat.le_refl _),Nat.sub_self] at hy
  cases hy
  refine ⟨⟨⟨by show (0:Int) ≤ (i:Int); omega,by show (i:Int) ≤ ((i + 1:Nat):Int) - 1; omega⟩,hx⟩,fun q z hq hz e=>?_⟩
  rw [List.getElem?_append_left hq] at hz
  have:=(h q hq z hz).1.1.2
  have e':z.1 = (i:Int):=e
  omega
theorem zei {i:Nat} {l:List (Int × Int)} (h:∀ j,j < l.length → zhr i l j):∀ j,j < l.length → zhr (i + 1) l j:=fun j hj y hy=>by
 obtain ⟨⟨⟨h1,h1'⟩,h2⟩,h3⟩:=h j hj y hy
 exact ⟨⟨⟨h1,by omega⟩,h2⟩,h3⟩
def zq9 (ds:List WayD) (rows:List (List Bool)) (i:Nat) (r:List Bool) (k:Nat):Prop:=(k < i → r[k]? = (rows[k]?).bind fun x=>x[i]?) ∧ (i ≤ k → ∀ x y,ds[i]? = some x → ds[k]? = some y → Meet x.sections y.sections → r[k]? = some true)
def BarsOk (ds:List WayD) (rows:List (List Bool)):Prop:=∀ i r,rows[i]? = some r → r.length = ds.length ∧ ∀ k,k < ds.length → zq9 ds rows i r k
theorem BarsOk.snoc {ds:List WayD} {rows:List (List Bool)} (h:BarsOk ds rows) {r:List Bool} (hl:r.length = ds.length) (hr:∀ k,k < ds.length → zq9 ds rows rows.length r k):BarsOk ds (rows ++ [r]):=fun i r' hi=>by
 by_cases e:i < rows.length
 ·rw [List.getElem?_append_left e] at hi
  obtain ⟨h1,h2⟩:=h i r' hi
  refine ⟨h1,fun k hk=>⟨fun hki=>?_,(h2 k hk).2⟩⟩
  rw [List.getElem?_append_left (by omega)]
  exact (h2 k hk).1 hki
 ·have e2:i = rows.length:=by
   have:=(List.getElem?_eq_some_iff.1 hi).1
   simp at this
   omega
  subst e2
  rw [List.getElem?_append_right (Nat.le_refl _),Nat.sub_self] at hi
  cases hi
  refine ⟨hl,fun k hk=>⟨fun hki=>?_,(hr k hk).2⟩⟩
  rw [List.getElem?_append_left hki]
  exact (hr k hk).1 hki
theorem zmv {p:PlanD} (h1:InR p.sections 1 60) (h2:p.switches.length ≤ 40) (h3:p.ways.length ≤ 100) (h4:InR p.hold 1 300) (h5:∀ x ∈ p.switches,InR x 0 (p.sections - 1)) (h6:∀ x ∈ p.ways,WayOk p.sections p.switches x) (h7:p.bars.length = p.ways.length) (h8:BarsOk p.ways p.bars):Right p:=by
 have hbar:∀ i k,k < i → i < p.ways.length → p.bar i k = p.bar k i:=fun i k hki hi=>by
  unfold PlanD.bar
  have hi':i < p.bars.length:=by omega
  have:=(h8 i _ (List.getElem?_eq_getElem hi')).2 k (by omega);rw [List.getElem?_eq_getElem hi'];show p.bars[i][k]? = _;exact this.1 hki
 refine .inr ⟨fun z=>z ⟨h1,h2,h3,h4⟩,.inr ⟨?_,.inr ⟨?_,.inr ⟨fun z=>z h7,.inr ⟨?_,.inr ⟨?_,rfl,rfl⟩⟩⟩⟩⟩⟩
 ·rintro k ⟨s,hs,hb⟩;exact hb (h5 s (List.mem_of_getElem? hs))
 ·rintro i ⟨x,hx,hb⟩;exact hb (h6 x (List.mem_of_getElem? hx))
 ·rintro k ⟨r,hr,hb⟩;exact hb (h8 k r hr).1
 ·rintro i ⟨hi,k,hk,hp⟩
  have hno:∀ a b,a < b → b < p.ways.length → ¬ Pair p a b:=by
   rintro a b hab hb (h | ⟨-,hf,x,y,hx,hy,hm⟩)
   ·exact h (hbar b a hab hb).symm
   ·have ha':a < p.bars.length:=by omega
    have hr:=(h8 a _ (List.getElem?_eq_getElem ha')).2 b hb;have:=hr.2 (by omega) x y hx hy hm;unfold PlanD.bar at hf;rw [List.getElem?_eq_getElem ha'] at hf;have hf':p.bars[a][b]? = some false:=hf;rw [this] at hf'
    cases hf'
  rcases Nat.lt_trichotomy i k with e | e | e
  ·exact hno i k e hk hp
  ·subst e; exact Pair.irrefl hp
  ·exact hno k i e hi hp.symm
end Go.Proofs.YtdhinkgjiapigaaGreatDoor

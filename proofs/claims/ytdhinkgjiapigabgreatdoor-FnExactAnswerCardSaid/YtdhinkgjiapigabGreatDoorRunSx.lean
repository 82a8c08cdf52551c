import Derived.Test.YtdhinkgjiapigabGreatDoorRunS
import Derived.Test.YtdhinkgjiapigabGreatDoorBasex
import Derived.Test.YtdhinkgjiapigabGreatDoorEvAx
import Derived.Test.YtdhinkgjiapigabGreatDoorPlIx
import Derived.Test.YtdhinkgjiapigabGreatDoorRanAx
import Derived.Test.YtdhinkgjiapigabGreatDoorToAx
import Derived.Deep.RegionLaw
import Derived.Deep.AppendLies
import Derived.Deep.DeepCutAuto
namespace Go.Proofs.YtdhinkgjiapigabGreatDoor
open Go.RowKit Go.Deep
open Classical
structure MadeB (w:World) (n:Nat) (hold:Int) (W:World) (s u l:Value):Prop where
 below:Below w.heap.size w W
 res:∃ g,W.rowIs w.heap.size 37 5 g
 bools:W.rowIs (w.heap.size + 1) 4 1 (fun i=>(#[.bool true]:Array Value)[i]!)
 bars:W.rowIs (w.heap.size + 1 + 1) 27 1 (fun i=>(#[.slice (some ⟨w.heap.size + 1,0,none⟩) 1 1]:Array Value)[i]!)
 plan:W.rowIs (w.heap.size + 1 + 1 + 1) 37 5 (fun i=>(#[.int .i64 ((n:Int) + 1),s,.slice none 0 0,.slice (some ⟨w.heap.size + 1 + 1,0,none⟩) 1 1,.int .i64 hold]:Array Value)[i]!)
 near:W.rowIs (w.heap.size + 1 + 1 + 1 + 1) 3 1 (fun i=>(#[.int .i64 n]:Array Value)[i]!)
 way:W.rowIs (w.heap.size + 1 + 1 + 1 + 1 + 1) 122 5 (fun i=>(#[u,l,.slice none 0 0,.slice none 0 0,.slice (some ⟨w.heap.size + 1 + 1 + 1 + 1,0,none⟩) 1 1]:Array Value)[i]!)
theorem MadeB.but {w:World} {n:Nat} {hold:Int} {W W':World} {s u l:Value} {K:Nat → Prop} (h:MadeB w n hold W s u l) (hB:But K W W') (hk:∀ c,c < w.heap.size + 1 + 1 + 1 + 1 + 1 + 1 → K c):MadeB w n hold W' s u l:=by
 obtain ⟨g,hg⟩:=h.res;exact ⟨h.below.trans (hB.below h.below.size fun c hc=>hk c (by omega)),⟨g,hB.row hg (hk _ (by omega))⟩,hB.row h.bools (hk _ (by omega)),hB.row h.bars (hk _ (by omega)),hB.row h.plan (hk _ (by omega)),hB.row h.near (hk _ (by omega)),hB.row h.way (hk _ (by omega))⟩
end Go.Proofs.YtdhinkgjiapigabGreatDoor
namespace Go.Proofs.YtdhinkgjiapigabGreatDoor
open Go.RowKit Go.Deep
open Classical
set_option maxHeartbeats 1000000 in
theorem toEvent_do (op of lie:Int) (w:World) :
  Calls Tryz.prog 22 #[.agg #[.int .i64 op,.int .i64 of,.int .i64 lie]] w fun e w'=>e = .returned (.agg #[.int .i64 op,.int .i64 of,.int .i64 lie]) ∧ Below w.heap.size w w':=by
 go_enter Tryz.func22,Tryz.ntmps22;go_wp2;exact bodyPost_ret (v:=.agg #[.int .i64 op,.int .i64 of,.int .i64 lie]) (by simp [results,Tryz.results22,go_sem]) rfl ⟨rfl,(((Below.refl _ _).alloc (Nat.le_refl _) _).alloc (by simp) _).alloc (by simp; omega) _⟩
theorem FrameM.off {B0 bn T N:Nat} {w:World} {v1 v2 v3:Value} {d:FrameD} {f:Nat → Value} (h:FrameM B0 w v1 v2 v3 d) (hr:w.rowIs bn T N f) (h1:T ≠ 4) (h2:T ≠ 90) (h3:T ≠ 93):FrameP (fun c=>B0 ≤ c ∧ c ≠ bn) w v1 v2 v3 d:=by
 rcases h with ⟨bo,bp,bw,bb,h⟩ | h
 ·refine .inl ⟨bo,bp,bw,bb,h.occ,h.points,h.ways,⟨h.po,?_⟩,fun z=>⟨h.pp z,?_⟩,fun z=>⟨h.pw z,?_⟩,fun i hi=>⟨h.pb i hi,?_⟩,h.inj,h.off⟩
  ·obtain ⟨_,_,hq⟩:=h.occ.row;exact zbb hq hr h1.symm
  ·obtain ⟨_,_,hq⟩:=h.points.row z;exact zbb hq hr h2.symm
  ·obtain ⟨_,_,hq⟩:=h.ways.row z;exact zbb hq hr h3.symm
  ·obtain ⟨_,_,hq⟩:=h.ways.been hi;exact zbb hq hr h1.symm
 ·exact .inr h
end Go.Proofs.YtdhinkgjiapigabGreatDoor
namespace Go.Proofs.YtdhinkgjiapigabGreatDoor
open Go.RowKit Go.Deep
def Rows (rs:List (Nat × TypeId × Array Value)) (W:World):Prop:=∀ r ∈ rs,W.rowIs r.1 r.2.1 r.2.2.size (fun i=>r.2.2[i]!)
theorem Rows.but {rs:List (Nat × TypeId × Array Value)} {W W':World} {K:Nat → Prop} (h:Rows rs W) (hB:But K W W') (hk:∀ r ∈ rs,K r.1):Rows rs W':=fun r hr=>hB.row (h r hr) (hk r hr)
theorem Rows.call {rs:List (Nat × TypeId × Array Value)} {W W':World} (h:Rows rs W) (hB:Below W.heap.size W W'):Rows rs W':=h.but (K:=fun _=>True) (But.of_calls hB) fun _ _=>trivial
theorem Rows.snoc {rs:List (Nat × TypeId × Array Value)} {W:World} (h:Rows rs W) {b:Nat} {t:TypeId} {c:Array Value} (hr:W.rowIs b t c.size (fun i=>c[i]!)):Rows (rs ++ [(b,t,c)]) W:=fun r hm=>by
 rcases List.mem_append.1 hm with z | z
 ·exact h r z
 ·obtain rfl:=List.mem_singleton.1 z
  exact hr
theorem Rows.cell {rs:List (Nat × TypeId × Array Value)} {W:World} (h:Rows rs W) {j b i:Nat} {t:TypeId} {c:Array Value} {v:Value} (hj:rs[j]? = some (b,t,c)) (hi:c[i]? = some v):W.cell? ⟨b,i,none⟩ = some v:=by
 have hr:=h _ (List.mem_of_getElem? hj);obtain ⟨hl,e⟩:=Array.getElem?_eq_some_iff.1 hi;rw [hr.cell (i:=i) hl];show some c[i]! = some v;rw [getElem!_pos c i hl,e]
theorem Rows.cells5 {rs:List (Nat × TypeId × Array Value)} {W:World} (h:Rows rs W) {j b:Nat} {t:TypeId} {x0 x1 x2 x3 x4:Value} (hj:rs[j]? = some (b,t,#[x0,x1,x2,x3,x4])):W.cell? ⟨b,0,none⟩ = some x0 ∧ W.cell? ⟨b,1,none⟩ = some x1 ∧ W.cell? ⟨b,2,none⟩ = some x2 ∧ W.cell? ⟨b,3,none⟩ = some x3 ∧ W.cell? ⟨b,4,none⟩ = some x4:=⟨h.cell hj rfl,h.cell hj rfl,h.cell hj rfl,h.cell hj rfl,h.cell hj rfl⟩
end Go.Proofs.YtdhinkgjiapigabGreatDoor
namespace Go.Proofs.YtdhinkgjiapigabGreatDoor
open Go.RowKit Go.Deep
open Classical
theorem Evs.made {w wr:World} {l:List (Int × Int × Int)} {n:Nat} {t:TypeId} {f:Nat → Value} (hn:l.length = n) (hrow:wr.rowIs w.heap.size t (n * 3) f)
  (hf:∀ j x,j < n → l[j]? = some x → f (j * 3) = .int .i64 x.1 ∧ f (j * 3 + 1) = .int .i64 x.2.1 ∧ f (j * 3 + 2) = .int .i64 x.2.2):Evs (zsq w wr) wr (.slice (some ⟨w.heap.size,0,none⟩) n n) l:=by
 subst hn;refine ⟨_,_,rfl,.inr ⟨w.heap.size,0,rfl,⟨Nat.le_refl _,hrow.lt,hrow.frozen⟩,fun i hi x hx=>?_⟩⟩;rw [Nat.zero_add,hrow.cell (by omega),hrow.cell (by omega),hrow.cell (by omega),(hf i x hi hx).1,(hf i x hi hx).2.1,(hf i x hi hx).2.2];exact ⟨rfl,rfl,rfl⟩
set_option maxHeartbeats 1000000 in
theorem toEventS_any (v:Value) (l:List (Int × Int × Int)) (w:World) (hv:Evs (In w) w v l) (hn:l.length ≤ 1048576) :
  Calls Tryz.prog 31 #[v] w fun e w'=>∃ v',e = .returned v' ∧ Below w.heap.size w w' ∧ Evs (zsq w w') w' v' l:=by
 obtain ⟨a,cap,rfl,hc⟩:=hv;generalize hn':l.length = n at *;have Hn:Hid (l.length = n):=hn';have HC:=zaa hc;clear hc hn';have hmk:=zx2 (P:=Tryz.prog) 63 52 _ 3 24 Tryz.underlying63 Tryz.infoEvent n (by omega) (by omega);go_enter Tryz.func31,Tryz.ntmps31;go_wp2
 go_loopw [4] (fun i wr=>∃ (k:Nat) (f:Nat → Value),k ≤ n ∧ i = .int .i64 k ∧ Below w.heap.size w wr ∧ wr.rowIs w.heap.size 52 (n * 3) f ∧ (∀ j x,j < k → l[j]? = some x → f (j * 3) = .int .i64 x.1 ∧ f (j * 3 + 1) = .int .i64 x.2.1 ∧ f (j * 3 + 2) = .int .i64 x.2.2)) (fun i _=>n - (intOf i).toNat)
 case atStart=>exact ⟨0,_,Nat.zero_le _,rfl,(Below.refl _ _).alloc (Nat.le_refl _) _,zx1 w _ (n * 3) _,fun j x hj=>by omega⟩
 case round=>
  obtain ⟨k,f,hk,rfl,hbl,hrow,hf⟩:=hrel;have HF:=zaa hf;clear hf hmk;by_cases hlt:k < n
  ·obtain h0 | ⟨b,off,rfl,hb0,hc⟩:=HC.out
   ·omega
   obtain ⟨x,hx⟩:=zac l Hn hlt;obtain ⟨g0,g1,g2⟩:=hc k hlt x hx;rw [← hbl.cell (p:=⟨b,_,none⟩) hb0] at g0 g1 g2;have Hx:=zaa hx;clear hx hc
   go_wp2_with fail
   refine (toEvent_do x.1 x.2.1 x.2.2 wr).mono ?_;rintro e w1 ⟨rfl,hb1⟩;have hbl1:Below w.heap.size w w1:=hbl.trans (hb1.mono hbl.size);have hrow1:=zal hrow hb1;have q0:=hrow1.cell (i:=k * 3) (by omega);have q1:=hrow1.cell (i:=k * 3 + 1) (by omega);have q2:=hrow1.cell (i:=k * 3 + 2) (by omega);have r0:=hrow1.frozen (k * 3);have r1:=hrow1.frozen (k * 3 + 1);have r2:=hrow1.frozen (k * 3 + 2);clear g0 g1 g2;go_wp2;go_roundw
   case rel=>exact ⟨k + 1,_,by omega,by go_num,((hbl1.setCell (Nat.le_refl _) _).setCell (Nat.le_refl _) _).setCell (Nat.le_refl _) _,((hrow1.set (k * 3) _).set (k * 3 + 1) _).set (k * 3 + 2) _,fun j y hj hy=>by
    by_cases e:j = k
    ·subst e; rw [Hx.out] at hy; cases hy; rw [if_neg (by omega),if_neg (by omega),if_pos rfl,if_neg (by omega),if_pos rfl,if_pos rfl]; exact ⟨rfl,rfl,rfl⟩
    ·rw [if_neg (by omega),if_neg (by omega),if_neg (by omega),if_neg (by omega),if_neg (by omega),if_neg (by omega),if_neg (by omega),if_neg (by omega),if_neg (by omega)]; exact HF.out j y (by omega) hy⟩
   case measure=>simp [intOf]; omega
  ·go_wp2;go_ret;exact ⟨.slice (some ⟨w.heap.size,0,none⟩) n n,rfl,hbl,Evs.made Hn.out hrow fun j x hj=>HF.out j x (by omega)⟩
set_option maxHeartbeats 1000000 in
theorem szEventS_any (a:Option Addr) (n cap:Nat) (left:Int) (w:World) (hn:n ≤ 9223372036854775807) (h0:0 ≤ left) (h1:left ≤ 1048576) :
  Calls Tryz.prog 29 #[.slice a n cap,.int .i64 left] w fun e w'=>∃ r,e = .returned (.int .i64 r) ∧ w' = w ∧ SzOk left r (n ≤ 1048576):=by
 go_enter Tryz.func29,Tryz.ntmps29;go_wp2
 ·go_ret;exact ⟨_,rfl,rfl,.inl rfl⟩
 ·go_ret;exact ⟨_,rfl,rfl,.inr ⟨by omega,by omega,by omega⟩⟩
set_option maxHeartbeats 1000000 in
theorem eqEvent_any (x y z:Int) (w:World) :
  Calls Tryz.prog 102 #[.agg #[.int .i64 x,.int .i64 y,.int .i64 z],.agg #[.int .i64 x,.int .i64 y,.int .i64 z]] w fun e w'=>e = .returned (.bool true) ∧ Below w.heap.size w w':=by
 go_enter Tryz.func102,Tryz.ntmps102;go_wp2;go_ret;exact ⟨rfl,(((Below.refl _ _).alloc (Nat.le_refl _) _).alloc (by simp) _)⟩
set_option maxHeartbeats 1000000 in
theorem eqEventS_any (u v:Value) (l:List (Int × Int × Int)) (w:World) (hu:Evs (In w) w u l) (hv:Evs (In w) w v l) (hn:l.length ≤ 1048576) :
  Calls Tryz.prog 34 #[u,v] w fun e w'=>e = .returned (.bool true) ∧ Below w.heap.size w w':=by
 obtain ⟨a,cap,rfl,hc⟩:=hu;obtain ⟨a2,cap2,rfl,hc2⟩:=hv;generalize hn':l.length = n at *;have Hn:Hid (l.length = n):=hn';have HC:=zaa hc;have HD:=zaa hc2;clear hc hc2 hn';go_enter Tryz.func34,Tryz.ntmps34;go_wp2
 go_loopw [5] (fun i wr=>∃ (k:Nat),k ≤ n ∧ i = .int .i64 k ∧ Below w.heap.size w wr) (fun i _=>n - (intOf i).toNat)
 case atStart=>exact ⟨0,Nat.zero_le _,rfl,Below.refl _ _⟩
 case round=>
  obtain ⟨k,hk,rfl,hbl⟩:=hrel;by_cases hlt:k < n
  ·obtain h0 | ⟨b,off,rfl,hb0,hc⟩:=HC.out
   ·omega
   obtain h0 | ⟨b2,off2,rfl,hb2,hc2⟩:=HD.out
   ·omega
   obtain ⟨x,hx⟩:=zac l Hn hlt;obtain ⟨g0,g1,g4⟩:=hc k hlt x hx;obtain ⟨g2,g3,g5⟩:=hc2 k hlt x hx;rw [← hbl.cell (p:=⟨b,_,none⟩) hb0] at g0 g1 g4;rw [← hbl.cell (p:=⟨b2,_,none⟩) hb2] at g2 g3 g5
   have hlt':(k:Int) < (n:Int):=by omega
   have hne:=Ext.any wr;have E0:=Ext.cell g0;have E1:=Ext.cell g1;have E2:=Ext.cell g2;have E3:=Ext.cell g3;have E4:=Ext.cell g4;have E5:=Ext.cell g5;have HB:=zaa hbl;clear hx hc hc2 hbl g0 g1 g2 g3 g4 g5;go_wp2;refine zaj (by kernel_rfl) (by kernel_rfl) ?_
   repeat (go_big_quiet_step ((go_at_call 102; exact zaz (eqEvent_any _ _ _ _))))
   refine wpQuiet_nil ?_;rintro _ ⟨nq,rfl⟩;go_wp2;go_roundw
   case rel=>exact ⟨k + 1,by omega,by go_num,HB.out.trans (nq.below.mono HB.out.size)⟩
   case measure=>simp [intOf]; omega
  ·go_wp2;go_ret;exact ⟨rfl,hbl⟩
def EvsS (P:Nat → Prop) (w:World) (v:Value) (n:Nat):Prop:=Sl P v n fun b off i=>∃ x y z,w.cell? ⟨b,off + i * 3,none⟩ = some (.int .i64 x) ∧ w.cell? ⟨b,off + i * 3 + 1,none⟩ = some (.int .i64 y) ∧ w.cell? ⟨b,off + i * 3 + 2,none⟩ = some (.int .i64 z)
theorem Evs.shape {P:Nat → Prop} {w:World} {v:Value} {l:List (Int × Int × Int)} (h:Evs P w v l):EvsS P w v l.length:=
 Sl.imp h (fun _ h=>h) fun b off i _ hi he=>by obtain ⟨x,hx⟩:=zkd l hi; exact ⟨x.1,x.2.1,x.2.2,he x hx⟩
end Go.Proofs.YtdhinkgjiapigabGreatDoor
namespace Go.Proofs.YtdhinkgjiapigabGreatDoor
open Go.RowKit Go.Deep
open Classical
end Go.Proofs.YtdhinkgjiapigabGreatDoor
namespace Go.Proofs.YtdhinkgjiapigabGreatDoor
open Go.RowKit Go.Deep
open Classical
def DonesO (base:Nat) (W:World) (v:Value) (l:List (Int × FrameD)) (lo:Nat → Nat):Prop:=
 (∃ a cap,v = .slice a l.length cap ∧ (l.length = 0 ∨ ∃ g N f,a = some ⟨g,0,none⟩ ∧ base ≤ g ∧ W.rowIs g 50 N f ∧ l.length * 5 ≤ N ∧ ∀ (j:Nat) x,l[j]? = some x → ∃ bo bp bw bb,f (j * 5) = .int .i64 x.1 ∧ f (j * 5 + 1) = .bool x.2.ok ∧ OFrame (fun c=>(lo j ≤ c ∧ c < lo (j + 1)) ∧ c ≠ g) W (f (j * 5 + 2)) (f (j * 5 + 3)) (f (j * 5 + 4)) x.2 bo bp bw bb)) ∧
 (∀ j,base ≤ lo j) ∧ (∀ j,j < l.length → lo j ≤ lo (j + 1)) ∧ lo l.length ≤ W.heap.size
theorem DonesO.but {base:Nat} {W W':World} {v:Value} {l:List (Int × FrameD)} {lo:Nat → Nat} {K:Nat → Prop} (h:DonesO base W v l lo) (hB:But K W W') (hk:∀ c,base ≤ c → K c):DonesO base W' v l lo:=by
 obtain ⟨⟨a,cap,rfl,hc⟩,hlow,hst,htop⟩:=h;refine ⟨⟨a,cap,rfl,?_⟩,hlow,hst,Nat.le_trans htop hB.size⟩;rcases hc with z | ⟨g,N,f,e,hg,hr,hN,hf⟩
 ·exact .inl z
 ·refine .inr ⟨g,N,f,e,hg,hB.row hr (hk g hg),hN,fun j x hx=>?_⟩;obtain ⟨bo,bp,bw,bb,h0,h1,h2⟩:=hf j x hx;exact ⟨bo,bp,bw,bb,h0,h1,h2.but hB (fun c hc=>hk c (Nat.le_trans (hlow j) hc.1.1)) fun _ z=>z⟩
theorem DonesO.read {base:Nat} {W:World} {v:Value} {l:List (Int × FrameD)} {lo:Nat → Nat} (h:DonesO base W v l lo):DonesA (In W) W v l:=by
 obtain ⟨⟨a,cap,rfl,hc⟩,-,-,-⟩:=h;rcases hc with z | ⟨g,N,f,rfl,hg,hr,hN,hf⟩
 ·exact ⟨a,cap,rfl,.inl z⟩
 ·refine ⟨_,cap,rfl,.inr ⟨g,0,rfl,hr.lt,fun i hi x hx=>?_⟩⟩;obtain ⟨bo,bp,bw,bb,h0,h1,h2⟩:=hf i x hx;refine ⟨_,_,_,(h2.bound (Q:=In W) fun _ _ hc=>hc).read,?_⟩;rw [Nat.zero_add,hr.cell (by omega),hr.cell (by omega),hr.cell (by omega),hr.cell (by omega),hr.cell (by omega),h0,h1];exact ⟨rfl,rfl,rfl,rfl,rfl⟩
end Go.Proofs.YtdhinkgjiapigabGreatDoor
namespace Go.Proofs.YtdhinkgjiapigabGreatDoor
open Go.RowKit Go.Deep
open Classical
end Go.Proofs.YtdhinkgjiapigabGreatDoor
namespace Go.Proofs.YtdhinkgjiapigabGreatDoor
open Go.RowKit Go.Deep
open Classical
end Go.Proofs.YtdhinkgjiapigabGreatDoor
namespace Go.Proofs.YtdhinkgjiapigabGreatDoor
open Go.RowKit Go.Deep
open Classical
theorem RunB.put {w:World} {pc:Array Value} {fb:Nat} {W:World} {v:Value} {xs:List Value} {lo:Nat → Nat} {l:List (Int × FrameD)} {f x:FrameD} {u1 u2 u3 n1 n2 n3:Value} {bo bp bw:Nat} {bb:Nat → Nat} {P:Nat → Prop} (h:RunB w pc fb W v xs lo l f u1 u2 u3) (hF:OFrame P W n1 n2 n3 x bo bp bw bb) (hl:∀ c,P c → w.heap.size ≤ c) :
  RunB w pc fb ((((W.setCell ⟨fb,0,none⟩ (.bool x.ok)).setCell ⟨fb,1,none⟩ n1).setCell ⟨fb,2,none⟩ n2).setCell ⟨fb,3,none⟩ n3) v xs lo l x n1 n2 n3 ∧ OFrame P ((((W.setCell ⟨fb,0,none⟩ (.bool x.ok)).setCell ⟨fb,1,none⟩ n1).setCell ⟨fb,2,none⟩ n2).setCell ⟨fb,3,none⟩ n3) n1 n2 n3 x bo bp bw bb ∧ But (fun c=>c ≠ fb) W ((((W.setCell ⟨fb,0,none⟩ (.bool x.ok)).setCell ⟨fb,1,none⟩ n1).setCell ⟨fb,2,none⟩ n2).setCell ⟨fb,3,none⟩ n3):=by
 have hj:∀ o:Nat,¬ ((fun c=>c ≠ fb) (⟨fb,o,none⟩:Addr).block):=fun o z=>z rfl;have hB:=((((But.refl (fun c=>c ≠ fb) W).setCell (hj 0) (.bool x.ok)).setCell (hj 1) n1).setCell (hj 2) n2).setCell (hj 3) n3;have hbx:∀ (P:Nat → Prop) v1 v2 v3 d bo bp bw bb,OFrame P W v1 v2 v3 d bo bp bw bb → OFrame P ((((W.setCell ⟨fb,0,none⟩ (.bool x.ok)).setCell ⟨fb,1,none⟩ n1).setCell ⟨fb,2,none⟩ n2).setCell ⟨fb,3,none⟩ n3) v1 v2 v3 d bo bp bw bb:=fun P v1 v2 v3 d bo bp bw bb k=>k.boxed h.fbox ⟨by decide,by decide,by decide⟩ hB fun _ z=>z;refine ⟨⟨h.below.trans (hB.below h.below.size fun c hc=>by have:=h.fbl; omega),hB.row h.box (by have:=h.fbl; omega),?_,?_,h.dones.map hbx,⟨bo,bp,bw,bb,(hbx _ _ _ _ _ _ _ _ _ hF).but (K:=fun _=>True) (But.refl _ _) (fun _ _=>trivial) hl⟩,Nat.le_trans h.top hB.size,h.low,h.step,h.fbl⟩,hbx _ _ _ _ _ _ _ _ _ hF,hB⟩
 ·refine ((((h.fbox.set 0 _).set 1 _).set 2 _).set 3 _).congr fun i hi=>?_;rcases i with _ | _ | _ | _ | i
  ·rfl
  ·rfl
  ·rfl
  ·rfl
  ·omega
 ·exact za3 h.own hB fun g hg' e=>(zat h.own hg').2.2 _ _ _ _ h.fbox (by decide) e.symm
theorem RunB.add {w:World} {pc:Array Value} {fb hi:Nat} {W w5:World} {v v':Value} {xs:List Value} {lo:Nat → Nat} {l:List (Int × FrameD)} {f:FrameD} {u1 u2 u3 n1 n2 n3:Value} {x:Int × FrameD} {bo bp bw:Nat} {bb:Nat → Nat} (h:RunB w pc fb W v xs lo l f u1 u2 u3) (hF:OFrame (fun c=>lo l.length ≤ c ∧ c < hi) W n1 n2 n3 x.2 bo bp bw bb) (hhi:hi ≤ W.heap.size) (hlo:lo l.length ≤ hi)
  (hown:w5.ownsRow w.heap.size 50 5 v' (l.length + 1) (xs ++ [.int .i64 x.1,.bool x.2.ok,n1,n2,n3])) (hg:W.grownBy w5 v.ownBlock) :
  RunB w pc fb w5 v' (xs ++ [.int .i64 x.1,.bool x.2.ok,n1,n2,n3]) (fun j=>if j = l.length + 1 then hi else lo j) (l ++ [x]) f u1 u2 u3:=by
 have hBg:But (fun c=>some c ≠ v.ownBlock) W w5:=⟨hg.os,hg.tape,hg.output,hg.size,fun c hc hk=>hg.block c hc hk⟩;have hty:∀ {b t N:Nat} {g:Nat → Value},W.rowIs b t N g → t ≠ 50 → some b ≠ v.ownBlock:=fun hr ht e=>(zat h.own e.symm).2.2 _ _ _ _ hr ht rfl
 have hll:(l ++ [x]).length = l.length + 1:=by rw [List.length_append]; rfl
 have h5:Below w.heap.size w w5:=h.below.trans (zbm h.own hg (Nat.le_refl _) h.below.size);obtain ⟨bo',bp',bw',bb',hf⟩:=h.frame;refine ⟨h5,hBg.row h.box (hty h.box (by decide)),hBg.row h.fbox (hty h.fbox (by decide)),by rw [hll]; exact hown,(h.dones.map fun P v1 v2 v3 d bo bp bw bb k=>k.grown hg h.own).snoc h.own.1 (hF.grown hg h.own),⟨bo',bp',bw',bb',hf.grown hg h.own⟩,?_,fun j=>?_,fun j hj'=>?_,h.fbl⟩
 ·rw [hll,if_pos rfl];exact Nat.le_trans hhi hBg.size
 ·by_cases e:j = l.length + 1
  ·rw [if_pos e];exact Nat.le_trans (h.low l.length) hlo
  ·rw [if_neg e];exact h.low j
 ·rw [hll] at hj';by_cases e:j = l.length
  ·rw [if_neg (show ¬ j = l.length + 1 by omega),if_pos (show j + 1 = l.length + 1 by omega),e];exact hlo
  ·rw [if_neg (show ¬ j = l.length + 1 by omega),if_neg (show ¬ j + 1 = l.length + 1 by omega)];exact h.step j (by omega)
set_option maxRecDepth 100000 in
set_option maxHeartbeats 8000000 in
theorem zwh (p1 p2 p3 ve:Value) (p:PlanD) (es:List (Int × Int × Int)) (w:World) (hp:PlanAt (In w) w p1 p2 p3 p) (hev:Evs (In w) w ve es) (hs:p.Small 1048576) (hes:es.length ≤ 1048576) :
  Calls Tryz.prog 30 #[.agg #[.int .i64 p.sections,p1,p2,p3,.int .i64 p.hold],ve] w fun e w'=>∃ v,e = .returned v ∧ Below w.heap.size w w' ∧ DonesR w w' v (zp2 p es):=by
 have KP:=zaa fun (W:World) (h:Below w.heap.size w W)=>hp.keep (Q:=In W) (In.keep h).1 (In.keep h).2;have KE:=zaa fun (W:World) (h:Below w.heap.size w W)=>hev.keep (Q:=In W) (In.keep h).1 (In.keep h).2;obtain ⟨a1,c1,rfl⟩:=hp.1.size;obtain ⟨a2,c2,rfl⟩:=hp.2.1.size;obtain ⟨a3,c3,rfl⟩:=hp.2.2.size;obtain ⟨ae,ce,rfl,-⟩:=id hev;have T0:=zaw w 37 #[.int .i64 p.sections,.slice a1 p.switches.length c1,.slice a2 p.ways.length c2,.slice a3 p.bars.length c3,.int .i64 p.hold];have HS:=zaa hs;have hno:¬ (Right p ∧ es.length ≤ 1000) → zp2 p es = []:=fun h=>if_neg h;have HNO:=zaa hno;clear hp hev hs hno;go_enter Tryz.func30,Tryz.ntmps30
 go_wp2_with fail
 refine (zl2 _ _ _ p _ (KP.out _ T0.below) HS.out).mono ?_;rintro e w1 ⟨rfl,hb⟩;have T1:=T0.call hb;clear T0 hb;by_cases hr:Right p
 case neg=>
  rw [zae hr];have HNR:=zaa (HNO.out fun z=>hr z.1);have HT:=zaa T1.below;clear hr T1;go_wp2;go_ret;refine ⟨_,rfl,HT.out,?_⟩;rw [HNR.out];exact zh6 HT.out.size
 rw [zam hr];by_cases hl:es.length ≤ 1000
 case neg=>
  have HNR:=zaa (HNO.out fun z=>hl z.2);have HT:=zaa T1.below
  have hgt:(1000:Int) < (es.length:Int):=by omega
  have hgd:decide ((1000:Int) < (es.length:Int)) = true:=decide_eq_true hgt;clear hr T1 hl hgt;go_wp2;go_ret;refine ⟨_,rfl,HT.out,?_⟩;rw [HNR.out];exact zh6 HT.out.size
 have HRUN:=zaa (show zp2 p es = zdu p (zaq p) es from if_pos ⟨hr,hl⟩);have hgd:decide ((1000:Int) < (es.length:Int)) = false:=decide_eq_false (by omega);have HR:=zaa hr;have m0:=T1.cell (j:=0) (i:=0) rfl rfl;have m1:=T1.cell (j:=0) (i:=1) rfl rfl;have m2:=T1.cell (j:=0) (i:=2) rfl rfl;have m3:=T1.cell (j:=0) (i:=3) rfl rfl;have m4:=T1.cell (j:=0) (i:=4) rfl rfl;rw [Nat.add_zero] at m0 m1 m2 m3 m4;have HBEG:=zaa (zjs _ _ _ p w1 (KP.out _ T1.below) HS.out);clear hr hl HNO
 go_wp2_with fail
 refine HBEG.out.mono ?_;clear m0 m1 m2 m3 m4 HBEG;rintro e w3 ⟨u1,u2,u3,rfl,hb,hfm⟩;have hz:zdd p = zaq p:=if_pos HR.out;rw [hz] at hfm ⊢;have T3:=T1.call hb;obtain ⟨bo,bp,bw,bb,hF⟩:=hfm.own (ze7 (zdp HR.out));obtain ⟨q1,s1,q2,s2,q3,s3,rfl,rfl,rfl⟩:=hfm.slices;have hbn:=zab w3 (.cells #[.bool (zaq p).ok,.slice q1 (zaq p).occ.length s1,.slice q2 (zaq p).points.length s2,.slice q3 (zaq p).ways.length s3] 42);have hrn:=zak w3 42 #[.bool (zaq p).ok,.slice q1 (zaq p).occ.length s1,.slice q2 (zaq p).points.length s2,.slice q3 (zaq p).ways.length s3];have T4:=T3.call hbn
 have RB:RunB w #[.int .i64 p.sections,.slice a1 p.switches.length c1,.slice a2 p.ways.length c2,.slice a3 p.bars.length c3,.int .i64 p.hold] w3.heap.size (w3.alloc (.cells #[.bool (zaq p).ok,.slice q1 (zaq p).occ.length s1,.slice q2 (zaq p).points.length s2,.slice q3 (zaq p).ways.length s3] 42)) (.slice none 0 0) [] (fun _=>(w3.alloc (.cells #[.bool (zaq p).ok,.slice q1 (zaq p).occ.length s1,.slice q2 (zaq p).points.length s2,.slice q3 (zaq p).ways.length s3] 42)).heap.size) [] (zaq p) (.slice q1 (zaq p).occ.length s1) (.slice q2 (zaq p).points.length s2) (.slice q3 (zaq p).ways.length s3):=
  ⟨T4.below,T4.row 0 _ _ rfl,hrn,World.ownsRow_nil _ _ _ _,(fun j _ hj=>by cases hj),⟨bo,bp,bw,bb,hF.but (K:=fun _=>True) (But.of_calls hbn) (fun _ _=>trivial) fun c hc=>by have:=T1.below.size; omega⟩,Nat.le_refl _,fun _=>T4.below.size,(fun j hj=>absurd hj (by show ¬ j < 0; omega)),T3.lt (j:=0) rfl⟩
 have HRB:=zaa RB;clear T3 T4 T1 hF hfm hb hbn hrn RB hz;go_wp2;obtain ⟨W4,hW4⟩:∃ W,W = w3.alloc (.cells #[.bool (zaq p).ok,.slice q1 (zaq p).occ.length s1,.slice q2 (zaq p).points.length s2,.slice q3 (zaq p).ways.length s3] 42):=⟨_,rfl⟩;obtain ⟨fb,hfb⟩:∃ fb,fb = w3.heap.size:=⟨_,rfl⟩;rw [← hW4,← hfb] at HRB;rw [← hW4,← hfb];clear hW4 hfb w3;obtain ⟨F,hF⟩:∃ F,F = zaq p:=⟨_,rfl⟩;have HFF:=zaa hF;rw [← hF] at HRB;clear hF
 go_loopw [6,22] (fun o z wr=>∃ (k:Nat) (xs:List Value) (lo:Nat → Nat) (u1 u2 u3:Value),k ≤ es.length ∧ z = .int .i64 k ∧ RunB w #[.int .i64 p.sections,.slice a1 p.switches.length c1,.slice a2 p.ways.length c2,.slice a3 p.bars.length c3,.int .i64 p.hold] fb wr o xs lo (zdu p F (es.take k)) (zhy F (zdu p F (es.take k))) u1 u2 u3) (fun _ z _=>es.length - (intOf z).toNat)
 case atStart=>exact ⟨0,_,_,_,_,_,Nat.zero_le _,rfl,HRB.out⟩
 case round=>
  obtain ⟨k,xs,lo,u1,u2,u3,hk,rfl,RB⟩:=hrel;rename World=>wr;rename Value=>vo;have hlk:=zez p F es k hk;obtain ⟨L,hL⟩:∃ L,L = zdu p F (es.take k):=⟨_,rfl⟩;rw [← hL] at hlk RB;obtain ⟨f,hf⟩:∃ f,f = zhy F L:=⟨_,rfl⟩;rw [← hf] at RB
  have hfr:zas p f:=by
   have:=zij HR.out es k hk;rw [← HFF.out,← hL,← hf] at this;exact this
  have HL:=zaa hL;have Hf:=zaa hf;clear hL hf HRB;obtain ⟨a5,c5,e5⟩:=zag RB.own;rw [hlk] at e5;subst e5;by_cases hlt:k < es.length
  ·obtain ⟨⟨op,of,lie⟩,hx⟩:=zac es (zaa rfl) hlt;obtain ⟨ae',ce',e,h0 | ⟨be,oe,rfl,hbe,hce⟩⟩:=KE.out wr RB.below
   ·omega
   cases e
   obtain ⟨g0,g1,g2⟩:=hce k hlt _ hx;simp only at g0 g1 g2;obtain ⟨bo,bp,bw,bb,hF⟩:=RB.frame;have hFA:=hF.read;obtain ⟨o1,m1,rfl⟩:=hFA.1.size;obtain ⟨o2,m2,rfl⟩:=hFA.2.1.size;obtain ⟨o3,m3,rfl⟩:=hFA.2.2.size;have hbn:=zab wr (.cells #[.int .i64 op,.int .i64 of,.int .i64 lie] 52);have hrn:=zak wr 52 #[.int .i64 op,.int .i64 of,.int .i64 lie];have R1:=RB.call hbn;have hFB:=(hF.bound (Q:=In wr) fun _ _ z=>z).read.keep (Q:=In (wr.alloc (.cells #[.int .i64 op,.int .i64 of,.int .i64 lie] 52))) (In.keep hbn).1 (In.keep hbn).2;have KFB:=zaa fun (W:World) (h:Below (wr.alloc (.cells #[.int .i64 op,.int .i64 of,.int .i64 lie] 52)).heap.size (wr.alloc (.cells #[.int .i64 op,.int .i64 of,.int .i64 lie] 52)) W)=>hFB.keep (Q:=In W) (In.keep h).1 (In.keep h).2;have HRO:=zaa (znj _ _ _ _ _ _ p f op of lie (wr.alloc (.cells #[.int .i64 op,.int .i64 of,.int .i64 lie] 52)) (KP.out _ R1.below) hFB HS.out (zd1 hfr));have y0:(wr.alloc (.cells #[.int .i64 op,.int .i64 of,.int .i64 lie] 52)).cell? ⟨w.heap.size,0,none⟩ = some (.int .i64 p.sections):=R1.box.cell (i:=0) (by omega);have y1:(wr.alloc (.cells #[.int .i64 op,.int .i64 of,.int .i64 lie] 52)).cell? ⟨w.heap.size,1,none⟩ = some (.slice a1 p.switches.length c1):=R1.box.cell (i:=1) (by omega);have y2:(wr.alloc (.cells #[.int .i64 op,.int .i64 of,.int .i64 lie] 52)).cell? ⟨w.heap.size,2,none⟩ = some (.slice a2 p.ways.length c2):=R1.box.cell (i:=2) (by omega)
   have y3:(wr.alloc (.cells #[.int .i64 op,.int .i64 of,.int .i64 lie] 52)).cell? ⟨w.heap.size,3,none⟩ = some (.slice a3 p.bars.length c3):=R1.box.cell (i:=3) (by omega);have y4:(wr.alloc (.cells #[.int .i64 op,.int .i64 of,.int .i64 lie] 52)).cell? ⟨w.heap.size,4,none⟩ = some (.int .i64 p.hold):=R1.box.cell (i:=4) (by omega);have x0:(wr.alloc (.cells #[.int .i64 op,.int .i64 of,.int .i64 lie] 52)).cell? ⟨fb,0,none⟩ = some (.bool f.ok):=R1.fbox.cell (i:=0) (by omega);have x1:(wr.alloc (.cells #[.int .i64 op,.int .i64 of,.int .i64 lie] 52)).cell? ⟨fb,1,none⟩ = some (.slice o1 f.occ.length m1):=R1.fbox.cell (i:=1) (by omega);have x2:(wr.alloc (.cells #[.int .i64 op,.int .i64 of,.int .i64 lie] 52)).cell? ⟨fb,2,none⟩ = some (.slice o2 f.points.length m2):=R1.fbox.cell (i:=2) (by omega);have x3:(wr.alloc (.cells #[.int .i64 op,.int .i64 of,.int .i64 lie] 52)).cell? ⟨fb,3,none⟩ = some (.slice o3 f.ways.length m3):=R1.fbox.cell (i:=3) (by omega)
   have hkl:(k:Int) < (es.length:Int):=by omega
   have HX:=zaa hx;have HRB:=zaa RB;have HFR:=zaa hfr;have HBN:=zaa hbn;have hzb:=hbn.size;obtain ⟨X,hX⟩:∃ X,X = zdx p f (op,of,lie):=⟨_,rfl⟩;have HXX:=zaa hX;clear RB R1 hF hFA hFB hce hx hfr hbn hrn;by_cases hev:za5 p.sections p.switches.length p.ways.length op of lie
   case pos=>
    have hdo:zq7 p f op of lie = X:=by rw [hX,zfk (show zpg p (op,of,lie) from hev)]; exact if_pos ⟨HFR.out,hev⟩
    rw [hdo] at HRO
    have hxf:zas p X.2:=by rw [hX]; exact zim HFR.out _
    have hc1:X.1 ≠ 1:=by rw [hX,zfk (show zpg p (op,of,lie) from hev)]; exact zpq _ _ _ _ _
    have hc2:(X.1 == 1) = false:=by simpa using hc1
    have hc3:decide (X.1 = 1) = false:=by simpa using hc1
    have HXF:=zaa hxf;clear hX hdo hev hxf
    go_wp2_with fail
    refine HRO.out.mono ?_;clear y0 y1 y2 y3 y4 x0 x1 x2 x3 g0 g1 g2 HRO;rintro e w2 ⟨n1,n2,n3,rfl,hb2,hm2⟩;have hb12:Below wr.heap.size wr w2:=HBN.out.trans (hb2.mono HBN.out.size);obtain ⟨bo2,bp2,bw2,bb2,hF2⟩:=hm2.own (ze7 HXF.out);obtain ⟨gO,NO,t1,rfl,-⟩:=id hF2.occ;obtain ⟨a6,t2,rfl,-⟩:=id hF2.points;obtain ⟨a7,t3,rfl,-⟩:=id hF2.ways;have hn3:=zab w2 (.cells #[.int .i64 X.1,.bool X.2.ok,.slice (some ⟨bo2,0,none⟩) X.2.occ.length t1,.slice a6 X.2.points.length t2,.slice a7 X.2.ways.length t3] 50);have hbd:=hb12.trans (hn3.mono hb12.size);have hdb:(w2.alloc (.cells #[.int .i64 X.1,.bool X.2.ok,.slice (some ⟨bo2,0,none⟩) X.2.occ.length t1,.slice a6 X.2.points.length t2,.slice a7 X.2.ways.length t3] 50)).rowIs w2.heap.size 50 5 (fun i=>(#[.int .i64 X.1,.bool X.2.ok,.slice (some ⟨bo2,0,none⟩) X.2.occ.length t1,.slice a6 X.2.points.length t2,.slice a7 X.2.ways.length t3]:Array Value)[i]!):=zak w2 50 #[.int .i64 X.1,.bool X.2.ok,.slice (some ⟨bo2,0,none⟩) X.2.occ.length t1,.slice a6 X.2.points.length t2,.slice a7 X.2.ways.length t3];have hFd:=(hF2.but (K:=fun _=>True) (Q:=fun c=>wr.heap.size ≤ c) (But.of_calls hn3) (fun _ _=>trivial) fun c hc=>by omega).bound fun c h1 h2=>And.intro h1 h2;obtain ⟨Wd,hWd⟩:∃ W,W = w2.alloc (.cells #[.int .i64 X.1,.bool X.2.ok,.slice (some ⟨bo2,0,none⟩) X.2.occ.length t1,.slice a6 X.2.points.length t2,.slice a7 X.2.ways.length t3] 50):=⟨_,rfl⟩;obtain ⟨db,hdbe⟩:∃ db,db = w2.heap.size:=⟨_,rfl⟩;rw [← hWd] at hbd hdb hFd
    rw [← hdbe] at hdb;have c0:Wd.cell? ⟨db,0,none⟩ = some (.int .i64 X.1):=hdb.cell (i:=0) (by simp);clear hn3 hF2 hm2 hb2 hb12
    go_upto_region 9 with fail
    rw [← hWd,← hdbe];clear hWd hdbe;have R3:=HRB.out.call hbd;have hf3:=R3.fbox;have d0:Wd.cell? ⟨db,0,none⟩ = some (.int .i64 X.1):=hdb.cell (i:=0) (by omega);have d1:Wd.cell? ⟨db,1,none⟩ = some (.bool X.2.ok):=hdb.cell (i:=1) (by omega);have d2:Wd.cell? ⟨db,2,none⟩ = some (.slice (some ⟨bo2,0,none⟩) X.2.occ.length t1):=hdb.cell (i:=2) (by omega);have d3:Wd.cell? ⟨db,3,none⟩ = some (.slice a6 X.2.points.length t2):=hdb.cell (i:=3) (by omega);have d4:Wd.cell? ⟨db,4,none⟩ = some (.slice a7 X.2.ways.length t3):=hdb.cell (i:=4) (by omega);have x0:=hf3.cell (i:=0) (by omega);have x1:=hf3.cell (i:=1) (by omega);have x2:=hf3.cell (i:=2) (by omega);have x3:=hf3.cell (i:=3) (by omega);have k0:=hf3.frozen 0;have k1:=hf3.frozen 1;have k2:=hf3.frozen 2;have k3:=hf3.frozen 3;obtain ⟨RP,hFP,hBP⟩:=R3.put (x:=X.2) hFd fun c hc=>Nat.le_trans HRB.out.below.size hc.1;have hne:db ≠ fb:=zbb hdb hf3 (by decide);have hdP:=hBP.row hdb hne;have z0:((((Wd.setCell ⟨fb,0,none⟩ (.bool X.2.ok)).setCell ⟨fb,1,none⟩ (.slice (some ⟨bo2,0,none⟩) X.2.occ.length t1)).setCell ⟨fb,2,none⟩ (.slice a6 X.2.points.length t2)).setCell ⟨fb,3,none⟩ (.slice a7 X.2.ways.length t3)).cell? ⟨db,0,none⟩ = some (.int .i64 X.1):=hdP.cell (i:=0) (by omega);have z1:((((Wd.setCell ⟨fb,0,none⟩ (.bool X.2.ok)).setCell ⟨fb,1,none⟩ (.slice (some ⟨bo2,0,none⟩) X.2.occ.length t1)).setCell ⟨fb,2,none⟩ (.slice a6 X.2.points.length t2)).setCell ⟨fb,3,none⟩ (.slice a7 X.2.ways.length t3)).cell? ⟨db,1,none⟩ = some (.bool X.2.ok):=hdP.cell (i:=1) (by omega)
    have z2:((((Wd.setCell ⟨fb,0,none⟩ (.bool X.2.ok)).setCell ⟨fb,1,none⟩ (.slice (some ⟨bo2,0,none⟩) X.2.occ.length t1)).setCell ⟨fb,2,none⟩ (.slice a6 X.2.points.length t2)).setCell ⟨fb,3,none⟩ (.slice a7 X.2.ways.length t3)).cell? ⟨db,2,none⟩ = some (.slice (some ⟨bo2,0,none⟩) X.2.occ.length t1):=hdP.cell (i:=2) (by omega);have z3:((((Wd.setCell ⟨fb,0,none⟩ (.bool X.2.ok)).setCell ⟨fb,1,none⟩ (.slice (some ⟨bo2,0,none⟩) X.2.occ.length t1)).setCell ⟨fb,2,none⟩ (.slice a6 X.2.points.length t2)).setCell ⟨fb,3,none⟩ (.slice a7 X.2.ways.length t3)).cell? ⟨db,3,none⟩ = some (.slice a6 X.2.points.length t2):=hdP.cell (i:=3) (by omega);have z4:((((Wd.setCell ⟨fb,0,none⟩ (.bool X.2.ok)).setCell ⟨fb,1,none⟩ (.slice (some ⟨bo2,0,none⟩) X.2.occ.length t1)).setCell ⟨fb,2,none⟩ (.slice a6 X.2.points.length t2)).setCell ⟨fb,3,none⟩ (.slice a7 X.2.ways.length t3)).cell? ⟨db,4,none⟩ = some (.slice a7 X.2.ways.length t3):=hdP.cell (i:=4) (by omega)
    have hzP:((((Wd.setCell ⟨fb,0,none⟩ (.bool X.2.ok)).setCell ⟨fb,1,none⟩ (.slice (some ⟨bo2,0,none⟩) X.2.occ.length t1)).setCell ⟨fb,2,none⟩ (.slice a6 X.2.points.length t2)).setCell ⟨fb,3,none⟩ (.slice a7 X.2.ways.length t3)).heap.size = Wd.heap.size:=by simp
    have hn5:=zab ((((Wd.setCell ⟨fb,0,none⟩ (.bool X.2.ok)).setCell ⟨fb,1,none⟩ (.slice (some ⟨bo2,0,none⟩) X.2.occ.length t1)).setCell ⟨fb,2,none⟩ (.slice a6 X.2.points.length t2)).setCell ⟨fb,3,none⟩ (.slice a7 X.2.ways.length t3)) (.cells #[.int .i64 X.1,.bool X.2.ok,.slice (some ⟨bo2,0,none⟩) X.2.occ.length t1,.slice a6 X.2.points.length t2,.slice a7 X.2.ways.length t3] 50);have hr5:=zak ((((Wd.setCell ⟨fb,0,none⟩ (.bool X.2.ok)).setCell ⟨fb,1,none⟩ (.slice (some ⟨bo2,0,none⟩) X.2.occ.length t1)).setCell ⟨fb,2,none⟩ (.slice a6 X.2.points.length t2)).setCell ⟨fb,3,none⟩ (.slice a7 X.2.ways.length t3)) 50 #[.int .i64 X.1,.bool X.2.ok,.slice (some ⟨bo2,0,none⟩) X.2.occ.length t1,.slice a6 X.2.points.length t2,.slice a7 X.2.ways.length t3];rw [hzP] at hr5;have R5:=RP.call hn5;have hF5:=hFP.but (K:=fun _=>True) (Q:=fun c=>lo L.length ≤ c ∧ c < Wd.heap.size) (But.of_calls hn5) (fun _ _=>trivial) fun c hc=>⟨Nat.le_trans HRB.out.top hc.1,hc.2⟩
    have SRC:Hid (1 = 0 ∨ ∃ A,(some (⟨Wd.heap.size,0,none⟩:Addr)) = some A ∧ ∀ j u,([.int .i64 X.1,.bool X.2.ok,.slice (some ⟨bo2,0,none⟩) X.2.occ.length t1,.slice a6 X.2.points.length t2,.slice a7 X.2.ways.length t3]:List Value)[j]? = some u → (((((Wd.setCell ⟨fb,0,none⟩ (.bool X.2.ok)).setCell ⟨fb,1,none⟩ (.slice (some ⟨bo2,0,none⟩) X.2.occ.length t1)).setCell ⟨fb,2,none⟩ (.slice a6 X.2.points.length t2)).setCell ⟨fb,3,none⟩ (.slice a7 X.2.ways.length t3)).alloc (.cells #[.int .i64 X.1,.bool X.2.ok,.slice (some ⟨bo2,0,none⟩) X.2.occ.length t1,.slice a6 X.2.points.length t2,.slice a7 X.2.ways.length t3] 50)).cell? (A.add j) = some u):=by
     refine .inr ⟨_,rfl,fun j u hj=>?_⟩;rw [zbp,Nat.zero_add];have hj5:j < 5:=(List.getElem?_eq_some_iff.1 hj).1;rw [hr5.cell (by simpa using hj5)];rcases j with _ | _ | _ | _ | _ | j
     ·exact hj
     ·exact hj
     ·exact hj
     ·exact hj
     ·exact hj
     ·omega
    have ONE:Hid (∀ u ∈ ([.int .i64 X.1,.bool X.2.ok,.slice (some ⟨bo2,0,none⟩) X.2.occ.length t1,.slice a6 X.2.points.length t2,.slice a7 X.2.ways.length t3]:List Value),u.oneCell' = true):=by
     intro u hu;simp at hu
     rcases hu with rfl | rfl | rfl | rfl | rfl <;> rfl
    have HM7:Hid (k + 1 ≤ maxLen):=by show k + 1 ≤ maxLen; unfold maxLen; omega
    have HM8:Hid ((k + 1) * 88 ≤ 140737488355328):=by show (k + 1) * 88 ≤ 140737488355328; omega
    have hown5:=R5.own;rw [hlk] at hown5;have OWY:=zaa hown5;have HZY:Hid (w.heap.size ≤ (((((Wd.setCell ⟨fb,0,none⟩ (.bool X.2.ok)).setCell ⟨fb,1,none⟩ (.slice (some ⟨bo2,0,none⟩) X.2.occ.length t1)).setCell ⟨fb,2,none⟩ (.slice a6 X.2.points.length t2)).setCell ⟨fb,3,none⟩ (.slice a7 X.2.ways.length t3)).alloc (.cells #[.int .i64 X.1,.bool X.2.ok,.slice (some ⟨bo2,0,none⟩) X.2.occ.length t1,.slice a6 X.2.points.length t2,.slice a7 X.2.ways.length t3] 50)).heap.size):=R5.below.size;have HR5:=zaa R5;have HF5:=zaa hF5;have hz5:Wd.heap.size ≤ (((((Wd.setCell ⟨fb,0,none⟩ (.bool X.2.ok)).setCell ⟨fb,1,none⟩ (.slice (some ⟨bo2,0,none⟩) X.2.occ.length t1)).setCell ⟨fb,2,none⟩ (.slice a6 X.2.points.length t2)).setCell ⟨fb,3,none⟩ (.slice a7 X.2.ways.length t3)).alloc (.cells #[.int .i64 X.1,.bool X.2.ok,.slice (some ⟨bo2,0,none⟩) X.2.occ.length t1,.slice a6 X.2.points.length t2,.slice a7 X.2.ways.length t3] 50)).heap.size:=Nat.le_trans (Nat.le_of_eq hzP.symm) hn5.size;have HZ5:=zaa hz5;have HLO:Hid (lo L.length ≤ Wd.heap.size):=Nat.le_trans HRB.out.top hbd.size;clear R3 hf3 RP hFP hBP hdP hn5 hr5 R5 hF5 hown5 hzP hne hdb hFd hbd hz5
    go_wp2_with (at_builtin; refine zai rfl _ _ 61 rfl w.heap.size 50 (.agg #[.int .i64 0,.bool false,.slice none 0 0,.slice none 0 0,.slice none 0 0]) 5 88 Tryz.underlying61 Tryz.infoDone rfl (by decide) (.slice a5 k c5) k xs rfl OWY.out (some ⟨Wd.heap.size,0,none⟩) 1 1 [.int .i64 X.1,.bool X.2.ok,.slice (some ⟨bo2,0,none⟩) X.2.occ.length t1,.slice a6 X.2.points.length t2,.slice a7 X.2.ways.length t3] rfl rfl SRC.out ONE.out HM7.out HM8.out HZY.out ?_)
    intro u5 w6 hown6 hgr6;obtain ⟨a8,c8,rfl⟩:=zag hown6;have FIN:=zaa (HR5.out.add (x:=X) HF5.out HZ5.out HLO.out (by rw [hlk]; exact hown6) hgr6);clear hown6 hgr6 SRC ONE OWY HR5 HF5 HRB d0 d1 d2 d3 d4 x0 x1 x2 x3 k0 k1 k2 k3 z0 z1 z2 z3 z4;go_wp2;go_roundw
    case rel=>exact ⟨k + 1,_,_,_,_,_,by omega,by go_num,by rw [zd9 p F HX.out,← HL.out,zid,← Hf.out,← HXX.out]; exact FIN.out⟩
    case measure=>simp [intOf]; omega
   case neg=>
    have hdo:zq7 p f op of lie = (1,zex):=if_neg fun z=>hev z.2;have hXe:X = (1,f):=hX.trans (zgt (show ¬ zpg p (op,of,lie) from hev));rw [hdo] at HRO;have HXE:=zaa hXe;clear hX hdo hev hXe
    go_wp2_with fail
    refine HRO.out.mono ?_;clear y0 y1 y2 y3 y4 x0 x1 x2 x3 g0 g1 g2 HRO;rintro e w2 ⟨n1,n2,n3,rfl,hb2,hm2⟩;have hb12:Below wr.heap.size wr w2:=HBN.out.trans (hb2.mono HBN.out.size);obtain ⟨r1,i1,r2,i2,r3,i3,rfl,rfl,rfl⟩:=hm2.slices;have hn3:=zab w2 (.cells #[.int .i64 1,.bool zex.ok,.slice r1 zex.occ.length i1,.slice r2 zex.points.length i2,.slice r3 zex.ways.length i3] 50);have hrd:(w2.alloc (.cells #[.int .i64 1,.bool zex.ok,.slice r1 zex.occ.length i1,.slice r2 zex.points.length i2,.slice r3 zex.ways.length i3] 50)).rowIs w2.heap.size 50 5 (fun i=>(#[.int .i64 1,.bool zex.ok,.slice r1 zex.occ.length i1,.slice r2 zex.points.length i2,.slice r3 zex.ways.length i3]:Array Value)[i]!):=zak w2 50 #[.int .i64 1,.bool zex.ok,.slice r1 zex.occ.length i1,.slice r2 zex.points.length i2,.slice r3 zex.ways.length i3];have hb13:=hb12.trans (hn3.mono hb12.size);have hb23:=hb2.trans (hn3.mono hb2.size);obtain ⟨W3,hW3⟩:∃ W,W = w2.alloc (.cells #[.int .i64 1,.bool zex.ok,.slice r1 zex.occ.length i1,.slice r2 zex.points.length i2,.slice r3 zex.ways.length i3] 50):=⟨_,rfl⟩;obtain ⟨db,hdbe⟩:∃ db,db = w2.heap.size:=⟨_,rfl⟩;rw [← hW3] at hb13 hb23 hrd;rw [← hdbe] at hrd;have R3:=HRB.out.call hb13;have v0:W3.cell? ⟨fb,0,none⟩ = some (.bool f.ok):=R3.fbox.cell (i:=0) (by omega);have v1:W3.cell? ⟨fb,1,none⟩ = some (.slice o1 f.occ.length m1):=R3.fbox.cell (i:=1) (by omega);have v2:W3.cell? ⟨fb,2,none⟩ = some (.slice o2 f.points.length m2):=R3.fbox.cell (i:=2) (by omega)
    have v3:W3.cell? ⟨fb,3,none⟩ = some (.slice o3 f.ways.length m3):=R3.fbox.cell (i:=3) (by omega);have c0:W3.cell? ⟨db,0,none⟩ = some (.int .i64 1):=hrd.cell (i:=0) (by simp);have HC:=zaa (zic f.ok _ _ _ f W3 (KFB.out _ hb23) (zd1 HFR.out) (ze7 HFR.out) (zh7 HFR.out));have hbs3:=hb13.size
    have hdw:wr.heap.size ≤ db:=by rw [hdbe]; exact hb12.size
    clear hn3 hm2 hb2 hb12 hb23 R3
    go_upto_region 9 with fail
    rw [← hW3,← hdbe];clear hW3 hdbe
    go_wp2_with fail
    refine HC.out.mono ?_;clear HC v0 v1 v2 v3 c0;rintro e w4 ⟨n1,n2,n3,bo2,bp2,bw2,bb2,rfl,hb4,hF4⟩
    have hfx:f = X.2:=by rw [HXE.out]
    have hox:f.ok = X.2.ok:=by rw [HXE.out]
    have h1x:(1:Int) = X.1:=by rw [HXE.out]
    rw [hfx] at hF4;obtain ⟨gO,NO,t1,rfl,-⟩:=id hF4.occ;obtain ⟨a6,t2,rfl,-⟩:=id hF4.points;obtain ⟨a7,t3,rfl,-⟩:=id hF4.ways;have hr4:=zah hrd hb4;have s0:=hr4.cell (i:=0) (by simp);have s1:=hr4.cell (i:=1) (by simp);have s2:=hr4.cell (i:=2) (by simp);have s3:=hr4.cell (i:=3) (by simp);have s4:=hr4.cell (i:=4) (by simp);have k1:=hr4.frozen 1;have k2:=hr4.frozen 2;have k3:=hr4.frozen 3;have k4:=hr4.frozen 4;have hj:∀ o:Nat,¬ ((fun c=>c ≠ db) (⟨db,o,none⟩:Addr).block):=fun o z=>z rfl;have hB:=((((But.refl (fun c=>c ≠ db) w4).setCell (hj 1) (.bool X.2.ok)).setCell (hj 2) (.slice (some ⟨bo2,0,none⟩) X.2.occ.length t1)).setCell (hj 3) (.slice a6 X.2.points.length t2)).setCell (hj 4) (.slice a7 X.2.ways.length t3);have hb14:=hb13.trans (hb4.mono hb13.size);have hbd:=hb14.trans (hB.below hb14.size fun c hc=>by omega);have hdb:=(((hr4.set 1 (.bool X.2.ok)).set 2 (.slice (some ⟨bo2,0,none⟩) X.2.occ.length t1)).set 3 (.slice a6 X.2.points.length t2)).set 4 (.slice a7 X.2.ways.length t3)
    have hdb:=hdb.congr (g:=fun i=>(#[.int .i64 X.1,.bool X.2.ok,.slice (some ⟨bo2,0,none⟩) X.2.occ.length t1,.slice a6 X.2.points.length t2,.slice a7 X.2.ways.length t3]:Array Value)[i]!) fun i hi=>by
     rw [← h1x];rcases i with _ | _ | _ | _ | _ | i
     ·rfl
     ·rfl
     ·rfl
     ·rfl
     ·rfl
     ·omega
    have hFd:=((hF4.boxed hr4 ⟨by decide,by decide,by decide⟩ hB fun _ z=>z).but (K:=fun _=>True) (Q:=fun c=>wr.heap.size ≤ c) (But.refl _ _) (fun _ _=>trivial) fun c hc=>Nat.le_trans hbs3 hc.1).bound fun c h1 h2=>And.intro h1 h2;obtain ⟨Wd,hWd⟩:∃ W,W = (((w4.setCell ⟨db,1,none⟩ (.bool X.2.ok)).setCell ⟨db,2,none⟩ (.slice (some ⟨bo2,0,none⟩) X.2.occ.length t1)).setCell ⟨db,3,none⟩ (.slice a6 X.2.points.length t2)).setCell ⟨db,4,none⟩ (.slice a7 X.2.ways.length t3):=⟨_,rfl⟩;rw [← hWd] at hbd hdb hFd;rw [hox];rw [hfx];clear hr4 hB hb14 hF4 hb4 hrd hb13 hfx hox h1x
    go_upto_region 11 with fail
    rw [← hWd];clear hWd s0 s1 s2 s3 s4 k1 k2 k3 k4;have R3:=HRB.out.call hbd;have hf3:=R3.fbox;have d0:Wd.cell? ⟨db,0,none⟩ = some (.int .i64 X.1):=hdb.cell (i:=0) (by omega);have d1:Wd.cell? ⟨db,1,none⟩ = some (.bool X.2.ok):=hdb.cell (i:=1) (by omega);have d2:Wd.cell? ⟨db,2,none⟩ = some (.slice (some ⟨bo2,0,none⟩) X.2.occ.length t1):=hdb.cell (i:=2) (by omega);have d3:Wd.cell? ⟨db,3,none⟩ = some (.slice a6 X.2.points.length t2):=hdb.cell (i:=3) (by omega);have d4:Wd.cell? ⟨db,4,none⟩ = some (.slice a7 X.2.ways.length t3):=hdb.cell (i:=4) (by omega);have x0:=hf3.cell (i:=0) (by omega);have x1:=hf3.cell (i:=1) (by omega);have x2:=hf3.cell (i:=2) (by omega);have x3:=hf3.cell (i:=3) (by omega);have k0:=hf3.frozen 0;have k1:=hf3.frozen 1;have k2:=hf3.frozen 2;have k3:=hf3.frozen 3;obtain ⟨RP,hFP,hBP⟩:=R3.put (x:=X.2) hFd fun c hc=>Nat.le_trans HRB.out.below.size hc.1;have hne:db ≠ fb:=zbb hdb hf3 (by decide);have hdP:=hBP.row hdb hne;have z0:((((Wd.setCell ⟨fb,0,none⟩ (.bool X.2.ok)).setCell ⟨fb,1,none⟩ (.slice (some ⟨bo2,0,none⟩) X.2.occ.length t1)).setCell ⟨fb,2,none⟩ (.slice a6 X.2.points.length t2)).setCell ⟨fb,3,none⟩ (.slice a7 X.2.ways.length t3)).cell? ⟨db,0,none⟩ = some (.int .i64 X.1):=hdP.cell (i:=0) (by omega);have z1:((((Wd.setCell ⟨fb,0,none⟩ (.bool X.2.ok)).setCell ⟨fb,1,none⟩ (.slice (some ⟨bo2,0,none⟩) X.2.occ.length t1)).setCell ⟨fb,2,none⟩ (.slice a6 X.2.points.length t2)).setCell ⟨fb,3,none⟩ (.slice a7 X.2.ways.length t3)).cell? ⟨db,1,none⟩ = some (.bool X.2.ok):=hdP.cell (i:=1) (by omega)
    have z2:((((Wd.setCell ⟨fb,0,none⟩ (.bool X.2.ok)).setCell ⟨fb,1,none⟩ (.slice (some ⟨bo2,0,none⟩) X.2.occ.length t1)).setCell ⟨fb,2,none⟩ (.slice a6 X.2.points.length t2)).setCell ⟨fb,3,none⟩ (.slice a7 X.2.ways.length t3)).cell? ⟨db,2,none⟩ = some (.slice (some ⟨bo2,0,none⟩) X.2.occ.length t1):=hdP.cell (i:=2) (by omega);have z3:((((Wd.setCell ⟨fb,0,none⟩ (.bool X.2.ok)).setCell ⟨fb,1,none⟩ (.slice (some ⟨bo2,0,none⟩) X.2.occ.length t1)).setCell ⟨fb,2,none⟩ (.slice a6 X.2.points.length t2)).setCell ⟨fb,3,none⟩ (.slice a7 X.2.ways.length t3)).cell? ⟨db,3,none⟩ = some (.slice a6 X.2.points.length t2):=hdP.cell (i:=3) (by omega);have z4:((((Wd.setCell ⟨fb,0,none⟩ (.bool X.2.ok)).setCell ⟨fb,1,none⟩ (.slice (some ⟨bo2,0,none⟩) X.2.occ.length t1)).setCell ⟨fb,2,none⟩ (.slice a6 X.2.points.length t2)).setCell ⟨fb,3,none⟩ (.slice a7 X.2.ways.length t3)).cell? ⟨db,4,none⟩ = some (.slice a7 X.2.ways.length t3):=hdP.cell (i:=4) (by omega)
    have hzP:((((Wd.setCell ⟨fb,0,none⟩ (.bool X.2.ok)).setCell ⟨fb,1,none⟩ (.slice (some ⟨bo2,0,none⟩) X.2.occ.length t1)).setCell ⟨fb,2,none⟩ (.slice a6 X.2.points.length t2)).setCell ⟨fb,3,none⟩ (.slice a7 X.2.ways.length t3)).heap.size = Wd.heap.size:=by simp
    have hn5:=zab ((((Wd.setCell ⟨fb,0,none⟩ (.bool X.2.ok)).setCell ⟨fb,1,none⟩ (.slice (some ⟨bo2,0,none⟩) X.2.occ.length t1)).setCell ⟨fb,2,none⟩ (.slice a6 X.2.points.length t2)).setCell ⟨fb,3,none⟩ (.slice a7 X.2.ways.length t3)) (.cells #[.int .i64 X.1,.bool X.2.ok,.slice (some ⟨bo2,0,none⟩) X.2.occ.length t1,.slice a6 X.2.points.length t2,.slice a7 X.2.ways.length t3] 50);have hr5:=zak ((((Wd.setCell ⟨fb,0,none⟩ (.bool X.2.ok)).setCell ⟨fb,1,none⟩ (.slice (some ⟨bo2,0,none⟩) X.2.occ.length t1)).setCell ⟨fb,2,none⟩ (.slice a6 X.2.points.length t2)).setCell ⟨fb,3,none⟩ (.slice a7 X.2.ways.length t3)) 50 #[.int .i64 X.1,.bool X.2.ok,.slice (some ⟨bo2,0,none⟩) X.2.occ.length t1,.slice a6 X.2.points.length t2,.slice a7 X.2.ways.length t3];rw [hzP] at hr5;have R5:=RP.call hn5;have hF5:=hFP.but (K:=fun _=>True) (Q:=fun c=>lo L.length ≤ c ∧ c < Wd.heap.size) (But.of_calls hn5) (fun _ _=>trivial) fun c hc=>⟨Nat.le_trans HRB.out.top hc.1,hc.2⟩
    have SRC:Hid (1 = 0 ∨ ∃ A,(some (⟨Wd.heap.size,0,none⟩:Addr)) = some A ∧ ∀ j u,([.int .i64 X.1,.bool X.2.ok,.slice (some ⟨bo2,0,none⟩) X.2.occ.length t1,.slice a6 X.2.points.length t2,.slice a7 X.2.ways.length t3]:List Value)[j]? = some u → (((((Wd.setCell ⟨fb,0,none⟩ (.bool X.2.ok)).setCell ⟨fb,1,none⟩ (.slice (some ⟨bo2,0,none⟩) X.2.occ.length t1)).setCell ⟨fb,2,none⟩ (.slice a6 X.2.points.length t2)).setCell ⟨fb,3,none⟩ (.slice a7 X.2.ways.length t3)).alloc (.cells #[.int .i64 X.1,.bool X.2.ok,.slice (some ⟨bo2,0,none⟩) X.2.occ.length t1,.slice a6 X.2.points.length t2,.slice a7 X.2.ways.length t3] 50)).cell? (A.add j) = some u):=by
     refine .inr ⟨_,rfl,fun j u hj=>?_⟩;rw [zbp,Nat.zero_add];have hj5:j < 5:=(List.getElem?_eq_some_iff.1 hj).1;rw [hr5.cell (by simpa using hj5)];rcases j with _ | _ | _ | _ | _ | j
     ·exact hj
     ·exact hj
     ·exact hj
     ·exact hj
     ·exact hj
     ·omega
    have ONE:Hid (∀ u ∈ ([.int .i64 X.1,.bool X.2.ok,.slice (some ⟨bo2,0,none⟩) X.2.occ.length t1,.slice a6 X.2.points.length t2,.slice a7 X.2.ways.length t3]:List Value),u.oneCell' = true):=by
     intro u hu;simp at hu
     rcases hu with rfl | rfl | rfl | rfl | rfl <;> rfl
    have HM7:Hid (k + 1 ≤ maxLen):=by show k + 1 ≤ maxLen; unfold maxLen; omega
    have HM8:Hid ((k + 1) * 88 ≤ 140737488355328):=by show (k + 1) * 88 ≤ 140737488355328; omega
    have hown5:=R5.own;rw [hlk] at hown5;have OWY:=zaa hown5;have HZY:Hid (w.heap.size ≤ (((((Wd.setCell ⟨fb,0,none⟩ (.bool X.2.ok)).setCell ⟨fb,1,none⟩ (.slice (some ⟨bo2,0,none⟩) X.2.occ.length t1)).setCell ⟨fb,2,none⟩ (.slice a6 X.2.points.length t2)).setCell ⟨fb,3,none⟩ (.slice a7 X.2.ways.length t3)).alloc (.cells #[.int .i64 X.1,.bool X.2.ok,.slice (some ⟨bo2,0,none⟩) X.2.occ.length t1,.slice a6 X.2.points.length t2,.slice a7 X.2.ways.length t3] 50)).heap.size):=R5.below.size;have HR5:=zaa R5;have HF5:=zaa hF5;have hz5:Wd.heap.size ≤ (((((Wd.setCell ⟨fb,0,none⟩ (.bool X.2.ok)).setCell ⟨fb,1,none⟩ (.slice (some ⟨bo2,0,none⟩) X.2.occ.length t1)).setCell ⟨fb,2,none⟩ (.slice a6 X.2.points.length t2)).setCell ⟨fb,3,none⟩ (.slice a7 X.2.ways.length t3)).alloc (.cells #[.int .i64 X.1,.bool X.2.ok,.slice (some ⟨bo2,0,none⟩) X.2.occ.length t1,.slice a6 X.2.points.length t2,.slice a7 X.2.ways.length t3] 50)).heap.size:=Nat.le_trans (Nat.le_of_eq hzP.symm) hn5.size;have HZ5:=zaa hz5;have HLO:Hid (lo L.length ≤ Wd.heap.size):=Nat.le_trans HRB.out.top hbd.size;clear R3 hf3 RP hFP hBP hdP hn5 hr5 R5 hF5 hown5 hzP hne hdb hFd hbd hz5
    go_wp2_with (at_builtin; refine zai rfl _ _ 61 rfl w.heap.size 50 (.agg #[.int .i64 0,.bool false,.slice none 0 0,.slice none 0 0,.slice none 0 0]) 5 88 Tryz.underlying61 Tryz.infoDone rfl (by decide) (.slice a5 k c5) k xs rfl OWY.out (some ⟨Wd.heap.size,0,none⟩) 1 1 [.int .i64 X.1,.bool X.2.ok,.slice (some ⟨bo2,0,none⟩) X.2.occ.length t1,.slice a6 X.2.points.length t2,.slice a7 X.2.ways.length t3] rfl rfl SRC.out ONE.out HM7.out HM8.out HZY.out ?_)
    intro u5 w6 hown6 hgr6;obtain ⟨a8,c8,rfl⟩:=zag hown6;have FIN:=zaa (HR5.out.add (x:=X) HF5.out HZ5.out HLO.out (by rw [hlk]; exact hown6) hgr6);clear hown6 hgr6 SRC ONE OWY HR5 HF5 HRB d0 d1 d2 d3 d4 x0 x1 x2 x3 k0 k1 k2 k3 z0 z1 z2 z3 z4;go_wp2;go_roundw
    case rel=>exact ⟨k + 1,_,_,_,_,_,by omega,by go_num,by rw [zd9 p F HX.out,← HL.out,zid,← Hf.out,← HXX.out]; exact FIN.out⟩
    case measure=>simp [intOf]; omega
  ·obtain rfl:k = es.length:=by omega
   have HRB:=zaa RB;clear RB hfr;go_wp2;go_ret;refine ⟨_,rfl,HRB.out.below,?_⟩
   have e:zp2 p es = L:=by rw [HRUN.out,HL.out,List.take_length,HFF.out]
   rw [e];have h1:=HRB.out.own;rw [hlk] at h1;exact ⟨xs,lo,by rw [hlk]; exact h1,HRB.out.dones,HRB.out.top,HRB.out.low,HRB.out.step⟩
end Go.Proofs.YtdhinkgjiapigabGreatDoor
namespace Go.Proofs.YtdhinkgjiapigabGreatDoor
open Go.RowKit Go.Deep
open Classical
def hT (t:Int):HeldD:=⟨3,0,[false,false,false],true,t⟩
end Go.Proofs.YtdhinkgjiapigabGreatDoor
namespace Go.Proofs.YtdhinkgjiapigabGreatDoor
open Go.RowKit Go.Deep
open Classical
end Go.Proofs.YtdhinkgjiapigabGreatDoor
namespace Go.Proofs.YtdhinkgjiapigabGreatDoor
open Go.RowKit Go.Deep
open Classical
end Go.Proofs.YtdhinkgjiapigabGreatDoor

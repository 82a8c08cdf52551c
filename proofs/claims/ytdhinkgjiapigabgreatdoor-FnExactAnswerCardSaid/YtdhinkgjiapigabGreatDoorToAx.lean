import Derived.Test.YtdhinkgjiapigabGreatDoorToA
import Derived.Test.YtdhinkgjiapigabGreatDoorBasex
import Derived.Deep.OwnRows
import Derived.Deep.QuietTactic
import Derived.BigQuiet
import Derived.Deep.RegionWith
import Derived.WalkSmall
namespace Go.Proofs.YtdhinkgjiapigabGreatDoor
open Go.RowKit Go.Deep
theorem Tryz.infoBools:(Tryz.prog.info? 27).map (fun i=>(i.zero,i.size,i.bytes)) = some (some (.slice none 0 0),1,24):=by kernel_rfl
theorem Tryz.infoWay:(Tryz.prog.info? 122).map (fun i=>(i.zero,i.size,i.bytes)) = some (some (.agg #[.slice none 0 0,.slice none 0 0,.slice none 0 0,.slice none 0 0,.slice none 0 0]),5,120):=by kernel_rfl
theorem zx2 {P:Program} (t e:TypeId) (z:Value) (size bytes:Nat) (ht:P.underlying t = some (.slice e)) (hinfo:(P.info? e).map (fun i=>(i.zero,i.size,i.bytes)) = some (some z,size,bytes))
  (n:Nat) (hb:bytes * n ≤ 281474976710656) (h63:n ≤ 9223372036854775807) (w:World) :
  (Instr.makeSlice t (.int .i64 (n:Int)) (.int .i64 (n:Int))).run P w = .ok (.slice (some ⟨w.heap.size,0,none⟩) n n) (w.alloc (.cells (madeCells z.cells (n * size)) e)):=by
 cases hi:P.info? e with
 | none=>rw [hi] at hinfo; cases hinfo
 | some i=>
  rw [hi] at hinfo;simp only [Option.map_some,Option.some.injEq,Prod.mk.injEq] at hinfo;obtain ⟨h1,h2,h3⟩:=hinfo;have:=run_make (P:=P) w t e i z ht hi h1 .i64 .i64 n n (by omega) (by omega) (by rw [h3,← Int.natCast_mul]; omega) (by omega);rw [h2] at this;simpa using this
theorem zx1 (w:World) (z:Array Value) (n:Nat) (t:TypeId):(w.alloc (.cells (madeCells z n) t)).rowIs w.heap.size t n (fun i=>(madeCells z n)[i]!):=by
 have:=World.rowIs_alloc w (madeCells z n) t (fun i=>(madeCells z n)[i]!) (fun i hi=>by rw [getElem!_pos _ i hi]; exact Array.getElem?_eq_getElem hi)
 rwa [size_madeCells] at this
theorem Ints.made {w wr:World} {l:List Int} {n:Nat} {t:TypeId} {f:Nat → Value} (hn:l.length = n) (hrow:wr.rowIs w.heap.size t n f)
  (hf:∀ j x,j < n → l[j]? = some x → f j = .int .i64 x):Ints (zsq w wr) wr (.slice (some ⟨w.heap.size,0,none⟩) n n) l:=by
 subst hn;exact ⟨_,_,rfl,.inr ⟨w.heap.size,0,rfl,⟨Nat.le_refl _,hrow.lt,hrow.frozen⟩,fun i hi x hx=>by rw [Nat.zero_add,hrow.cell hi,hf i x hi hx]⟩⟩
theorem Bools.made {w wr:World} {l:List Bool} {n:Nat} {t:TypeId} {f:Nat → Value} (hn:l.length = n) (hrow:wr.rowIs w.heap.size t n f)
  (hf:∀ j x,j < n → l[j]? = some x → f j = .bool x):Bools (zsq w wr) wr (.slice (some ⟨w.heap.size,0,none⟩) n n) l:=by
 subst hn;exact ⟨_,_,rfl,.inr ⟨w.heap.size,0,rfl,⟨Nat.le_refl _,hrow.lt,hrow.frozen⟩,fun i hi x hx=>by rw [Nat.zero_add,hrow.cell hi,hf i x hi hx]⟩⟩
theorem Lies.made {w wr:World} {l:List (Int × Int)} {n:Nat} {t:TypeId} {f:Nat → Value} (hn:l.length = n) (hrow:wr.rowIs w.heap.size t (n * 2) f)
  (hf:∀ j x,j < n → l[j]? = some x → f (j * 2) = .int .i64 x.1 ∧ f (j * 2 + 1) = .int .i64 x.2):Lies (zsq w wr) wr (.slice (some ⟨w.heap.size,0,none⟩) n n) l:=by
 subst hn;refine ⟨_,_,rfl,.inr ⟨w.heap.size,0,rfl,⟨Nat.le_refl _,hrow.lt,hrow.frozen⟩,fun i hi x hx=>?_⟩⟩;rw [Nat.zero_add,hrow.cell (by omega),hrow.cell (by omega),(hf i x hi hx).1,(hf i x hi hx).2]; exact ⟨rfl,rfl⟩
set_option maxHeartbeats 1000000 in
theorem zyu (v:Value) (l:List Int) (w:World) (hv:Ints (In w) w v l) (hn:l.length ≤ 1048576) :
  Calls Tryz.prog 70 #[v] w fun e w'=>∃ v',e = .returned v' ∧ Below w.heap.size w w' ∧ Ints (zsq w w') w' v' l ∧ znt v':=by
 obtain ⟨a,cap,rfl,hc⟩:=hv;generalize hn':l.length = n at *;have Hn:Hid (l.length = n):=hn';have HC:=zaa hc;clear hc hn';have hmk:=run_make_row' (P:=Tryz.prog) 22 3 (.int .i64 0) 8 Tryz.underlying22 Tryz.infoInt rfl .i64 .i64 n (by omega) (by omega);go_enter Tryz.func70,Tryz.ntmps70;go_wp2
 go_loopw [4] (fun i wr=>∃ (k:Nat) (f:Nat → Value),k ≤ n ∧ i = .int .i64 k ∧ Below w.heap.size w wr ∧ wr.rowIs w.heap.size 3 n f ∧ (∀ j x,j < k → l[j]? = some x → f j = .int .i64 x)) (fun i _=>n - (intOf i).toNat)
 case atStart=>exact ⟨0,_,Nat.zero_le _,rfl,(Below.refl _ _).alloc (Nat.le_refl _) _,World.rowIs_made w _ n _,fun j x hj=>by omega⟩
 case round=>
  obtain ⟨k,f,hk,rfl,hbl,hrow,hf⟩:=hrel;have HF:=zaa hf;clear hf hmk;by_cases hlt:k < n
  ·obtain h0 | ⟨b,off,rfl,hb0,hc⟩:=HC.out
   ·omega
   obtain ⟨x,hx⟩:=zac l Hn hlt;have g0:=hc k hlt x hx;rw [← hbl.cell (p:=⟨b,_,none⟩) hb0] at g0;have hcw:=hrow.cell hlt;have hfr:=hrow.frozen k;have Hx:=zaa hx;clear hx hc;go_wp2;go_roundw
   case rel=>exact ⟨k + 1,_,by omega,by go_num,hbl.setCell (Nat.le_refl _) _,hrow.set k _,fun j y hj hy=>by
    by_cases e:j = k
    ·subst e; rw [Hx.out] at hy; rw [if_pos rfl]; exact Option.some.inj hy ▸ rfl
    ·rw [if_neg e]; exact HF.out j y (by omega) hy⟩
   case measure=>simp [intOf]; omega
  ·go_wp2;go_ret;exact ⟨.slice (some ⟨w.heap.size,0,none⟩) n n,rfl,hbl,Ints.made Hn.out hrow (fun j x hj=>HF.out j x (by omega)),_,_,_,rfl,Nat.le_refl _⟩
theorem zym (v:Value) (l:List Int) (w:World) (hv:Ints (In w) w v l) (hn:l.length ≤ 1048576) :
  Calls Tryz.prog 70 #[v] w fun e w'=>∃ v',e = .returned v' ∧ Below w.heap.size w w' ∧ Ints (zsq w w') w' v' l:=
 (zyu v l w hv hn).mono fun _ _ ⟨v',h1,h2,h3,_⟩=>⟨v',h1,h2,h3⟩
set_option maxHeartbeats 1000000 in
theorem zye (v:Value) (l:List Bool) (w:World) (hv:Bools (In w) w v l) (hn:l.length ≤ 1048576) :
  Calls Tryz.prog 73 #[v] w fun e w'=>∃ v',e = .returned v' ∧ Below w.heap.size w w' ∧ Bools (zsq w w') w' v' l:=by
 obtain ⟨a,cap,rfl,hc⟩:=hv;generalize hn':l.length = n at *;have Hn:Hid (l.length = n):=hn';have HC:=zaa hc;clear hc hn';have hmk:=run_make_row' (P:=Tryz.prog) 27 4 (.bool false) 1 Tryz.underlying27 Tryz.infoBool rfl .i64 .i64 n (by omega) (by omega);go_enter Tryz.func73,Tryz.ntmps73;go_wp2
 go_loopw [4] (fun i wr=>∃ (k:Nat) (f:Nat → Value),k ≤ n ∧ i = .int .i64 k ∧ Below w.heap.size w wr ∧ wr.rowIs w.heap.size 4 n f ∧ (∀ j x,j < k → l[j]? = some x → f j = .bool x)) (fun i _=>n - (intOf i).toNat)
 case atStart=>exact ⟨0,_,Nat.zero_le _,rfl,(Below.refl _ _).alloc (Nat.le_refl _) _,World.rowIs_made w _ n _,fun j x hj=>by omega⟩
 case round=>
  obtain ⟨k,f,hk,rfl,hbl,hrow,hf⟩:=hrel;have HF:=zaa hf;clear hf hmk;by_cases hlt:k < n
  ·obtain h0 | ⟨b,off,rfl,hb0,hc⟩:=HC.out
   ·omega
   obtain ⟨x,hx⟩:=zac l Hn hlt;have g0:=hc k hlt x hx;rw [← hbl.cell (p:=⟨b,_,none⟩) hb0] at g0;have hcw:=hrow.cell hlt;have hfr:=hrow.frozen k;have Hx:=zaa hx;clear hx hc;go_wp2;go_roundw
   case rel=>exact ⟨k + 1,_,by omega,by go_num,hbl.setCell (Nat.le_refl _) _,hrow.set k _,fun j y hj hy=>by
    by_cases e:j = k
    ·subst e; rw [Hx.out] at hy; rw [if_pos rfl]; exact Option.some.inj hy ▸ rfl
    ·rw [if_neg e]; exact HF.out j y (by omega) hy⟩
   case measure=>simp [intOf]; omega
  ·go_wp2;go_ret;exact ⟨.slice (some ⟨w.heap.size,0,none⟩) n n,rfl,hbl,Bools.made Hn.out hrow fun j x hj=>HF.out j x (by omega)⟩
set_option maxHeartbeats 400000 in
theorem toLie_any (x y:Int) (w:World) :
  Calls Tryz.prog 214 #[.agg #[.int .i64 x,.int .i64 y]] w fun e w'=>e = .returned (.agg #[.int .i64 x,.int .i64 y]) ∧ Below w.heap.size w w':=by
 go_enter Tryz.func214,Tryz.ntmps214;go_wp2;exact bodyPost_ret (v:=.agg #[.int .i64 x,.int .i64 y]) (by simp [results,Tryz.results214,go_sem]) rfl ⟨rfl,((((Below.refl _ _).alloc (Nat.le_refl _) _).alloc (by simp) _).alloc (by simp; omega) _)⟩
set_option maxHeartbeats 1000000 in
theorem zy2 (v:Value) (l:List (Int × Int)) (w:World) (hv:Lies (In w) w v l) (hn:l.length ≤ 1048576) :
  Calls Tryz.prog 175 #[v] w fun e w'=>∃ v',e = .returned v' ∧ Below w.heap.size w w' ∧ Lies (zsq w w') w' v' l:=by
 obtain ⟨a,cap,rfl,hc⟩:=hv;generalize hn':l.length = n at *;have Hn:Hid (l.length = n):=hn';have HC:=zaa hc;clear hc hn';have hmk:=zx2 (P:=Tryz.prog) 120 175 _ 2 16 Tryz.underlying120 Tryz.infoLie n (by omega) (by omega);go_enter Tryz.func175,Tryz.ntmps175;go_wp2
 go_loopw [4] (fun i wr=>∃ (k:Nat) (f:Nat → Value),k ≤ n ∧ i = .int .i64 k ∧ Below w.heap.size w wr ∧ wr.rowIs w.heap.size 175 (n * 2) f ∧ (∀ j x,j < k → l[j]? = some x → f (j * 2) = .int .i64 x.1 ∧ f (j * 2 + 1) = .int .i64 x.2)) (fun i _=>n - (intOf i).toNat)
 case atStart=>exact ⟨0,_,Nat.zero_le _,rfl,(Below.refl _ _).alloc (Nat.le_refl _) _,zx1 w _ (n * 2) _,fun j x hj=>by omega⟩
 case round=>
  obtain ⟨k,f,hk,rfl,hbl,hrow,hf⟩:=hrel;have HF:=zaa hf;clear hf hmk;by_cases hlt:k < n
  ·obtain h0 | ⟨b,off,rfl,hb0,hc⟩:=HC.out
   ·omega
   obtain ⟨x,hx⟩:=zac l Hn hlt;obtain ⟨g0,g1⟩:=hc k hlt x hx;rw [← hbl.cell (p:=⟨b,_,none⟩) hb0] at g0 g1;have Hx:=zaa hx;clear hx hc
   go_wp2_with fail
   refine (toLie_any x.1 x.2 wr).mono ?_;rintro e w1 ⟨rfl,hb1⟩;have hbl1:Below w.heap.size w w1:=hbl.trans (hb1.mono hbl.size);have hrow1:=zal hrow hb1;have q0:=hrow1.cell (i:=k * 2) (by omega);have q1:=hrow1.cell (i:=k * 2 + 1) (by omega);have r0:=hrow1.frozen (k * 2);have r1:=hrow1.frozen (k * 2 + 1);clear g0 g1;go_wp2;go_roundw
   case rel=>exact ⟨k + 1,_,by omega,by go_num,(hbl1.setCell (Nat.le_refl _) _).setCell (Nat.le_refl _) _,(hrow1.set (k * 2) _).set (k * 2 + 1) _,fun j y hj hy=>by
    by_cases e:j = k
    ·subst e; rw [Hx.out] at hy; cases hy; rw [if_neg (by omega),if_pos rfl,if_pos rfl]; exact ⟨rfl,rfl⟩
    ·rw [if_neg (by omega),if_neg (by omega),if_neg (by omega),if_neg (by omega)]; exact HF.out j y (by omega) hy⟩
   case measure=>simp [intOf]; omega
  ·go_wp2;go_ret;exact ⟨.slice (some ⟨w.heap.size,0,none⟩) n n,rfl,hbl,Lies.made Hn.out hrow fun j x hj=>HF.out j x (by omega)⟩
end Go.Proofs.YtdhinkgjiapigabGreatDoor
namespace Go.Proofs.YtdhinkgjiapigabGreatDoor
open Go.RowKit Go.Deep
def Above (m:Nat) (w:World) (b:Nat):Prop:=m ≤ b ∧ b < w.heap.size ∧ zt6 w b
theorem Above.call {m:Nat} {W W':World} {b:Nat} (h:Above m W b) (hb:Below W.heap.size W W'):Above m W' b:=
 ⟨h.1,Nat.lt_of_lt_of_le h.2.1 hb.size,fun o=>(hb.frozen (p:=⟨b,o,none⟩) h.2.1).trans (h.2.2 o)⟩
theorem Above.store {m:Nat} {W:World} {b:Nat} (h:Above m W b) (a:Addr) (v:Value) (_ha:a.block < m):Above m (W.setCell a v) b:=
 ⟨h.1,by simpa [World.setCell] using h.2.1,fun o=>(World.frozen?_setCell _ _ _ _).trans (h.2.2 o)⟩
theorem zx8 {P:Nat → Prop} (w:World) (a:Addr) (v:Value) (h:∀ b,P b → b ≠ a.block):Same P w (w.setCell a v):=by
 intro b hb o;exact World.cell?_of_block (w:=w) (Below.heap_setCell w a v b (h b hb))
abbrev Dat:=(Nat → Prop) → World → Prop
def Keepable (D:Dat):Prop:=∀ P Q W W',D P W → Same P W W' → (∀ b,P b → Q b) → D Q W'
theorem Keepable.and {D E:Dat} (h:Keepable D) (k:Keepable E):Keepable (fun P W=>D P W ∧ E P W):=fun _ _ _ _ x s q=>⟨h _ _ _ _ x.1 s q,k _ _ _ _ x.2 s q⟩
theorem zst:Keepable (fun _ _=>True):=fun _ _ _ _ _ _ _=>trivial
theorem zyg (v:Value) (l:List Int):Keepable (fun P W=>Ints P W v l):=fun _ _ _ _ h s q=>h.keep s q
theorem zyr (v:Value) (l:List (Int × Int)):Keepable (fun P W=>Lies P W v l):=fun _ _ _ _ h s q=>h.keep s q
theorem keep_waysC (v:Value) (l:List WayD):Keepable (fun P W=>WaysC P W v l):=fun _ _ _ _ h s q=>h.keep s q
theorem keep_rows (v:Value) (l:List (List Bool)):Keepable (fun P W=>Rows2 P W v l):=fun _ _ _ _ h s q=>h.keep s q
structure Copy (w:World) (tb tr:TypeId) (box:Nat → Value) (D:Dat) (W:World) (f g:Nat → Value):Prop where
 below:Below w.heap.size w W
 box:W.rowIs w.heap.size tb 5 box
 res:W.rowIs (w.heap.size + 1) tr 5 g
 out:W.rowIs (w.heap.size + 1 + 1) tr 5 f
 keep:Keepable D
 made:D (Above (w.heap.size + 1 + 1 + 1) W) W
theorem Copy.call {w:World} {tb tr:TypeId} {box:Nat → Value} {D:Dat} {W W':World} {f g:Nat → Value} (h:Copy w tb tr box D W f g) (hb:Below W.heap.size W W'):Copy w tb tr box D W' f g:=
 ⟨h.below.trans (hb.mono h.below.size),zal h.box hb,zal h.res hb,zal h.out hb,h.keep,h.keep _ _ _ _ h.made (za0 hb fun _ hb=>hb.2.1) fun _ hx=>hx.call hb⟩
theorem Copy.store {w:World} {tb tr:TypeId} {box:Nat → Value} {D:Dat} {W:World} {f g:Nat → Value} (h:Copy w tb tr box D W f g) (i:Nat) (v:Value):Copy w tb tr box D (W.setCell ⟨w.heap.size + 1 + 1,i,none⟩ v) (fun j=>if j = i then v else f j) g:=
 ⟨h.below.setCell (by show w.heap.size ≤ w.heap.size + 1 + 1; omega) _,h.box.setOther (by show w.heap.size ≠ w.heap.size + 1 + 1; omega) _,h.res.setOther (by show w.heap.size + 1 ≠ w.heap.size + 1 + 1; omega) _,h.out.set i v,h.keep,
  h.keep _ _ _ _ h.made (zx8 _ _ _ fun b hb=>by have:=hb.1; show b ≠ w.heap.size + 1 + 1; omega) fun _ hx=>hx.store _ _ (by show _ < w.heap.size + 1 + 1 + 1; simp only []; omega)⟩
theorem Copy.storeRes {w:World} {tb tr:TypeId} {box:Nat → Value} {D:Dat} {W:World} {f g:Nat → Value} (h:Copy w tb tr box D W f g) (i:Nat) (v:Value):Copy w tb tr box D (W.setCell ⟨w.heap.size + 1,i,none⟩ v) f (fun j=>if j = i then v else g j):=
 ⟨h.below.setCell (by show w.heap.size ≤ w.heap.size + 1; omega) _,h.box.setOther (by show w.heap.size ≠ w.heap.size + 1; omega) _,h.res.set i v,h.out.setOther (by show w.heap.size + 1 + 1 ≠ w.heap.size + 1; omega) _,h.keep,
  h.keep _ _ _ _ h.made (zx8 _ _ _ fun b hb=>by have:=hb.1; show b ≠ w.heap.size + 1; omega) fun _ hx=>hx.store _ _ (by show _ < w.heap.size + 1 + 1 + 1; simp only []; omega)⟩
theorem Copy.add {w:World} {tb tr:TypeId} {box:Nat → Value} {D E:Dat} {V W:World} {f g f' g':Nat → Value} (h:Copy w tb tr box D W f g) (hV:Copy w tb tr box D V f' g') (hk:Keepable E) (he:E (zsq V W) W):Copy w tb tr box (fun P W=>D P W ∧ E P W) W f g:=
 ⟨h.below,h.box,h.res,h.out,h.keep.and hk,h.made,hk _ _ _ _ he (zax _ _) fun b hb=>⟨by have:=hV.out.lt; have:=hb.1; omega,hb.2⟩⟩
theorem Copy.start (w:World) (tb tr:TypeId) (b0 b1 b2 b3 b4 z0 z1 z2 z3 z4 y0 y1 y2 y3 y4:Value) :
  Copy w tb tr (fun i=>(#[b0,b1,b2,b3,b4]:Array Value)[i]!) (fun _ _=>True) (((w.alloc (.cells #[b0,b1,b2,b3,b4] tb)).alloc (.cells #[z0,z1,z2,z3,z4] tr)).alloc (.cells #[y0,y1,y2,y3,y4] tr))
   (fun i=>(#[y0,y1,y2,y3,y4]:Array Value)[i]!) (fun i=>(#[z0,z1,z2,z3,z4]:Array Value)[i]!):=by
 have hr:∀ (u:World) (t:TypeId) (c:Array Value),(u.alloc (.cells c t)).rowIs u.heap.size t c.size (fun i=>c[i]!):=fun u t c=>
  World.rowIs_alloc u c t _ fun i hi=>by rw [getElem!_pos _ i hi]; exact Array.getElem?_eq_getElem hi
 refine ⟨((((Below.refl _ _).alloc (Nat.le_refl _) _).alloc (by simp) _).alloc (by simp; omega) _),((hr _ _ _).alloc _).alloc _,?_,?_,zst,trivial⟩
 ·have:=(hr (w.alloc (.cells #[b0,b1,b2,b3,b4] tb)) tr #[z0,z1,z2,z3,z4]).alloc (.cells #[y0,y1,y2,y3,y4] tr);simpa using this
 ·have:=hr ((w.alloc (.cells #[b0,b1,b2,b3,b4] tb)).alloc (.cells #[z0,z1,z2,z3,z4] tr)) tr #[y0,y1,y2,y3,y4];simpa using this
theorem Copy.boxes {w:World} {tb tr:TypeId} {b0 b1 b2 b3 b4:Value} {D:Dat} {W:World} {f g:Nat → Value} (h:Copy w tb tr (fun i=>(#[b0,b1,b2,b3,b4]:Array Value)[i]!) D W f g) :
  W.cell? ⟨w.heap.size,0,none⟩ = some b0 ∧ W.cell? ⟨w.heap.size,1,none⟩ = some b1 ∧ W.cell? ⟨w.heap.size,2,none⟩ = some b2 ∧ W.cell? ⟨w.heap.size,3,none⟩ = some b3 ∧ W.cell? ⟨w.heap.size,4,none⟩ = some b4:=
 ⟨by simpa using h.box.cell (i:=0) (by omega),by simpa using h.box.cell (i:=1) (by omega),by simpa using h.box.cell (i:=2) (by omega),by simpa using h.box.cell (i:=3) (by omega),by simpa using h.box.cell (i:=4) (by omega)⟩
set_option maxHeartbeats 2000000 in
theorem toWayC_any (v0 v1 v2 v3 v4:Value) (d:WayD) (w:World) (hv:WayAt (In w) w v0 v1 v2 v3 v4 d) (hs:d.Small 1048576) :
  Calls Tryz.prog 133 #[.agg #[v0,v1,v2,v3,v4]] w fun e w'=>∃ u0 u1 u2 u3 u4,e = .returned (.agg #[u0,u1,u2,u3,u4]) ∧ Below w.heap.size w w' ∧ WayAt (zsq w w') w' u0 u1 u2 u3 u4 d ∧ znt u0:=by
 have C0:=Copy.start w 153 122 v0 v1 v2 v3 v4 (.slice none 0 0) (.slice none 0 0) (.slice none 0 0) (.slice none 0 0) (.slice none 0 0) (.slice none 0 0) (.slice none 0 0) (.slice none 0 0) (.slice none 0 0) (.slice none 0 0);have hk:∀ {W D f g},Copy w 153 122 (fun i=>(#[v0,v1,v2,v3,v4]:Array Value)[i]!) D W f g → WayAt (In W) W v0 v1 v2 v3 v4 d:=fun h=>hv.keep (In.keep h.below).1 (In.keep h.below).2;obtain ⟨⟨va0,vc0,e0,-⟩,⟨va1,vc1,e1,-⟩,⟨va2,vc2,e2,-⟩,⟨va3,vc3,e3,-⟩,⟨va4,vc4,e4,-⟩⟩:=hv;go_enter Tryz.func133,Tryz.ntmps133;clear e0 e1 e2 e3 e4
 go_wp2_with fail
 refine (zyu v0 d.sections _ (hk C0).1 hs.1).mono ?_;rintro e w1 ⟨u0,rfl,hb1,n1,ncap⟩;have HCAP:=zaa ncap;clear ncap;obtain ⟨a1,p1,rfl⟩:=Sl.size n1;have C1:=(C0.call hb1).add C0 (zyg _ _) n1;clear C0 n1 hb1;obtain ⟨-,c1,-,-,-⟩:=C1.boxes;have o1:=C1.out.cell (i:=0) (by omega);have f1:=C1.out.frozen 0;have S1:=C1.store 0 (.slice a1 d.sections.length p1)
 go_wp2_with fail
 refine (zy2 v1 d.lies _ (hk S1).2.1 hs.2.1).mono ?_;clear c1 o1 f1 C1;rintro e w2 ⟨u1,rfl,hb2,n2⟩;obtain ⟨a2,p2,rfl⟩:=Sl.size n2;have C2:=(S1.call hb2).add S1 (zyr _ _) n2;clear S1 n2 hb2;obtain ⟨-,-,c1,-,-⟩:=C2.boxes;have o1:=C2.out.cell (i:=1) (by omega);have f1:=C2.out.frozen 1;have S2:=C2.store 1 (.slice a2 d.lies.length p2)
 go_wp2_with fail
 refine (zy2 v2 d.flanks _ (hk S2).2.2.1 hs.2.2.1).mono ?_;clear c1 o1 f1 C2;rintro e w3 ⟨u2,rfl,hb3,n3⟩;obtain ⟨a3,p3,rfl⟩:=Sl.size n3;have C3:=(S2.call hb3).add S2 (zyr _ _) n3;clear S2 n3 hb3;obtain ⟨-,-,-,c1,-⟩:=C3.boxes;have o1:=C3.out.cell (i:=2) (by omega);have f1:=C3.out.frozen 2;have S3:=C3.store 2 (.slice a3 d.flanks.length p3)
 go_wp2_with fail
 refine (zym v3 d.over _ (hk S3).2.2.2.1 hs.2.2.2.1).mono ?_;clear c1 o1 f1 C3;rintro e w4 ⟨u3,rfl,hb4,n4⟩;obtain ⟨a4,p4,rfl⟩:=Sl.size n4;have C4:=(S3.call hb4).add S3 (zyg _ _) n4;clear S3 n4 hb4;obtain ⟨-,-,-,-,c1⟩:=C4.boxes;have o1:=C4.out.cell (i:=3) (by omega);have f1:=C4.out.frozen 3;have S4:=C4.store 3 (.slice a4 d.over.length p4)
 go_wp2_with fail
 refine (zym v4 d.near _ (hk S4).2.2.2.2 hs.2.2.2.2).mono ?_;clear c1 o1 f1 C4;rintro e w5 ⟨u4,rfl,hb5,n5⟩;obtain ⟨a5,p5,rfl⟩:=Sl.size n5;have C5:=(S4.call hb5).add S4 (zyg _ _) n5;clear S4 n5 hb5
 have o0:w5.cell? ⟨w.heap.size + 1 + 1,0,none⟩ = some (.slice a1 d.sections.length p1):=by simpa using C5.out.cell (i:=0) (by omega)
 have o1:w5.cell? ⟨w.heap.size + 1 + 1,1,none⟩ = some (.slice a2 d.lies.length p2):=by simpa using C5.out.cell (i:=1) (by omega)
 have o2:w5.cell? ⟨w.heap.size + 1 + 1,2,none⟩ = some (.slice a3 d.flanks.length p3):=by simpa using C5.out.cell (i:=2) (by omega)
 have o3:w5.cell? ⟨w.heap.size + 1 + 1,3,none⟩ = some (.slice a4 d.over.length p4):=by simpa using C5.out.cell (i:=3) (by omega)
 have o4:=C5.out.cell (i:=4) (by omega);have f4:=C5.out.frozen 4;have r0:=C5.res.cell (i:=0) (by omega);have r1:=C5.res.cell (i:=1) (by omega);have r2:=C5.res.cell (i:=2) (by omega);have r3:=C5.res.cell (i:=3) (by omega);have r4:=C5.res.cell (i:=4) (by omega);have k0:=C5.res.frozen 0;have k1:=C5.res.frozen 1;have k2:=C5.res.frozen 2;have k3:=C5.res.frozen 3;have k4:=C5.res.frozen 4;have F:=(((((C5.store 4 (.slice a5 d.near.length p5)).storeRes 0 (.slice a1 d.sections.length p1)).storeRes 1 (.slice a2 d.lies.length p2)).storeRes 2 (.slice a3 d.flanks.length p3)).storeRes 3 (.slice a4 d.over.length p4)).storeRes 4 (.slice a5 d.near.length p5);have FF:=zaa F;clear C5 F;go_wp2;refine bodyPost_ret (v:=.agg #[.slice a1 d.sections.length p1,.slice a2 d.lies.length p2,.slice a3 d.flanks.length p3,.slice a4 d.over.length p4,.slice a5 d.near.length p5]) (by simp [results,Tryz.results133,go_sem,r0,r1,r2,r3,r4]) rfl ⟨_,_,_,_,_,rfl,FF.out.below,?_⟩;obtain ⟨⟨⟨⟨⟨-,m1⟩,m2⟩,m3⟩,m4⟩,m5⟩:=FF.out.made;have hq:∀ W b,Above (w.heap.size + 1 + 1 + 1) W b → zsq w W b:=fun W b hb=>⟨by have:=hb.1; omega,hb.2⟩;exact ⟨⟨m1.keep (zax _ _) (hq _),m2.keep (zax _ _) (hq _),m3.keep (zax _ _) (hq _),m4.keep (zax _ _) (hq _),m5.keep (zax _ _) (hq _)⟩,HCAP.out⟩
end Go.Proofs.YtdhinkgjiapigabGreatDoor
namespace Go.Proofs.YtdhinkgjiapigabGreatDoor
open Go.RowKit Go.Deep
end Go.Proofs.YtdhinkgjiapigabGreatDoor
namespace Go.Proofs.YtdhinkgjiapigabGreatDoor
open Go.RowKit Go.Deep
end Go.Proofs.YtdhinkgjiapigabGreatDoor
namespace Go.Proofs.YtdhinkgjiapigabGreatDoor
open Go.RowKit
end Go.Proofs.YtdhinkgjiapigabGreatDoor
namespace Go.Proofs.YtdhinkgjiapigabGreatDoor
open Go.RowKit Go.Deep
theorem But.drew {K:Nat → Prop} {a w:World} (h:But K a w):But K a w.drew:=h.call (Below.refl _ _).drew
theorem HeldStep.trans {w w1 w2:World} {bw N i:Nat} {f:Nat → Value} {b:Nat} {x y:HeldD} (h:HeldStep w w1 bw N i f b x)
  (k:∀ f' b',w1.rowIs bw 93 N f' → HeldO w1 f' i x b' → HeldStep w1 w2 bw N i f' b' y):HeldStep w w2 bw N i f b y:=by
 obtain ⟨e,f',b',hr,ho,hf,hb⟩:=h;obtain ⟨e2,f2,b2,hr2,ho2,hf2,hb2⟩:=k f' b' hr ho;refine ⟨?_,f2,b2,hr2,ho2,fun q hN hq=>(hf2 q hN hq).trans (hf q hN hq),?_⟩
 ·refine ⟨e2.os.trans e.os,e2.tape.trans e.tape,e2.output.trans e.output,Nat.le_trans e.size e2.size,fun c hc hk=>?_⟩;exact (e2.block c (Nat.lt_of_lt_of_le hc e.size) ⟨hk.1,by rcases hb with q | q; rw [q]; exact hk.2; omega⟩).trans (e.block c hc hk)
 ·have:=e.size;rcases hb2 with q | q
  ·rw [q]; exact hb
  ·exact .inr (by omega)
end Go.Proofs.YtdhinkgjiapigabGreatDoor
namespace Go.Proofs.YtdhinkgjiapigabGreatDoor
open Go.RowKit Go.Deep
theorem WayAt.call {m:Nat} {W W':World} {v0 v1 v2 v3 v4:Value} {d:WayD} (h:WayAt (Above m W) W v0 v1 v2 v3 v4 d) (hb:Below W.heap.size W W'):WayAt (Above m W') W' v0 v1 v2 v3 v4 d:=
 h.keep (za0 hb fun _ hb=>hb.2.1) fun _ hx=>hx.call hb
theorem WayAt.store {m:Nat} {W:World} {v0 v1 v2 v3 v4:Value} {d:WayD} (h:WayAt (Above m W) W v0 v1 v2 v3 v4 d) (a:Addr) (v:Value) (ha:a.block < m):WayAt (Above m (W.setCell a v)) (W.setCell a v) v0 v1 v2 v3 v4 d:=
 h.keep (zx8 _ _ _ fun b hb=>by have:=hb.1; omega) fun _ hx=>hx.store _ _ ha
theorem Bools.call {m:Nat} {W W':World} {v0:Value} {d:List Bool} (h:Bools (Above m W) W v0 d) (hb:Below W.heap.size W W'):Bools (Above m W') W' v0 d:=
 h.keep (za0 hb fun _ hb=>hb.2.1) fun _ hx=>hx.call hb
theorem Bools.store {m:Nat} {W:World} {v0:Value} {d:List Bool} (h:Bools (Above m W) W v0 d) (a:Addr) (v:Value) (ha:a.block < m):Bools (Above m (W.setCell a v)) (W.setCell a v) v0 d:=
 h.keep (zx8 _ _ _ fun b hb=>by have:=hb.1; omega) fun _ hx=>hx.store _ _ ha
def WayC (P:Nat → Prop) (w:World) (v0 v1 v2 v3 v4:Value) (d:WayD):Prop:=WayAt P w v0 v1 v2 v3 v4 d ∧ znt v0
theorem WayC.call {m:Nat} {W W':World} {v0 v1 v2 v3 v4:Value} {d:WayD} (h:WayC (Above m W) W v0 v1 v2 v3 v4 d) (hb:Below W.heap.size W W'):WayC (Above m W') W' v0 v1 v2 v3 v4 d:=⟨h.1.call hb,h.2⟩
theorem WayC.store {m:Nat} {W:World} {v0 v1 v2 v3 v4:Value} {d:WayD} (h:WayC (Above m W) W v0 v1 v2 v3 v4 d) (a:Addr) (v:Value) (ha:a.block < m):WayC (Above m (W.setCell a v)) (W.setCell a v) v0 v1 v2 v3 v4 d:=⟨h.1.store a v ha,h.2⟩
theorem WaysC.made {w wr:World} {l:List WayD} {n:Nat} {t:TypeId} {f:Nat → Value} (hn:l.length = n) (hrow:wr.rowIs w.heap.size t (n * 5) f)
  (hf:∀ j x,j < n → l[j]? = some x → WayC (Above (w.heap.size + 1) wr) wr (f (j * 5)) (f (j * 5 + 1)) (f (j * 5 + 2)) (f (j * 5 + 3)) (f (j * 5 + 4)) x) (hlt:w.heap.size < wr.heap.size):WaysC (zsq w wr) wr (.slice (some ⟨w.heap.size,0,none⟩) n n) l:=by
 subst hn;refine ⟨_,_,rfl,.inr ⟨w.heap.size,0,rfl,⟨Nat.le_refl _,hlt,hrow.frozen⟩,fun i hi x hx=>?_⟩⟩;rw [Nat.zero_add,hrow.cell (by omega),hrow.cell (by omega),hrow.cell (by omega),hrow.cell (by omega),hrow.cell (by omega)];exact ⟨_,_,_,_,_,⟨(hf i x hi hx).1.keep (zax _ _) fun b hb=>⟨by have:=hb.1; omega,hb.2⟩,(hf i x hi hx).2⟩,rfl,rfl,rfl,rfl,rfl⟩
theorem Rows2.made {w wr:World} {l:List (List Bool)} {n:Nat} {t:TypeId} {f:Nat → Value} (hn:l.length = n) (hrow:wr.rowIs w.heap.size t n f)
  (hf:∀ j x,j < n → l[j]? = some x → Bools (Above (w.heap.size + 1) wr) wr (f j) x) (hlt:w.heap.size < wr.heap.size):Rows2 (zsq w wr) wr (.slice (some ⟨w.heap.size,0,none⟩) n n) l:=by
 subst hn;refine ⟨_,_,rfl,.inr ⟨w.heap.size,0,rfl,⟨Nat.le_refl _,hlt,hrow.frozen⟩,fun i hi x hx=>?_⟩⟩;rw [Nat.zero_add,hrow.cell hi];exact ⟨_,(hf i x hi hx).keep (zax _ _) fun b hb=>⟨by have:=hb.1; omega,hb.2⟩,rfl⟩
theorem ways_step {w W:World} {l:List WayD} {n k:Nat} {t:TypeId} {f:Nat → Value} {x:WayD} {u0 u1 u2 u3 u4:Value} (hbl:Below w.heap.size w W) (hrow:W.rowIs w.heap.size t (n * 5) f) (hsz:w.heap.size < W.heap.size)
  (hf:∀ j y,j < k → l[j]? = some y → WayC (Above (w.heap.size + 1) W) W (f (j * 5)) (f (j * 5 + 1)) (f (j * 5 + 2)) (f (j * 5 + 3)) (f (j * 5 + 4)) y)
  (hu:WayC (Above (w.heap.size + 1) W) W u0 u1 u2 u3 u4 x) (hx:l[k]? = some x) (W':World)
  (hW':W' = ((((W.setCell ⟨w.heap.size,k * 5,none⟩ u0).setCell ⟨w.heap.size,k * 5 + 1,none⟩ u1).setCell ⟨w.heap.size,k * 5 + 2,none⟩ u2).setCell ⟨w.heap.size,k * 5 + 3,none⟩ u3).setCell ⟨w.heap.size,k * 5 + 4,none⟩ u4) :
  ∃ f',Below w.heap.size w W' ∧ W'.rowIs w.heap.size t (n * 5) f' ∧ w.heap.size < W'.heap.size ∧ ∀ j y,j < k + 1 → l[j]? = some y → WayC (Above (w.heap.size + 1) W') W' (f' (j * 5)) (f' (j * 5 + 1)) (f' (j * 5 + 2)) (f' (j * 5 + 3)) (f' (j * 5 + 4)) y:=by
 subst hW';refine ⟨_,((((hbl.setCell (Nat.le_refl _) _).setCell (Nat.le_refl _) _).setCell (Nat.le_refl _) _).setCell (Nat.le_refl _) _).setCell (Nat.le_refl _) _,((((hrow.set (k * 5) _).set (k * 5 + 1) _).set (k * 5 + 2) _).set (k * 5 + 3) _).set (k * 5 + 4) _,by simpa [World.setCell] using hsz,fun j y hj hy=>?_⟩;have hlt:∀ o:Nat,(⟨w.heap.size,o,none⟩:Addr).block < w.heap.size + 1:=fun o=>Nat.lt_succ_self _
 have key:WayC (Above (w.heap.size + 1) W) W (if j * 5 = k * 5 then u0 else f (j * 5)) (if j * 5 = k * 5 then u1 else f (j * 5 + 1)) (if j * 5 = k * 5 then u2 else f (j * 5 + 2)) (if j * 5 = k * 5 then u3 else f (j * 5 + 3)) (if j * 5 = k * 5 then u4 else f (j * 5 + 4)) y:=by
  by_cases e:j = k
  ·subst e; rw [hx] at hy; cases hy;simpa using hu
  ·have e':¬ j * 5 = k * 5:=by omega
   simp only [if_neg e'];exact hf j y (by omega) hy
 have key5:=((((key.store ⟨w.heap.size,k * 5,none⟩ u0 (hlt _)).store ⟨w.heap.size,k * 5 + 1,none⟩ u1 (hlt _)).store ⟨w.heap.size,k * 5 + 2,none⟩ u2 (hlt _)).store ⟨w.heap.size,k * 5 + 3,none⟩ u3 (hlt _)).store ⟨w.heap.size,k * 5 + 4,none⟩ u4 (hlt _)
 have a0:¬ j * 5 = k * 5 + 1:=by omega
 have a1:¬ j * 5 = k * 5 + 2:=by omega
 have a2:¬ j * 5 = k * 5 + 3:=by omega
 have a3:¬ j * 5 = k * 5 + 4:=by omega
 have b0:¬ j * 5 + 1 = k * 5:=by omega
 have b1:¬ j * 5 + 1 = k * 5 + 2:=by omega
 have b2:¬ j * 5 + 1 = k * 5 + 3:=by omega
 have b3:¬ j * 5 + 1 = k * 5 + 4:=by omega
 have c0:¬ j * 5 + 2 = k * 5:=by omega
 have c1:¬ j * 5 + 2 = k * 5 + 1:=by omega
 have c2:¬ j * 5 + 2 = k * 5 + 3:=by omega
 have c3:¬ j * 5 + 2 = k * 5 + 4:=by omega
 have d0:¬ j * 5 + 3 = k * 5:=by omega
 have d1:¬ j * 5 + 3 = k * 5 + 1:=by omega
 have d2:¬ j * 5 + 3 = k * 5 + 2:=by omega
 have d3:¬ j * 5 + 3 = k * 5 + 4:=by omega
 have g0:¬ j * 5 + 4 = k * 5:=by omega
 have g1:¬ j * 5 + 4 = k * 5 + 1:=by omega
 have g2:¬ j * 5 + 4 = k * 5 + 2:=by omega
 have g3:¬ j * 5 + 4 = k * 5 + 3:=by omega
 have p1:(j * 5 + 1 = k * 5 + 1) = (j * 5 = k * 5):=by simp
 have p2:(j * 5 + 2 = k * 5 + 2) = (j * 5 = k * 5):=by simp
 have p3:(j * 5 + 3 = k * 5 + 3) = (j * 5 = k * 5):=by simp
 have p4:(j * 5 + 4 = k * 5 + 4) = (j * 5 = k * 5):=by simp
 simp only [if_neg a0,if_neg a1,if_neg a2,if_neg a3,if_neg b0,if_neg b1,if_neg b2,if_neg b3,if_neg c0,if_neg c1,if_neg c2,if_neg c3,if_neg d0,if_neg d1,if_neg d2,if_neg d3,if_neg g0,if_neg g1,if_neg g2,if_neg g3,p1,p2,p3,p4];exact key5
set_option maxHeartbeats 1000000 in
theorem zz4 (v:Value) (l:List WayD) (w:World) (hv:Ways (In w) w v l) (hn:l.length ≤ 1048576) (hl:∀ x ∈ l,x.Small 1048576) :
  Calls Tryz.prog 71 #[v] w fun e w'=>∃ v',e = .returned v' ∧ Below w.heap.size w w' ∧ WaysC (zsq w w') w' v' l:=by
 obtain ⟨a,cap,rfl,hc⟩:=hv;generalize hn':l.length = n at *;have Hn:Hid (l.length = n):=hn';have HC:=zaa hc;have HL:=zaa hl;clear hc hn' hl;have hmk:=zx2 (P:=Tryz.prog) 35 122 _ 5 120 Tryz.underlying35 Tryz.infoWay n (by omega) (by omega);go_enter Tryz.func71,Tryz.ntmps71;go_wp2
 go_loopw [4] (fun i wr=>∃ (k:Nat) (f:Nat → Value),k ≤ n ∧ i = .int .i64 k ∧ Below w.heap.size w wr ∧ wr.rowIs w.heap.size 122 (n * 5) f ∧ w.heap.size < wr.heap.size ∧ (∀ j x,j < k → l[j]? = some x → WayC (Above (w.heap.size + 1) wr) wr (f (j * 5)) (f (j * 5 + 1)) (f (j * 5 + 2)) (f (j * 5 + 3)) (f (j * 5 + 4)) x)) (fun i _=>n - (intOf i).toNat)
 case atStart=>exact ⟨0,_,Nat.zero_le _,rfl,(Below.refl _ _).alloc (Nat.le_refl _) _,zx1 w _ (n * 5) _,by simp,fun j x hj=>by omega⟩
 case round=>
  obtain ⟨k,f,hk,rfl,hbl,hrow,hsz,hf⟩:=hrel;have HF:=zaa hf;clear hf hmk;by_cases hlt:k < n
  ·obtain h0 | ⟨b,off,rfl,hb0,hc⟩:=HC.out
   ·omega
   obtain ⟨x,hx⟩:=zac l Hn hlt;obtain ⟨v0,v1,v2,v3,v4,hw,g0,g1,g2,g3,g4⟩:=hc k hlt x hx;have hw2:=hw.keep (In.keep hbl).1 (In.keep hbl).2;rw [← hbl.cell (p:=⟨b,_,none⟩) hb0] at g0 g1 g2 g3 g4;have hsx:=HL.out x (List.mem_of_getElem? hx);have Hx:=zaa hx;clear hx hc hw
   go_wp2_with fail
   refine (toWayC_any _ _ _ _ _ x wr hw2 hsx).mono ?_;rintro e w1 ⟨u0,u1,u2,u3,u4,rfl,hb1,hu,ncap⟩;have hu2:WayC (Above (w.heap.size + 1) w1) w1 u0 u1 u2 u3 u4 x:=⟨hu.keep (zax _ _) fun y hy=>⟨by have:=hy.1; omega,hy.2⟩,ncap⟩;clear ncap;obtain ⟨⟨a0,c0,rfl,-⟩,⟨a1,c1,rfl,-⟩,⟨a2,c2,rfl,-⟩,⟨a3,c3,rfl,-⟩,⟨a4,c4,rfl,-⟩⟩:=hu;have hbl1:Below w.heap.size w w1:=hbl.trans (hb1.mono hbl.size);have hrow1:=zal hrow hb1;have q0:=hrow1.cell (i:=k * 5) (by omega);have q1:=hrow1.cell (i:=k * 5 + 1) (by omega);have q2:=hrow1.cell (i:=k * 5 + 2) (by omega);have q3:=hrow1.cell (i:=k * 5 + 3) (by omega);have q4:=hrow1.cell (i:=k * 5 + 4) (by omega);have r0:=hrow1.frozen (k * 5);have r1:=hrow1.frozen (k * 5 + 1);have r2:=hrow1.frozen (k * 5 + 2);have r3:=hrow1.frozen (k * 5 + 3);have r4:=hrow1.frozen (k * 5 + 4);have hsz1:w.heap.size < w1.heap.size:=Nat.lt_of_lt_of_le hsz hb1.size;clear g0 g1 g2 g3 g4 hw2 hsx;have hfin:∀ j y,j < k → l[j]? = some y → WayC (Above (w.heap.size + 1) w1) w1 (f (j * 5)) (f (j * 5 + 1)) (f (j * 5 + 2)) (f (j * 5 + 3)) (f (j * 5 + 4)) y:=fun j y hj hy=>(HF.out j y hj hy).call hb1;have HF2:=zaa hfin;clear hfin HF;go_wp2;go_roundw
   case rel=>
    obtain ⟨f',t1,t2,t3,t4⟩:=ways_step hbl1 hrow1 hsz1 HF2.out hu2 Hx.out _ rfl;exact ⟨k + 1,f',by omega,by go_num,t1,t2,t3,t4⟩
   case measure=>simp [intOf]; omega
  ·go_wp2;go_ret;exact ⟨.slice (some ⟨w.heap.size,0,none⟩) n n,rfl,hbl,WaysC.made Hn.out hrow (fun j x hj=>HF.out j x (by omega)) hsz⟩
set_option maxHeartbeats 1000000 in
theorem zzl (v:Value) (l:List (List Bool)) (w:World) (hv:Rows2 (In w) w v l) (hn:l.length ≤ 1048576) (hl:∀ x ∈ l,x.length ≤ 1048576) :
  Calls Tryz.prog 72 #[v] w fun e w'=>∃ v',e = .returned v' ∧ Below w.heap.size w w' ∧ Rows2 (zsq w w') w' v' l:=by
 obtain ⟨a,cap,rfl,hc⟩:=hv;generalize hn':l.length = n at *;have Hn:Hid (l.length = n):=hn';have HC:=zaa hc;have HL:=zaa hl;clear hc hn' hl;have hmk:=run_make_row' (P:=Tryz.prog) 24 27 (.slice none 0 0) 24 Tryz.underlying24 Tryz.infoBools rfl .i64 .i64 n (by omega) (by omega);go_enter Tryz.func72,Tryz.ntmps72;go_wp2
 go_loopw [4] (fun i wr=>∃ (k:Nat) (f:Nat → Value),k ≤ n ∧ i = .int .i64 k ∧ Below w.heap.size w wr ∧ wr.rowIs w.heap.size 27 n f ∧ w.heap.size < wr.heap.size ∧ (∀ j x,j < k → l[j]? = some x → Bools (Above (w.heap.size + 1) wr) wr (f j) x)) (fun i _=>n - (intOf i).toNat)
 case atStart=>exact ⟨0,_,Nat.zero_le _,rfl,(Below.refl _ _).alloc (Nat.le_refl _) _,World.rowIs_made w _ n _,by simp,fun j x hj=>by omega⟩
 case round=>
  obtain ⟨k,f,hk,rfl,hbl,hrow,hsz,hf⟩:=hrel;have HF:=zaa hf;clear hf hmk;by_cases hlt:k < n
  ·obtain h0 | ⟨b,off,rfl,hb0,hc⟩:=HC.out
   ·omega
   obtain ⟨x,hx⟩:=zac l Hn hlt;obtain ⟨v0,hw,g0⟩:=hc k hlt x hx;have hw2:=hw.keep (In.keep hbl).1 (In.keep hbl).2;rw [← hbl.cell (p:=⟨b,_,none⟩) hb0] at g0;have hsx:=HL.out x (List.mem_of_getElem? hx);have Hx:=zaa hx;clear hx hc hw
   go_wp2_with fail
   refine (zye _ x wr hw2 hsx).mono ?_;rintro e w1 ⟨u0,rfl,hb1,hu⟩;have hu2:Bools (Above (w.heap.size + 1) w1) w1 u0 x:=hu.keep (zax _ _) fun y hy=>⟨by have:=hy.1; omega,hy.2⟩;obtain ⟨a0,c0,rfl,-⟩:=hu;have hbl1:Below w.heap.size w w1:=hbl.trans (hb1.mono hbl.size);have hrow1:=zal hrow hb1;have q0:=hrow1.cell (i:=k) (by omega);have r0:=hrow1.frozen k;have hsz1:w.heap.size < w1.heap.size:=Nat.lt_of_lt_of_le hsz hb1.size;clear g0 hw2 hsx;have hfin:∀ j y,j < k → l[j]? = some y → Bools (Above (w.heap.size + 1) w1) w1 (f j) y:=fun j y hj hy=>(HF.out j y hj hy).call hb1;have HF2:=zaa hfin;clear hfin HF;go_wp2;go_roundw
   case rel=>
    refine ⟨k + 1,_,by omega,by go_num,hbl1.setCell (Nat.le_refl _) _,hrow1.set k _,by simpa [World.setCell] using hsz1,fun j y hj hy=>?_⟩;refine Bools.store ?_ _ _ (Nat.lt_succ_self _);by_cases e:j = k
    ·subst e; rw [Hx.out] at hy; cases hy;rw [if_pos rfl];exact hu2
    ·rw [if_neg e];exact HF2.out j y (by omega) hy
   case measure=>simp [intOf]; omega
  ·go_wp2;go_ret;exact ⟨.slice (some ⟨w.heap.size,0,none⟩) n n,rfl,hbl,Rows2.made Hn.out hrow (fun j x hj=>HF.out j x (by omega)) hsz⟩
set_option maxHeartbeats 2000000 in
theorem zyv (s h:Int) (v1 v2 v3:Value) (d:PlanD) (w:World) (hv:PlanAt (In w) w v1 v2 v3 d) (hs:d.Small 1048576) :
  Calls Tryz.prog 16 #[.agg #[.int .i64 s,v1,v2,v3,.int .i64 h]] w fun e w'=>∃ u1 u2 u3,e = .returned (.agg #[.int .i64 s,u1,u2,u3,.int .i64 h]) ∧ Below w.heap.size w w' ∧ PlanAt (zsq w w') w' u1 u2 u3 d ∧ WaysC (zsq w w') w' u2 d.ways:=by
 have C0:=Copy.start w 26 37 (.int .i64 s) v1 v2 v3 (.int .i64 h) (.int .i64 0) (.slice none 0 0) (.slice none 0 0) (.slice none 0 0) (.int .i64 0) (.int .i64 s) (.slice none 0 0) (.slice none 0 0) (.slice none 0 0) (.int .i64 0);have hk:∀ {W D f g},Copy w 26 37 (fun i=>(#[.int .i64 s,v1,v2,v3,.int .i64 h]:Array Value)[i]!) D W f g → PlanAt (In W) W v1 v2 v3 d:=fun h=>hv.keep (In.keep h.below).1 (In.keep h.below).2;obtain ⟨hs1,hs2,hs3,hs4,hs5⟩:=hs;have H3:=zaa hs3;have H5:=zaa hs5;clear hv hs3 hs5;go_enter Tryz.func16,Tryz.ntmps16
 go_wp2_with fail
 refine (zym v1 d.switches _ (hk C0).1 hs1).mono ?_;rintro e w1 ⟨u0,rfl,hb1,n1⟩;obtain ⟨a1,p1,rfl⟩:=Sl.size n1;have C1:=(C0.call hb1).add C0 (zyg _ _) n1;clear C0 n1 hb1;obtain ⟨-,-,c1,-,-⟩:=C1.boxes;have o1:=C1.out.cell (i:=1) (by omega);have f1:=C1.out.frozen 1;have S1:=C1.store 1 (.slice a1 d.switches.length p1)
 go_wp2_with fail
 refine (zz4 v2 d.ways _ (hk S1).2.1 hs2 H3.out).mono ?_;clear c1 o1 f1 C1;rintro e w2 ⟨u1,rfl,hb2,n2⟩;obtain ⟨a2,p2,rfl⟩:=Sl.size n2;have C2:=(S1.call hb2).add S1 (keep_waysC _ _) n2;clear S1 n2 hb2;obtain ⟨-,-,-,c1,-⟩:=C2.boxes;have o1:=C2.out.cell (i:=2) (by omega);have f1:=C2.out.frozen 2;have S2:=C2.store 2 (.slice a2 d.ways.length p2)
 go_wp2_with fail
 refine (zzl v3 d.bars _ (hk S2).2.2 hs4 H5.out).mono ?_;clear c1 o1 f1 C2;rintro e w3 ⟨u2,rfl,hb3,n3⟩;obtain ⟨a3,p3,rfl⟩:=Sl.size n3;have C5:=(S2.call hb3).add S2 (keep_rows _ _) n3;clear S2 n3 hb3;obtain ⟨-,-,-,-,c1⟩:=C5.boxes
 have o0:w3.cell? ⟨w.heap.size + 1 + 1,0,none⟩ = some (.int .i64 s):=by simpa using C5.out.cell (i:=0) (by omega)
 have o1:w3.cell? ⟨w.heap.size + 1 + 1,1,none⟩ = some (.slice a1 d.switches.length p1):=by simpa using C5.out.cell (i:=1) (by omega)
 have o2:w3.cell? ⟨w.heap.size + 1 + 1,2,none⟩ = some (.slice a2 d.ways.length p2):=by simpa using C5.out.cell (i:=2) (by omega)
 have o3:=C5.out.cell (i:=3) (by omega);have f3:=C5.out.frozen 3;have o4:=C5.out.cell (i:=4) (by omega);have f4:=C5.out.frozen 4;have r0:=C5.res.cell (i:=0) (by omega);have r1:=C5.res.cell (i:=1) (by omega);have r2:=C5.res.cell (i:=2) (by omega);have r3:=C5.res.cell (i:=3) (by omega);have r4:=C5.res.cell (i:=4) (by omega);have k0:=C5.res.frozen 0;have k1:=C5.res.frozen 1;have k2:=C5.res.frozen 2;have k3:=C5.res.frozen 3;have k4:=C5.res.frozen 4;have F:=((((((C5.store 3 (.slice a3 d.bars.length p3)).store 4 (.int .i64 h)).storeRes 0 (.int .i64 s)).storeRes 1 (.slice a1 d.switches.length p1)).storeRes 2 (.slice a2 d.ways.length p2)).storeRes 3 (.slice a3 d.bars.length p3)).storeRes 4 (.int .i64 h);have FF:=zaa F;clear C5 F;go_wp2;refine bodyPost_ret (v:=.agg #[.int .i64 s,.slice a1 d.switches.length p1,.slice a2 d.ways.length p2,.slice a3 d.bars.length p3,.int .i64 h]) (by simp [results,Tryz.results16,go_sem,r0,r1,r2,r3,r4]) rfl ⟨_,_,_,rfl,FF.out.below,?_⟩;obtain ⟨⟨⟨-,m1⟩,m2⟩,m3⟩:=FF.out.made;have hq:∀ W b,Above (w.heap.size + 1 + 1 + 1) W b → zsq w W b:=fun W b hb=>⟨by have:=hb.1; omega,hb.2⟩;exact ⟨⟨m1.keep (zax _ _) (hq _),m2.ways.keep (zax _ _) (hq _),m3.keep (zax _ _) (hq _)⟩,m2.keep (zax _ _) (hq _)⟩
theorem zy3 (s h:Int) (v1 v2 v3:Value) (d:PlanD) (w:World) (hv:PlanAt (In w) w v1 v2 v3 d) (hs:d.Small 1048576) :
  Calls Tryz.prog 16 #[.agg #[.int .i64 s,v1,v2,v3,.int .i64 h]] w fun e w'=>∃ u1 u2 u3,e = .returned (.agg #[.int .i64 s,u1,u2,u3,.int .i64 h]) ∧ Below w.heap.size w w' ∧ PlanAt (zsq w w') w' u1 u2 u3 d:=
 (zyv s h v1 v2 v3 d w hv hs).mono fun _ _ ⟨u1,u2,u3,h1,h2,h3,_⟩=>⟨u1,u2,u3,h1,h2,h3⟩
end Go.Proofs.YtdhinkgjiapigabGreatDoor
namespace Go.Proofs.YtdhinkgjiapigabGreatDoor
open Go.RowKit Go.Deep
structure CopyK (w:World) (tb tr:TypeId) (k:Nat) (box:Nat → Value) (D:Dat) (W:World) (f g:Nat → Value):Prop where
 below:Below w.heap.size w W
 box:W.rowIs w.heap.size tb k box
 res:W.rowIs (w.heap.size + 1) tr k g
 out:W.rowIs (w.heap.size + 1 + 1) tr k f
 keep:Keepable D
 made:D (Above (w.heap.size + 1 + 1 + 1) W) W
theorem CopyK.call {w:World} {tb tr:TypeId} {k:Nat} {box:Nat → Value} {D:Dat} {W W':World} {f g:Nat → Value} (h:CopyK w tb tr k box D W f g) (hb:Below W.heap.size W W'):CopyK w tb tr k box D W' f g:=
 ⟨h.below.trans (hb.mono h.below.size),zal h.box hb,zal h.res hb,zal h.out hb,h.keep,h.keep _ _ _ _ h.made (za0 hb fun _ hb=>hb.2.1) fun _ hx=>hx.call hb⟩
theorem CopyK.store {w:World} {tb tr:TypeId} {k:Nat} {box:Nat → Value} {D:Dat} {W:World} {f g:Nat → Value} (h:CopyK w tb tr k box D W f g) (i:Nat) (v:Value):CopyK w tb tr k box D (W.setCell ⟨w.heap.size + 1 + 1,i,none⟩ v) (fun j=>if j = i then v else f j) g:=
 ⟨h.below.setCell (by show w.heap.size ≤ w.heap.size + 1 + 1; omega) _,h.box.setOther (by show w.heap.size ≠ w.heap.size + 1 + 1; omega) _,h.res.setOther (by show w.heap.size + 1 ≠ w.heap.size + 1 + 1; omega) _,h.out.set i v,h.keep,
  h.keep _ _ _ _ h.made (zx8 _ _ _ fun b hb=>by have:=hb.1; show b ≠ w.heap.size + 1 + 1; omega) fun _ hx=>hx.store _ _ (by show _ < w.heap.size + 1 + 1 + 1; simp only []; omega)⟩
theorem CopyK.storeRes {w:World} {tb tr:TypeId} {k:Nat} {box:Nat → Value} {D:Dat} {W:World} {f g:Nat → Value} (h:CopyK w tb tr k box D W f g) (i:Nat) (v:Value):CopyK w tb tr k box D (W.setCell ⟨w.heap.size + 1,i,none⟩ v) f (fun j=>if j = i then v else g j):=
 ⟨h.below.setCell (by show w.heap.size ≤ w.heap.size + 1; omega) _,h.box.setOther (by show w.heap.size ≠ w.heap.size + 1; omega) _,h.res.set i v,h.out.setOther (by show w.heap.size + 1 + 1 ≠ w.heap.size + 1; omega) _,h.keep,
  h.keep _ _ _ _ h.made (zx8 _ _ _ fun b hb=>by have:=hb.1; show b ≠ w.heap.size + 1; omega) fun _ hx=>hx.store _ _ (by show _ < w.heap.size + 1 + 1 + 1; simp only []; omega)⟩
theorem CopyK.add {w:World} {tb tr:TypeId} {k:Nat} {box:Nat → Value} {D E:Dat} {V W:World} {f g f' g':Nat → Value} (h:CopyK w tb tr k box D W f g) (hV:CopyK w tb tr k box D V f' g') (hk:Keepable E) (he:E (zsq V W) W):CopyK w tb tr k box (fun P W=>D P W ∧ E P W) W f g:=
 ⟨h.below,h.box,h.res,h.out,h.keep.and hk,h.made,hk _ _ _ _ he (zax _ _) fun b hb=>⟨by have:=hV.out.lt; have:=hb.1; omega,hb.2⟩⟩
theorem CopyK.start (w:World) (tb tr:TypeId) (k:Nat) (bs zs ys:Array Value) (hb:bs.size = k) (hz:zs.size = k) (hy:ys.size = k) :
  CopyK w tb tr k (fun i=>bs[i]!) (fun _ _=>True) (((w.alloc (.cells bs tb)).alloc (.cells zs tr)).alloc (.cells ys tr)) (fun i=>ys[i]!) (fun i=>zs[i]!):=by
 have B:=zbs w tb tr tr bs zs ys;have r0:=B.row 0 tb bs rfl;have r1:=B.row 1 tr zs rfl;have r2:=B.row 2 tr ys rfl;rw [hb] at r0;rw [hz] at r1;rw [hy] at r2;exact ⟨B.below,r0,r1,r2,zst,trivial⟩
end Go.Proofs.YtdhinkgjiapigabGreatDoor
namespace Go.Proofs.YtdhinkgjiapigabGreatDoor
open Go.RowKit Go.Deep
def HeldIn (m:Nat) (W:World) (f:Nat → Value) (j:Nat) (x:HeldD):Prop:=
 f (j * 5) = .int .i64 x.state ∧ f (j * 5 + 1) = .int .i64 x.gone ∧ Bools (Above m W) W (f (j * 5 + 2)) x.been ∧ f (j * 5 + 3) = .bool x.shown ∧ f (j * 5 + 4) = .int .i64 x.timer
theorem HeldIn.call {m:Nat} {W W':World} {f:Nat → Value} {j:Nat} {x:HeldD} (h:HeldIn m W f j x) (hb:Below W.heap.size W W'):HeldIn m W' f j x:=
 ⟨h.1,h.2.1,h.2.2.1.call hb,h.2.2.2⟩
theorem Helds.made {w wr:World} {l:List HeldD} {n:Nat} {t:TypeId} {f:Nat → Value} (hn:l.length = n) (hrow:wr.rowIs w.heap.size t (n * 5) f)
  (hf:∀ j x,j < n → l[j]? = some x → HeldIn (w.heap.size + 1) wr f j x) (hlt:w.heap.size < wr.heap.size):Helds (zsq w wr) wr (.slice (some ⟨w.heap.size,0,none⟩) n n) l:=by
 subst hn;refine ⟨_,_,rfl,.inr ⟨w.heap.size,0,rfl,⟨Nat.le_refl _,hlt,hrow.frozen⟩,fun i hi x hx=>?_⟩⟩;obtain ⟨h0,h1,h2,h3,h4⟩:=hf i x hi hx;rw [Nat.zero_add,hrow.cell (by omega),hrow.cell (by omega),hrow.cell (by omega),hrow.cell (by omega),hrow.cell (by omega),h0,h1,h3,h4];exact ⟨_,h2.keep (zax _ _) fun b hb=>⟨by have:=hb.1; omega,hb.2⟩,rfl,rfl,rfl,rfl,rfl⟩
end Go.Proofs.YtdhinkgjiapigabGreatDoor
namespace Go.Proofs.YtdhinkgjiapigabGreatDoor
open Go.RowKit
def SzOk (left r:Int) (small:Prop):Prop:=r = -1 ∨ (0 ≤ r ∧ r ≤ left ∧ small)
set_option maxHeartbeats 400000 in
theorem zx9 (a:Option Addr) (n cap:Nat) (left:Int) (w:World) (hn:n ≤ 9223372036854775807) (h0:0 ≤ left) (h1:left ≤ 1048576) :
  Calls Tryz.prog 58 #[.slice a n cap,.int .i64 left] w fun e w'=>∃ r,e = .returned (.int .i64 r) ∧ w' = w ∧ SzOk left r (n ≤ 1048576):=by
 go_enter Tryz.func58,Tryz.ntmps58;go_wp2
 ·go_ret;exact ⟨_,rfl,rfl,.inl rfl⟩
 ·go_ret;exact ⟨_,rfl,rfl,.inr ⟨by omega,by omega,by omega⟩⟩
set_option maxHeartbeats 400000 in
theorem zy1 (a:Option Addr) (n cap:Nat) (left:Int) (w:World) (hn:n ≤ 9223372036854775807) (h0:0 ≤ left) (h1:left ≤ 1048576) :
  Calls Tryz.prog 173 #[.slice a n cap,.int .i64 left] w fun e w'=>∃ r,e = .returned (.int .i64 r) ∧ w' = w ∧ SzOk left r (n ≤ 1048576):=by
 go_enter Tryz.func173,Tryz.ntmps173;go_wp2
 ·go_ret;exact ⟨_,rfl,rfl,.inl rfl⟩
 ·go_ret;exact ⟨_,rfl,rfl,.inr ⟨by omega,by omega,by omega⟩⟩
set_option maxHeartbeats 400000 in
theorem zyd (a:Option Addr) (n cap:Nat) (left:Int) (w:World) (hn:n ≤ 9223372036854775807) (h0:0 ≤ left) (h1:left ≤ 1048576) :
  Calls Tryz.prog 61 #[.slice a n cap,.int .i64 left] w fun e w'=>∃ r,e = .returned (.int .i64 r) ∧ w' = w ∧ SzOk left r (n ≤ 1048576):=by
 go_enter Tryz.func61,Tryz.ntmps61;go_wp2
 ·go_ret;exact ⟨_,rfl,rfl,.inl rfl⟩
 ·go_ret;exact ⟨_,rfl,rfl,.inr ⟨by omega,by omega,by omega⟩⟩
set_option maxHeartbeats 400000 in
theorem szWay_any (a0 a1 a2 a3 a4:Option Addr) (n0 n1 n2 n3 n4 c0 c1 c2 c3 c4:Nat) (left:Int) (w:World)
  (k0:n0 ≤ 9223372036854775807) (k1:n1 ≤ 9223372036854775807) (k2:n2 ≤ 9223372036854775807) (k3:n3 ≤ 9223372036854775807) (k4:n4 ≤ 9223372036854775807) (h0:0 ≤ left) (h1:left ≤ 1048576) :
  Calls Tryz.prog 129 #[.agg #[.slice a0 n0 c0,.slice a1 n1 c1,.slice a2 n2 c2,.slice a3 n3 c3,.slice a4 n4 c4],.int .i64 left] w
   fun e w'=>∃ r,e = .returned (.int .i64 r) ∧ Below w.heap.size w w' ∧ SzOk left r (n0 ≤ 1048576 ∧ n1 ≤ 1048576 ∧ n2 ≤ 1048576 ∧ n3 ≤ 1048576 ∧ n4 ≤ 1048576):=by
 have hb:∀ o,Below w.heap.size w (w.alloc o):=fun o=>(Below.refl _ _).alloc (Nat.le_refl _) _;go_enter Tryz.func129,Tryz.ntmps129
 go_wp2_with fail
 refine (zx9 _ _ _ _ _ k0 h0 h1).mono ?_;rintro e w' ⟨r0,rfl,rfl,hr0 | ⟨p0,q0,s0⟩⟩
 ·subst hr0;go_wp2;go_ret;exact ⟨_,rfl,hb _,.inl rfl⟩
 go_wp2_with fail
 refine (zy1 _ _ _ _ _ k1 p0 (by omega)).mono ?_;rintro e w' ⟨r1,rfl,rfl,hr0 | ⟨p1,q1,s1⟩⟩
 ·subst hr0;go_wp2;go_ret;exact ⟨_,rfl,hb _,.inl rfl⟩
 go_wp2_with fail
 refine (zy1 _ _ _ _ _ k2 p1 (by omega)).mono ?_;rintro e w' ⟨r2,rfl,rfl,hr0 | ⟨p2,q2,s2⟩⟩
 ·subst hr0;go_wp2;go_ret;exact ⟨_,rfl,hb _,.inl rfl⟩
 go_wp2_with fail
 refine (zx9 _ _ _ _ _ k3 p2 (by omega)).mono ?_;rintro e w' ⟨r3,rfl,rfl,hr0 | ⟨p3,q3,s3⟩⟩
 ·subst hr0;go_wp2;go_ret;exact ⟨_,rfl,hb _,.inl rfl⟩
 go_wp2_with fail
 refine (zx9 _ _ _ _ _ k4 p3 (by omega)).mono ?_;rintro e w' ⟨r4,rfl,rfl,hr0 | ⟨p4,q4,s4⟩⟩
 ·subst hr0;go_wp2;go_ret;exact ⟨_,rfl,hb _,.inl rfl⟩
 go_wp2;go_ret;exact ⟨_,rfl,hb _,.inr ⟨p4,by omega,s0,s1,s2,s3,s4⟩⟩
end Go.Proofs.YtdhinkgjiapigabGreatDoor
namespace Go.Proofs.YtdhinkgjiapigabGreatDoor
open Go.RowKit
theorem zyl {α:Type} {l:List α} {k:Nat} {x:α} {S:α → Prop} (h:∀ j y,j < k → l[j]? = some y → S y) (hx:l[k]? = some x) (hs:S x):∀ j y,j < k + 1 → l[j]? = some y → S y:=by
 intro j y hj hy;by_cases e:j = k
 ·subst e; rw [hx] at hy; exact Option.some.inj hy ▸ hs
 ·exact h j y (by omega) hy
theorem zyt {α:Type} {l:List α} {k n:Nat} {S:α → Prop} (h:∀ j y,j < k → l[j]? = some y → S y) (hn:l.length = n) (hk:n ≤ k):∀ x ∈ l,S x:=by
 intro x hx;obtain ⟨j,hj,rfl⟩:=List.getElem_of_mem hx;exact h j _ (by omega) (List.getElem?_eq_getElem hj)
set_option maxHeartbeats 1000000 in
theorem szWayS_any (v:Value) (l:List WayD) (left:Int) (w:World) (hv:Ways (In w) w v l)
  (hn:l.length ≤ 9223372036854775807) (hl:∀ x ∈ l,x.Small 9223372036854775807) (h0:0 ≤ left) (h1:left ≤ 1048576) :
  Calls Tryz.prog 59 #[v,.int .i64 left] w fun e w'=>∃ r,e = .returned (.int .i64 r) ∧ Below w.heap.size w w' ∧ SzOk left r (l.length ≤ 1048576 ∧ ∀ x ∈ l,x.Small 1048576):=by
 have HL:=zaa hl;clear hl;obtain ⟨a,cap,rfl,hz | ⟨b,off,rfl,hb0,hc⟩⟩:=hv
 ·have hl0:l = []:=List.length_eq_zero_iff.1 hz;subst hl0;go_enter Tryz.func59,Tryz.ntmps59;go_wp2
  go_loopw [1,5] (fun lf i wr=>i = .int .i64 0 ∧ lf = .int .i64 left ∧ wr = w) (fun _ i _=>0)
  case atStart=>exact ⟨rfl,by simp,rfl⟩
  case round=>
   obtain ⟨rfl,rfl,rfl⟩:=hrel;go_wp2;go_ret;exact ⟨_,rfl,Below.refl _ _,.inr ⟨h0,Int.le_refl _,by simp⟩⟩
 generalize hn':l.length = n at *;have Hn:Hid (l.length = n):=hn';have HC:=zaa hc;clear hc hn';go_enter Tryz.func59,Tryz.ntmps59;go_wp2
 ·go_ret;exact ⟨_,rfl,Below.refl _ _,.inl rfl⟩
 go_loopw [1,5] (fun lf i wr=>∃ (k:Nat) (r:Int),k ≤ n ∧ i = .int .i64 k ∧ lf = .int .i64 r ∧ 0 ≤ r ∧ r ≤ left ∧ (∀ j x,j < k → l[j]? = some x → x.Small 1048576) ∧ Below w.heap.size w wr) (fun _ i _=>n - (intOf i).toNat)
 case atStart=>exact ⟨0,_,Nat.zero_le _,rfl,rfl,by omega,by omega,fun j x hj=>by omega,Below.refl _ _⟩
 case round=>
  obtain ⟨k,r,hk,rfl,rfl,hr0,hr1,hsm,hbl⟩:=hrel;have HS:=zaa hsm;clear hsm;by_cases hlt:k < n
  ·obtain ⟨x,hx⟩:=zac l Hn hlt;obtain ⟨v0,v1,v2,v3,v4,hw,g0,g1,g2,g3,g4⟩:=HC.out k hlt x hx;obtain ⟨⟨a0,c0,e0,-⟩,⟨a1,c1,e1,-⟩,⟨a2,c2,e2,-⟩,⟨a3,c3,e3,-⟩,⟨a4,c4,e4,-⟩⟩:=hw;subst e0 e1 e2 e3 e4;obtain ⟨s0,s1,s2,s3,s4⟩:=HL.out x (List.mem_of_getElem? hx);rw [← hbl.cell (p:=⟨b,_,none⟩) hb0] at g0 g1 g2 g3 g4;have Hx:=zaa hx;clear hx
   go_wp2_with fail
   refine (szWay_any _ _ _ _ _ _ _ _ _ _ _ _ _ _ _ r wr (by omega) (by omega) (by omega) (by omega) (by omega) hr0 (by omega)).mono ?_;rintro e w' ⟨r',rfl,hb',hr | ⟨p,q,sm⟩⟩
   ·subst hr;go_wp2;go_ret;exact ⟨_,rfl,hbl.trans (hb'.mono hbl.size),.inl rfl⟩
   ·have Hsm:=zaa sm;clear sm;go_wp2;go_roundw
    case rel=>exact ⟨k + 1,r',by omega,by go_num,rfl,p,by omega,zyl HS.out Hx.out Hsm.out,hbl.trans (hb'.mono hbl.size)⟩
    case measure=>simp [intOf]; omega
  ·go_wp2;go_ret;exact ⟨_,rfl,hbl,.inr ⟨hr0,hr1,by omega,zyt HS.out Hn.out (by omega)⟩⟩
set_option maxHeartbeats 1000000 in
theorem zzj (v:Value) (l:List (List Bool)) (left:Int) (w:World) (hv:Rows2 (In w) w v l)
  (hn:l.length ≤ 9223372036854775807) (hl:∀ x ∈ l,x.length ≤ 9223372036854775807) (h0:0 ≤ left) (h1:left ≤ 1048576) :
  Calls Tryz.prog 60 #[v,.int .i64 left] w fun e w'=>∃ r,e = .returned (.int .i64 r) ∧ w' = w ∧ SzOk left r (l.length ≤ 1048576 ∧ ∀ x ∈ l,x.length ≤ 1048576):=by
 have HL:=zaa hl;clear hl;obtain ⟨a,cap,rfl,hz | ⟨b,off,rfl,hb0,hc⟩⟩:=hv
 ·have hl0:l = []:=List.length_eq_zero_iff.1 hz;subst hl0;go_enter Tryz.func60,Tryz.ntmps60;go_wp2
  go_loop [1,5] (fun lf i=>i = .int .i64 0 ∧ lf = .int .i64 left) (fun _ i=>0)
  case atStart=>trivial
  case round=>
   obtain ⟨rfl,rfl⟩:=hrel;go_wp2;go_ret;exact ⟨_,rfl,rfl,.inr ⟨h0,Int.le_refl _,by simp⟩⟩
 generalize hn':l.length = n at *;have Hn:Hid (l.length = n):=hn';have HC:=zaa hc;clear hc hn';go_enter Tryz.func60,Tryz.ntmps60;go_wp2
 ·go_ret;exact ⟨_,rfl,rfl,.inl rfl⟩
 go_loop [1,5] (fun lf i=>∃ (k:Nat) (r:Int),k ≤ n ∧ i = .int .i64 k ∧ lf = .int .i64 r ∧ 0 ≤ r ∧ r ≤ left ∧ (∀ j x,j < k → l[j]? = some x → x.length ≤ 1048576)) (fun _ i=>n - (intOf i).toNat)
 case atStart=>exact ⟨0,_,Nat.zero_le _,rfl,rfl,by omega,by omega,fun j x hj=>by omega⟩
 case round=>
  obtain ⟨k,r,hk,rfl,rfl,hr0,hr1,hsm⟩:=hrel;have HS:=zaa hsm;clear hsm;by_cases hlt:k < n
  ·obtain ⟨x,hx⟩:=zac l Hn hlt;obtain ⟨v0,⟨a0,c0,e0,-⟩,g0⟩:=HC.out k hlt x hx;subst e0;have s0:=HL.out x (List.mem_of_getElem? hx);have Hx:=zaa hx;clear hx
   go_wp2_with fail
   refine (zyd _ _ _ r w (by omega) hr0 (by omega)).mono ?_;rintro e w' ⟨r',rfl,rfl,hr | ⟨p,q,sm⟩⟩
   ·subst hr;go_wp2;go_ret;exact ⟨_,rfl,rfl,.inl rfl⟩
   ·have Hsm:=zaa sm;clear sm;go_wp2
    go_round
    case rel=>exact ⟨k + 1,r',by omega,by go_num,rfl,p,by omega,zyl (S:=fun x=>x.length ≤ 1048576) HS.out Hx.out Hsm.out⟩
    case measure=>simp [intOf]; omega
  ·go_wp2;go_ret;exact ⟨_,rfl,rfl,.inr ⟨hr0,hr1,by omega,zyt HS.out Hn.out (by omega)⟩⟩
set_option maxHeartbeats 1000000 in
theorem szPlan_any (s h:Int) (v1 v2 v3:Value) (d:PlanD) (left:Int) (w:World) (hp:PlanAt (In w) w v1 v2 v3 d)
  (hs:d.Small 9223372036854775807) (h0:0 ≤ left) (h1:left ≤ 1048576) :
  Calls Tryz.prog 13 #[.agg #[.int .i64 s,v1,v2,v3,.int .i64 h],.int .i64 left] w fun e w'=>∃ r,e = .returned (.int .i64 r) ∧ Below w.heap.size w w' ∧ SzOk left r (d.Small 1048576):=by
 obtain ⟨hs1,hs2,hs3,hs4,hs5⟩:=hs;obtain ⟨p1,p2,p3⟩:=hp;have hb1:∀ o,Below w.heap.size w (w.alloc o):=fun o=>(Below.refl _ _).alloc (Nat.le_refl _) _;obtain ⟨a1,c1,rfl⟩:=Sl.size p1;have H3:=zaa hs3;have H5:=zaa hs5;clear hs3 hs5;go_enter Tryz.func13,Tryz.ntmps13
 go_wp2_with fail
 refine (zx9 _ _ _ _ _ (by omega) h0 h1).mono ?_;rintro e w' ⟨r0,rfl,rfl,hr0 | ⟨p0,q0,s0⟩⟩
 ·subst hr0;go_wp2;go_ret;exact ⟨_,rfl,hb1 _,.inl rfl⟩
 go_wp2_with fail
 refine (szWayS_any v2 d.ways r0 _ (p2.keep (In.keep (hb1 _)).1 (In.keep (hb1 _)).2) (by omega) H3.out p0 (by omega)).mono ?_;rintro e w1 ⟨r1,rfl,hb2,hr0 | ⟨p4,q1,s1⟩⟩
 ·subst hr0;go_wp2;go_ret;exact ⟨_,rfl,(hb1 _).trans (hb2.mono (by simp)),.inl rfl⟩
 have hc3:=hb2.cell (p:=⟨w.heap.size,3,none⟩) (by simp);have Hs1:=zaa s1;clear s1;simp at hc3;have hb3:Below w.heap.size w w1:=(hb1 _).trans (hb2.mono (by simp))
 go_wp2_with fail
 refine (zzj v3 d.bars r1 _ (p3.keep (In.keep hb3).1 (In.keep hb3).2) (by omega) H5.out p4 (by omega)).mono ?_;rintro e w2 ⟨r2,rfl,rfl,hr0 | ⟨p5,q2,s2⟩⟩
 ·subst hr0;go_wp2;go_ret;exact ⟨_,rfl,hb3,.inl rfl⟩
 have Hs2:=zaa s2;clear s2;go_wp2;go_ret;exact ⟨_,rfl,hb3,.inr ⟨p5,by omega,s0,Hs1.out.1,Hs1.out.2,Hs2.out.1,Hs2.out.2⟩⟩
end Go.Proofs.YtdhinkgjiapigabGreatDoor
namespace Go.Proofs.YtdhinkgjiapigabGreatDoor
open Go.RowKit
end Go.Proofs.YtdhinkgjiapigabGreatDoor
namespace Go.Proofs.YtdhinkgjiapigabGreatDoor
open Go.RowKit
theorem drewN_add (w:World) (m n:Nat):(w.drewN m).drewN n = w.drewN (m + n):=by
 simp [World.drewN,Nat.add_assoc]
set_option maxHeartbeats 1000000 in
theorem zx7 (u v:Value) (l:List Int) (w:World) (hu:Ints (In w) w u l) (hv:Ints (In w) w v l) (hn:l.length ≤ 1048576) :
  Calls Tryz.prog 44 #[u,v] w fun e w'=>e = .returned (.bool true) ∧ ∃ m,w' = w.drewN m:=by
 obtain ⟨a,cap,rfl,hc⟩:=hu;obtain ⟨a2,cap2,rfl,hc2⟩:=hv;generalize hn':l.length = n at *;have Hn:Hid (l.length = n):=hn';have HC:=zaa hc;have HD:=zaa hc2;clear hc hc2 hn';go_enter Tryz.func44,Tryz.ntmps44;go_wp2
 go_loopw [5] (fun i wr=>∃ (k m:Nat),k ≤ n ∧ i = .int .i64 k ∧ wr = w.drewN m) (fun i _=>n - (intOf i).toNat)
 case atStart=>exact ⟨0,0,Nat.zero_le _,rfl,rfl⟩
 case round=>
  obtain ⟨k,m,hk,rfl,rfl⟩:=hrel;by_cases hlt:k < n
  ·obtain h0 | ⟨b,off,rfl,hb0,hc⟩:=HC.out
   ·omega
   obtain h0 | ⟨b2,off2,rfl,hb2,hc2⟩:=HD.out
   ·omega
   obtain ⟨x,hx⟩:=zac l Hn hlt;have g0:=hc k hlt x hx;have g1:=hc2 k hlt x hx
   have hlt':(k:Int) < (n:Int):=by omega
   clear hx hc hc2;go_wp2
   go_quiet (fail)
   go_wp2;go_roundw
   case rel=>exact ⟨k + 1,_,by omega,by go_num,rfl⟩
   case measure=>simp [intOf]; omega
  ·go_wp2;go_ret;exact ⟨rfl,m,rfl⟩
set_option maxHeartbeats 1000000 in
theorem zyb (u v:Value) (l:List Bool) (w:World) (hu:Bools (In w) w u l) (hv:Bools (In w) w v l) (hn:l.length ≤ 1048576) :
  Calls Tryz.prog 82 #[u,v] w fun e w'=>e = .returned (.bool true) ∧ ∃ m,w' = w.drewN m:=by
 obtain ⟨a,cap,rfl,hc⟩:=hu;obtain ⟨a2,cap2,rfl,hc2⟩:=hv;generalize hn':l.length = n at *;have Hn:Hid (l.length = n):=hn';have HC:=zaa hc;have HD:=zaa hc2;clear hc hc2 hn';go_enter Tryz.func82,Tryz.ntmps82;go_wp2
 go_loopw [5] (fun i wr=>∃ (k m:Nat),k ≤ n ∧ i = .int .i64 k ∧ wr = w.drewN m) (fun i _=>n - (intOf i).toNat)
 case atStart=>exact ⟨0,0,Nat.zero_le _,rfl,rfl⟩
 case round=>
  obtain ⟨k,m,hk,rfl,rfl⟩:=hrel;by_cases hlt:k < n
  ·obtain h0 | ⟨b,off,rfl,hb0,hc⟩:=HC.out
   ·omega
   obtain h0 | ⟨b2,off2,rfl,hb2,hc2⟩:=HD.out
   ·omega
   obtain ⟨x,hx⟩:=zac l Hn hlt;have g0:=hc k hlt x hx;have g1:=hc2 k hlt x hx
   have hlt':(k:Int) < (n:Int):=by omega
   clear hx hc hc2;go_wp2
   go_quiet (fail)
   go_wp2;go_roundw
   case rel=>exact ⟨k + 1,_,by omega,by go_num,rfl⟩
   case measure=>simp [intOf]; omega
  ·go_wp2;go_ret;exact ⟨rfl,m,rfl⟩
set_option maxHeartbeats 1000000 in
theorem zzf (u v:Value) (l:List (List Bool)) (w:World) (hu:Rows2 (In w) w u l) (hv:Rows2 (In w) w v l) (hn:l.length ≤ 1048576) (hl:∀ x ∈ l,x.length ≤ 1048576) :
  Calls Tryz.prog 81 #[u,v] w fun e w'=>e = .returned (.bool true) ∧ ∃ m,w' = w.drewN m:=by
 obtain ⟨a,cap,rfl,hc⟩:=hu;obtain ⟨a2,cap2,rfl,hc2⟩:=hv;generalize hn':l.length = n at *;have Hn:Hid (l.length = n):=hn';have HC:=zaa hc;have HD:=zaa hc2;have HL:=zaa hl;clear hc hc2 hn' hl;go_enter Tryz.func81,Tryz.ntmps81;go_wp2
 go_loopw [5] (fun i wr=>∃ (k m:Nat),k ≤ n ∧ i = .int .i64 k ∧ wr = w.drewN m) (fun i _=>n - (intOf i).toNat)
 case atStart=>exact ⟨0,0,Nat.zero_le _,rfl,rfl⟩
 case round=>
  obtain ⟨k,m,hk,rfl,hwr⟩:=hrel;have HW:=zaa hwr;by_cases hlt:k < n
  ·obtain h0 | ⟨b,off,rfl,hb0,hc⟩:=HC.out
   ·omega
   obtain h0 | ⟨b2,off2,rfl,hb2,hc2⟩:=HD.out
   ·omega
   obtain ⟨x,hx⟩:=zac l Hn hlt;obtain ⟨v0,q0,g0⟩:=hc k hlt x hx;obtain ⟨v1,q1,g1⟩:=hc2 k hlt x hx
   have hlt':(k:Int) < (n:Int):=by omega
   have hsx:=HL.out x (List.mem_of_getElem? hx)
   have hq:∀ j,Calls Tryz.prog 82 #[v0,v1] (wr.drewN j) fun e w'=>e = .returned (.bool true) ∧ ∃ m,w' = (wr.drewN j).drewN m:=fun j=>by
    subst hwr;exact zyb v0 v1 x ((w.drewN m).drewN j) (q0.keep (w':=(w.drewN m).drewN j) (fun _ _ _=>rfl) fun _ h=>h) (q1.keep (w':=(w.drewN m).drewN j) (fun _ _ _=>rfl) fun _ h=>h) hsx
   have g0:wr.cell? ⟨b,off + k,none⟩ = some v0:=by subst hwr; exact g0
   have g1:wr.cell? ⟨b2,off2 + k,none⟩ = some v1:=by subst hwr; exact g1
   have HQ:=zaa hq;clear hx hc hc2 hq q0 q1 hwr;go_wp2
   go_quiet ((go_at_call 82; exact Calls.quiet_of (HQ.out _)))
   go_wp2;go_roundw
   case rel=>exact ⟨k + 1,_,by omega,by go_num,by rw [HW.out]; exact drewN_add _ _ _⟩
   case measure=>simp [intOf]; omega
  ·go_wp2;go_ret;exact ⟨rfl,m,rfl⟩
set_option maxHeartbeats 400000 in
theorem eqLie_any (x y:Int) (w:World) :
  Calls Tryz.prog 224 #[.agg #[.int .i64 x,.int .i64 y],.agg #[.int .i64 x,.int .i64 y]] w fun e w'=>e = .returned (.bool true) ∧ Below w.heap.size w w':=by
 go_enter Tryz.func224,Tryz.ntmps224;go_wp2;go_ret;exact ⟨rfl,(((Below.refl _ _).alloc (Nat.le_refl _) _).alloc (by simp) _)⟩
set_option maxHeartbeats 1000000 in
theorem zyz (u v:Value) (l:List (Int × Int)) (w:World) (hu:Lies (In w) w u l) (hv:Lies (In w) w v l) (hn:l.length ≤ 1048576) :
  Calls Tryz.prog 183 #[u,v] w fun e w'=>e = .returned (.bool true) ∧ Below w.heap.size w w':=by
 obtain ⟨a,cap,rfl,hc⟩:=hu;obtain ⟨a2,cap2,rfl,hc2⟩:=hv;generalize hn':l.length = n at *;have Hn:Hid (l.length = n):=hn';have HC:=zaa hc;have HD:=zaa hc2;clear hc hc2 hn';go_enter Tryz.func183,Tryz.ntmps183;go_wp2
 go_loopw [5] (fun i wr=>∃ (k:Nat),k ≤ n ∧ i = .int .i64 k ∧ Below w.heap.size w wr) (fun i _=>n - (intOf i).toNat)
 case atStart=>exact ⟨0,Nat.zero_le _,rfl,Below.refl _ _⟩
 case round=>
  obtain ⟨k,hk,rfl,hbl⟩:=hrel;by_cases hlt:k < n
  ·obtain h0 | ⟨b,off,rfl,hb0,hc⟩:=HC.out
   ·omega
   obtain h0 | ⟨b2,off2,rfl,hb2,hc2⟩:=HD.out
   ·omega
   obtain ⟨x,hx⟩:=zac l Hn hlt;obtain ⟨g0,g1⟩:=hc k hlt x hx;obtain ⟨g2,g3⟩:=hc2 k hlt x hx;rw [← hbl.cell (p:=⟨b,_,none⟩) hb0] at g0 g1;rw [← hbl.cell (p:=⟨b2,_,none⟩) hb2] at g2 g3
   have hlt':(k:Int) < (n:Int):=by omega
   have hs:=hbl.size;have HB:=zaa hbl;clear hx hc hc2 hbl;go_wp2
   go_region_with (go_at_call 224; refine (eqLie_any _ _ _).mono ?_; rintro e w1 ⟨rfl,hb1⟩)
   all_goals
    go_wp2;go_roundw
    case rel=>exact ⟨k + 1,by omega,by go_num,(below_drewN HB.out _).trans (hb1.mono hs)⟩
    case measure=>simp [intOf]; omega
  ·go_wp2;go_ret;exact ⟨rfl,hbl⟩
end Go.Proofs.YtdhinkgjiapigabGreatDoor
namespace Go.Proofs.YtdhinkgjiapigabGreatDoor
open Go.RowKit Go.Deep
structure Two (w:World) (t:TypeId) (f g:Nat → Value) (W:World):Prop where
 below:Below w.heap.size w W
 one:W.rowIs w.heap.size t 5 f
 two:W.rowIs (w.heap.size + 1) t 5 g
theorem Two.call {w:World} {t:TypeId} {f g:Nat → Value} {W W':World} (h:Two w t f g W) (hb:Below W.heap.size W W'):Two w t f g W':=
 ⟨h.below.trans (hb.mono h.below.size),zal h.one hb,zal h.two hb⟩
theorem Two.start (w:World) (t:TypeId) (b0 b1 b2 b3 b4 z0 z1 z2 z3 z4:Value) :
  Two w t (fun i=>(#[b0,b1,b2,b3,b4]:Array Value)[i]!) (fun i=>(#[z0,z1,z2,z3,z4]:Array Value)[i]!) ((w.alloc (.cells #[b0,b1,b2,b3,b4] t)).alloc (.cells #[z0,z1,z2,z3,z4] t)):=by
 have hr:∀ (u:World) (t:TypeId) (c:Array Value),(u.alloc (.cells c t)).rowIs u.heap.size t c.size (fun i=>c[i]!):=fun u t c=>
  World.rowIs_alloc u c t _ fun i hi=>by rw [getElem!_pos _ i hi]; exact Array.getElem?_eq_getElem hi
 refine ⟨(((Below.refl _ _).alloc (Nat.le_refl _) _).alloc (by simp) _),(hr _ _ _).alloc _,?_⟩;have:=hr (w.alloc (.cells #[b0,b1,b2,b3,b4] t)) t #[z0,z1,z2,z3,z4];simpa using this
theorem Two.cells {w:World} {t:TypeId} {b0 b1 b2 b3 b4 z0 z1 z2 z3 z4:Value} {W:World} (h:Two w t (fun i=>(#[b0,b1,b2,b3,b4]:Array Value)[i]!) (fun i=>(#[z0,z1,z2,z3,z4]:Array Value)[i]!) W) :
  (W.cell? ⟨w.heap.size,0,none⟩ = some b0 ∧ W.cell? ⟨w.heap.size,1,none⟩ = some b1 ∧ W.cell? ⟨w.heap.size,2,none⟩ = some b2 ∧ W.cell? ⟨w.heap.size,3,none⟩ = some b3 ∧ W.cell? ⟨w.heap.size,4,none⟩ = some b4) ∧
  (W.cell? ⟨w.heap.size + 1,0,none⟩ = some z0 ∧ W.cell? ⟨w.heap.size + 1,1,none⟩ = some z1 ∧ W.cell? ⟨w.heap.size + 1,2,none⟩ = some z2 ∧ W.cell? ⟨w.heap.size + 1,3,none⟩ = some z3 ∧ W.cell? ⟨w.heap.size + 1,4,none⟩ = some z4):=
 ⟨⟨by simpa using h.one.cell (i:=0) (by omega),by simpa using h.one.cell (i:=1) (by omega),by simpa using h.one.cell (i:=2) (by omega),by simpa using h.one.cell (i:=3) (by omega),by simpa using h.one.cell (i:=4) (by omega)⟩,
  ⟨by simpa using h.two.cell (i:=0) (by omega),by simpa using h.two.cell (i:=1) (by omega),by simpa using h.two.cell (i:=2) (by omega),by simpa using h.two.cell (i:=3) (by omega),by simpa using h.two.cell (i:=4) (by omega)⟩⟩
set_option maxHeartbeats 2000000 in
theorem eqWay_any (u0 u1 u2 u3 u4 v0 v1 v2 v3 v4:Value) (d:WayD) (w:World) (hu:WayAt (In w) w u0 u1 u2 u3 u4 d) (hv:WayAt (In w) w v0 v1 v2 v3 v4 d) (hs:d.Small 1048576) :
  Calls Tryz.prog 140 #[.agg #[u0,u1,u2,u3,u4],.agg #[v0,v1,v2,v3,v4]] w fun e w'=>e = .returned (.bool true) ∧ Below w.heap.size w w':=by
 have T0:=Two.start w 122 u0 u1 u2 u3 u4 v0 v1 v2 v3 v4;have hk:∀ {W},Two w 122 (fun i=>(#[u0,u1,u2,u3,u4]:Array Value)[i]!) (fun i=>(#[v0,v1,v2,v3,v4]:Array Value)[i]!) W → WayAt (In W) W u0 u1 u2 u3 u4 d:=fun h=>hu.keep (In.keep h.below).1 (In.keep h.below).2;have hj:∀ {W},Two w 122 (fun i=>(#[u0,u1,u2,u3,u4]:Array Value)[i]!) (fun i=>(#[v0,v1,v2,v3,v4]:Array Value)[i]!) W → WayAt (In W) W v0 v1 v2 v3 v4 d:=fun h=>hv.keep (In.keep h.below).1 (In.keep h.below).2;clear hu hv;go_enter Tryz.func140,Tryz.ntmps140
 go_wp2_with fail
 refine (zx7 u0 v0 d.sections _ (hk T0).1 (hj T0).1 hs.1).mono ?_;rintro e w1 ⟨rfl,m,hm⟩;have T1:=T0.call (hm ▸ zci _ m);clear T0 hm;obtain ⟨⟨-,c1,c2,c3,c4⟩,⟨-,e1,e2,e3,e4⟩⟩:=T1.cells
 go_wp2_with fail
 refine (zyz u1 v1 d.lies _ (hk T1).2.1 (hj T1).2.1 hs.2.1).mono ?_;clear c1 c2 c3 c4 e1 e2 e3 e4;rintro e w2 ⟨rfl,hb⟩;have T2:=T1.call hb;clear T1 hb;obtain ⟨⟨-,c1,c2,c3,c4⟩,⟨-,e1,e2,e3,e4⟩⟩:=T2.cells
 go_wp2_with fail
 refine (zyz u2 v2 d.flanks _ (hk T2).2.2.1 (hj T2).2.2.1 hs.2.2.1).mono ?_;clear c1 c2 c3 c4 e1 e2 e3 e4;rintro e w3 ⟨rfl,hb⟩;have T3:=T2.call hb;clear T2 hb;obtain ⟨⟨-,c1,c2,c3,c4⟩,⟨-,e1,e2,e3,e4⟩⟩:=T3.cells
 go_wp2_with fail
 refine (zx7 u3 v3 d.over _ (hk T3).2.2.2.1 (hj T3).2.2.2.1 hs.2.2.2.1).mono ?_;clear c1 c2 c3 c4 e1 e2 e3 e4;rintro e w4 ⟨rfl,m,hm⟩;have T4:=T3.call (hm ▸ zci _ m);clear T3 hm;obtain ⟨⟨-,c1,c2,c3,c4⟩,⟨-,e1,e2,e3,e4⟩⟩:=T4.cells
 go_wp2_with fail
 refine (zx7 u4 v4 d.near _ (hk T4).2.2.2.2 (hj T4).2.2.2.2 hs.2.2.2.2).mono ?_;clear c1 c2 c3 c4 e1 e2 e3 e4;rintro e w5 ⟨rfl,m,hm⟩;have T5:=T4.call (hm ▸ zci _ m);clear T4 hm;go_wp2;go_ret;exact ⟨rfl,T5.below⟩
set_option maxHeartbeats 1000000 in
theorem zz9 (u v:Value) (l:List WayD) (w:World) (hu:Ways (In w) w u l) (hv:Ways (In w) w v l) (hn:l.length ≤ 1048576) (hl:∀ x ∈ l,x.Small 1048576) :
  Calls Tryz.prog 80 #[u,v] w fun e w'=>e = .returned (.bool true) ∧ Below w.heap.size w w':=by
 obtain ⟨a,cap,rfl,hc⟩:=hu;obtain ⟨a2,cap2,rfl,hc2⟩:=hv;generalize hn':l.length = n at *;have Hn:Hid (l.length = n):=hn';have HC:=zaa hc;have HD:=zaa hc2;have HL:=zaa hl;clear hc hc2 hn' hl;go_enter Tryz.func80,Tryz.ntmps80;go_wp2
 go_loopw [5] (fun i wr=>∃ (k:Nat),k ≤ n ∧ i = .int .i64 k ∧ Below w.heap.size w wr) (fun i _=>n - (intOf i).toNat)
 case atStart=>exact ⟨0,Nat.zero_le _,rfl,Below.refl _ _⟩
 case round=>
  obtain ⟨k,hk,rfl,hbl⟩:=hrel;by_cases hlt:k < n
  ·obtain h0 | ⟨b,off,rfl,hb0,hc⟩:=HC.out
   ·omega
   obtain h0 | ⟨b2,off2,rfl,hb2,hc2⟩:=HD.out
   ·omega
   obtain ⟨x,hx⟩:=zac l Hn hlt;obtain ⟨u0,u1,u2,u3,u4,hw,g0,g1,g2,g3,g4⟩:=hc k hlt x hx;obtain ⟨v0,v1,v2,v3,v4,hw2,j0,j1,j2,j3,j4⟩:=hc2 k hlt x hx;rw [← hbl.cell (p:=⟨b,_,none⟩) hb0] at g0 g1 g2 g3 g4;rw [← hbl.cell (p:=⟨b2,_,none⟩) hb2] at j0 j1 j2 j3 j4;have hsx:=HL.out x (List.mem_of_getElem? hx)
   have hq:Calls Tryz.prog 140 #[.agg #[u0,u1,u2,u3,u4],.agg #[v0,v1,v2,v3,v4]] wr.drew fun e w'=>e = .returned (.bool true) ∧ Below w.heap.size w w':=by
    have hb2:Below w.heap.size w wr.drew:=hbl.drew;refine (eqWay_any u0 u1 u2 u3 u4 v0 v1 v2 v3 v4 x wr.drew (hw.keep (In.keep hb2).1 (In.keep hb2).2) (hw2.keep (In.keep hb2).1 (In.keep hb2).2) hsx).mono ?_;rintro e w1 ⟨rfl,h⟩;exact ⟨rfl,hb2.trans (h.mono hb2.size)⟩
   have HQ:=zaa hq
   have hlt':(k:Int) < (n:Int):=by omega
   clear hx hc hc2 hbl hq hw hw2 hsx;go_wp2
   go_region_with (go_at_call 140; refine HQ.out.mono ?_; rintro e w1 ⟨rfl,hb1⟩)
   all_goals
    go_wp2;go_roundw
    case rel=>exact ⟨k + 1,by omega,by go_num,hb1⟩
    case measure=>simp [intOf]; omega
  ·go_wp2;go_ret;exact ⟨rfl,hbl⟩
set_option maxHeartbeats 2000000 in
theorem zz8 (s h:Int) (u1 u2 u3 v1 v2 v3:Value) (d:PlanD) (w:World) (hu:PlanAt (In w) w u1 u2 u3 d) (hv:PlanAt (In w) w v1 v2 v3 d) (hs:d.Small 1048576) :
  Calls Tryz.prog 19 #[.agg #[.int .i64 s,u1,u2,u3,.int .i64 h],.agg #[.int .i64 s,v1,v2,v3,.int .i64 h]] w fun e w'=>e = .returned (.bool true) ∧ Below w.heap.size w w':=by
 have T0:=Two.start w 37 (.int .i64 s) u1 u2 u3 (.int .i64 h) (.int .i64 s) v1 v2 v3 (.int .i64 h);have hk:∀ {W},Two w 37 (fun i=>(#[.int .i64 s,u1,u2,u3,.int .i64 h]:Array Value)[i]!) (fun i=>(#[.int .i64 s,v1,v2,v3,.int .i64 h]:Array Value)[i]!) W → PlanAt (In W) W u1 u2 u3 d:=fun h=>hu.keep (In.keep h.below).1 (In.keep h.below).2;have hj:∀ {W},Two w 37 (fun i=>(#[.int .i64 s,u1,u2,u3,.int .i64 h]:Array Value)[i]!) (fun i=>(#[.int .i64 s,v1,v2,v3,.int .i64 h]:Array Value)[i]!) W → PlanAt (In W) W v1 v2 v3 d:=fun h=>hv.keep (In.keep h.below).1 (In.keep h.below).2;obtain ⟨hs1,hs2,hs3,hs4,hs5⟩:=hs;have H3:=zaa hs3;have H5:=zaa hs5;clear hu hv hs3 hs5;go_enter Tryz.func19,Tryz.ntmps19
 go_wp2_with fail
 refine (zx7 u1 v1 d.switches _ (hk T0).1 (hj T0).1 hs1).mono ?_;rintro e w1 ⟨rfl,m,hm⟩;have T1:=T0.call (hm ▸ zci _ m);clear T0 hm;obtain ⟨⟨-,c1,c2,c3,c4⟩,⟨-,e1,e2,e3,e4⟩⟩:=T1.cells
 go_wp2_with fail
 refine (zz9 u2 v2 d.ways _ (hk T1).2.1 (hj T1).2.1 hs2 H3.out).mono ?_;clear c1 c2 c3 c4 e1 e2 e3 e4;rintro e w2 ⟨rfl,hb⟩;have T2:=T1.call hb;clear T1 hb;obtain ⟨⟨-,c1,c2,c3,c4⟩,⟨-,e1,e2,e3,e4⟩⟩:=T2.cells
 go_wp2_with fail
 refine (zzf u3 v3 d.bars _ (hk T2).2.2 (hj T2).2.2 hs4 H5.out).mono ?_;clear c1 c2 c3 c4 e1 e2 e3 e4;rintro e w3 ⟨rfl,m,hm⟩;have T3:=T2.call (hm ▸ zci _ m);clear T2 hm;obtain ⟨⟨-,c1,c2,c3,c4⟩,⟨-,e1,e2,e3,e4⟩⟩:=T3.cells;go_wp2;go_ret;exact ⟨rfl,T3.below⟩
end Go.Proofs.YtdhinkgjiapigabGreatDoor
namespace Go.Proofs.YtdhinkgjiapigabGreatDoor
open Go.RowKit Go.Deep
end Go.Proofs.YtdhinkgjiapigabGreatDoor
namespace Go.Proofs.YtdhinkgjiapigabGreatDoor
open Go.RowKit Go.Deep
def IntsS (P:Nat → Prop) (w:World) (v:Value) (n:Nat):Prop:=Sl P v n fun b off i=>∃ x,w.cell? ⟨b,off + i,none⟩ = some (.int .i64 x)
def BoolsS (P:Nat → Prop) (w:World) (v:Value) (n:Nat):Prop:=Sl P v n fun b off i=>∃ x,w.cell? ⟨b,off + i,none⟩ = some (.bool x)
def LiesS (P:Nat → Prop) (w:World) (v:Value) (n:Nat):Prop:=Sl P v n fun b off i=>∃ x y,w.cell? ⟨b,off + i * 2,none⟩ = some (.int .i64 x) ∧ w.cell? ⟨b,off + i * 2 + 1,none⟩ = some (.int .i64 y)
def WayS (P:Nat → Prop) (w:World) (v0 v1 v2 v3 v4:Value):Prop:=
 ∃ n0 n1 n2 n3 n4:Nat,(n0 ≤ 1048576 ∧ n1 ≤ 1048576 ∧ n2 ≤ 1048576 ∧ n3 ≤ 1048576 ∧ n4 ≤ 1048576) ∧ IntsS P w v0 n0 ∧ LiesS P w v1 n1 ∧ LiesS P w v2 n2 ∧ IntsS P w v3 n3 ∧ IntsS P w v4 n4
def WaysS (P:Nat → Prop) (w:World) (v:Value) (n:Nat):Prop:=
 Sl P v n fun b off i=>∃ v0 v1 v2 v3 v4,WayS P w v0 v1 v2 v3 v4 ∧
  w.cell? ⟨b,off + i * 5,none⟩ = some v0 ∧ w.cell? ⟨b,off + i * 5 + 1,none⟩ = some v1 ∧ w.cell? ⟨b,off + i * 5 + 2,none⟩ = some v2 ∧ w.cell? ⟨b,off + i * 5 + 3,none⟩ = some v3 ∧ w.cell? ⟨b,off + i * 5 + 4,none⟩ = some v4
def RowsS (P:Nat → Prop) (w:World) (v:Value) (n:Nat):Prop:=
 Sl P v n fun b off i=>∃ (v0:Value) (m:Nat),m ≤ 1048576 ∧ BoolsS P w v0 m ∧ w.cell? ⟨b,off + i,none⟩ = some v0
theorem Ints.shape {P:Nat → Prop} {w:World} {v:Value} {l:List Int} (h:Ints P w v l):IntsS P w v l.length:=
 Sl.imp h (fun _ h=>h) fun b off i _ hi he=>by obtain ⟨x,hx⟩:=zkd l hi; exact ⟨x,he x hx⟩
theorem Bools.shape {P:Nat → Prop} {w:World} {v:Value} {l:List Bool} (h:Bools P w v l):BoolsS P w v l.length:=
 Sl.imp h (fun _ h=>h) fun b off i _ hi he=>by obtain ⟨x,hx⟩:=zkd l hi; exact ⟨x,he x hx⟩
theorem Lies.shape {P:Nat → Prop} {w:World} {v:Value} {l:List (Int × Int)} (h:Lies P w v l):LiesS P w v l.length:=
 Sl.imp h (fun _ h=>h) fun b off i _ hi he=>by obtain ⟨x,hx⟩:=zkd l hi; exact ⟨x.1,x.2,he x hx⟩
theorem WayAt.shape {P:Nat → Prop} {w:World} {v0 v1 v2 v3 v4:Value} {d:WayD} (h:WayAt P w v0 v1 v2 v3 v4 d) (hs:d.Small 1048576):WayS P w v0 v1 v2 v3 v4:=
 ⟨_,_,_,_,_,hs,h.1.shape,h.2.1.shape,h.2.2.1.shape,h.2.2.2.1.shape,h.2.2.2.2.shape⟩
theorem Ways.shape {P:Nat → Prop} {w:World} {v:Value} {l:List WayD} (h:Ways P w v l) (hs:∀ x ∈ l,x.Small 1048576):WaysS P w v l.length:=
 Sl.imp h (fun _ h=>h) fun b off i _ hi he=>by
  obtain ⟨x,hx⟩:=zkd l hi
  obtain ⟨v0,v1,v2,v3,v4,hw,hc⟩:=he x hx
  exact ⟨v0,v1,v2,v3,v4,hw.shape (hs x (List.mem_of_getElem? hx)),hc⟩
theorem Rows2.shape {P:Nat → Prop} {w:World} {v:Value} {l:List (List Bool)} (h:Rows2 P w v l) (hs:∀ x ∈ l,x.length ≤ 1048576):RowsS P w v l.length:=
 Sl.imp h (fun _ h=>h) fun b off i _ hi he=>by
  obtain ⟨x,hx⟩:=zkd l hi
  obtain ⟨v0,hw,hc⟩:=he x hx
  exact ⟨v0,_,hs x (List.mem_of_getElem? hx),hw.shape,hc⟩
structure Marked (P:Nat → Prop) (w w':World):Prop where
 but:But (fun c=>¬ P c) w w'
 like:∀ b,b < w.heap.size → ∀ o,w'.cell? ⟨b,o,none⟩ = w.cell? ⟨b,o,none⟩ ∨ (∃ x y,w.cell? ⟨b,o,none⟩ = some (.int .i64 x) ∧ w'.cell? ⟨b,o,none⟩ = some (.int .i64 y)) ∨ ∃ x y,w.cell? ⟨b,o,none⟩ = some (.bool x) ∧ w'.cell? ⟨b,o,none⟩ = some (.bool y)
 thaw:∀ b,b < w.heap.size → zt6 w b → zt6 w' b
theorem Marked.of_calls {P:Nat → Prop} {w w':World} (h:Below w.heap.size w w'):Marked P w w':=
 ⟨But.of_calls h,fun b hb o=>.inl (h.cell (p:=⟨b,o,none⟩) hb),fun b hb k o=>(h.frozen (p:=⟨b,o,none⟩) hb).trans (k o)⟩
theorem Marked.refl (P:Nat → Prop) (w:World):Marked P w w:=Marked.of_calls (Below.refl _ _)
theorem Marked.trans {P:Nat → Prop} {a b c:World} (h:Marked P a b) (k:Marked P b c):Marked P a c:=by
 refine ⟨h.but.trans k.but,fun x hx o=>?_,fun x hx t=>k.thaw x (Nat.lt_of_lt_of_le hx h.but.size) (h.thaw x hx t)⟩
 rcases k.like x (Nat.lt_of_lt_of_le hx h.but.size) o with e | ⟨p,q,e1,e2⟩ | ⟨p,q,e1,e2⟩ <;> rcases h.like x hx o with g | ⟨r,s,g1,g2⟩ | ⟨r,s,g1,g2⟩
 ·exact .inl (e.trans g)
 ·exact .inr (.inl ⟨r,s,g1,e.trans g2⟩)
 ·exact .inr (.inr ⟨r,s,g1,e.trans g2⟩)
 ·exact .inr (.inl ⟨p,q,g.symm.trans e1,e2⟩)
 ·exact .inr (.inl ⟨r,q,g1,e2⟩)
 ·rw [g2] at e1; cases e1
 ·exact .inr (.inr ⟨p,q,g.symm.trans e1,e2⟩)
 ·rw [g2] at e1; cases e1
 ·exact .inr (.inr ⟨r,q,g1,e2⟩)
theorem Marked.int {P:Nat → Prop} {w w':World} (h:Marked P w w') {b o:Nat} (hb:∃ x,w.cell? ⟨b,o,none⟩ = some (.int .i64 x)):∃ x,w'.cell? ⟨b,o,none⟩ = some (.int .i64 x):=by
 obtain ⟨x,hx⟩:=hb;rcases h.like b (World.block_lt_of_cell? _ _ hx) o with e | ⟨p,q,e1,e2⟩ | ⟨p,q,e1,e2⟩
 ·exact ⟨x,e.trans hx⟩
 ·exact ⟨q,e2⟩
 ·rw [hx] at e1; cases e1
theorem Marked.bool {P:Nat → Prop} {w w':World} (h:Marked P w w') {b o:Nat} (hb:∃ x,w.cell? ⟨b,o,none⟩ = some (.bool x)):∃ x,w'.cell? ⟨b,o,none⟩ = some (.bool x):=by
 obtain ⟨x,hx⟩:=hb;rcases h.like b (World.block_lt_of_cell? _ _ hx) o with e | ⟨p,q,e1,e2⟩ | ⟨p,q,e1,e2⟩
 ·exact ⟨x,e.trans hx⟩
 ·rw [hx] at e1; cases e1
 ·exact ⟨q,e2⟩
theorem Marked.slice {P:Nat → Prop} {w w':World} (h:Marked P w w') {b o:Nat} {a:Option Addr} {n c:Nat} (hx:w.cell? ⟨b,o,none⟩ = some (.slice a n c)):w'.cell? ⟨b,o,none⟩ = some (.slice a n c):=by
 rcases h.like b (World.block_lt_of_cell? _ _ hx) o with e | ⟨p,q,e1,e2⟩ | ⟨p,q,e1,e2⟩
 ·exact e.trans hx
 ·rw [hx] at e1; cases e1
 ·rw [hx] at e1; cases e1
end Go.Proofs.YtdhinkgjiapigabGreatDoor
namespace Go.Proofs.YtdhinkgjiapigabGreatDoor
open Go.RowKit Go.Deep
end Go.Proofs.YtdhinkgjiapigabGreatDoor
namespace Go.Proofs.YtdhinkgjiapigabGreatDoor
open Go.RowKit Go.Deep
def HeldsS (P:Nat → Prop) (w:World) (v:Value) (n:Nat):Prop:=
 Sl P v n fun b off i=>∃ (x0 x1 x4:Int) (x3:Bool) (v2:Value) (m:Nat),(m ≤ 1048576 ∧ BoolsS P w v2 m) ∧
  w.cell? ⟨b,off + i * 5,none⟩ = some (.int .i64 x0) ∧ w.cell? ⟨b,off + i * 5 + 1,none⟩ = some (.int .i64 x1) ∧ w.cell? ⟨b,off + i * 5 + 2,none⟩ = some v2 ∧ w.cell? ⟨b,off + i * 5 + 3,none⟩ = some (.bool x3) ∧ w.cell? ⟨b,off + i * 5 + 4,none⟩ = some (.int .i64 x4)
theorem Helds.shape {P:Nat → Prop} {w:World} {v:Value} {l:List HeldD} (h:Helds P w v l) (hs:∀ x ∈ l,x.been.length ≤ 1048576):HeldsS P w v l.length:=
 Sl.imp h (fun _ h=>h) fun b off i _ hi he=>by
  obtain ⟨x,hx⟩:=zkd l hi
  obtain ⟨v2,hb,hc⟩:=he x hx
  exact ⟨_,_,_,_,v2,_,⟨hs x (List.mem_of_getElem? hx),hb.shape⟩,hc⟩
end Go.Proofs.YtdhinkgjiapigabGreatDoor
namespace Go.Proofs.YtdhinkgjiapigabGreatDoor
open Go.RowKit Go.Deep
end Go.Proofs.YtdhinkgjiapigabGreatDoor
namespace Go.Proofs.YtdhinkgjiapigabGreatDoor
open Go.RowKit Go.Deep
end Go.Proofs.YtdhinkgjiapigabGreatDoor
namespace Go.Proofs.YtdhinkgjiapigabGreatDoor
open Go.RowKit Go.Deep
def FrameP (P:Nat → Prop) (w:World) (v1 v2 v3:Value) (d:FrameD):Prop:=
 (∃ bo bp bw bb,OFrame P w v1 v2 v3 d bo bp bw bb) ∨ (v1 = .slice none 0 0 ∧ v2 = .slice none 0 0 ∧ v3 = .slice none 0 0 ∧ d.occ = [] ∧ d.points = [] ∧ d.ways = [])
theorem FrameP.read {P:Nat → Prop} {w:World} {v1 v2 v3:Value} {d:FrameD} (h:FrameP P w v1 v2 v3 d):FrameAt P w v1 v2 v3 d:=by
 rcases h with ⟨bo,bp,bw,bb,h⟩ | ⟨rfl,rfl,rfl,e1,e2,e3⟩
 ·exact h.read
 ·exact ⟨⟨_,_,by rw [e1]; rfl,.inl (by rw [e1]; rfl)⟩,⟨_,_,by rw [e2]; rfl,.inl (by rw [e2]; rfl)⟩,⟨_,_,by rw [e3]; rfl,.inl (by rw [e3]; rfl)⟩⟩
theorem FrameP.but {P Q K:Nat → Prop} {w w':World} {v1 v2 v3:Value} {d:FrameD} (h:FrameP P w v1 v2 v3 d) (e:But K w w') (hk:∀ c,P c → K c) (hq:∀ c,P c → Q c):FrameP Q w' v1 v2 v3 d:=by
 rcases h with ⟨bo,bp,bw,bb,h⟩ | h
 ·exact .inl ⟨bo,bp,bw,bb,h.but e hk hq⟩
 ·exact .inr h
end Go.Proofs.YtdhinkgjiapigabGreatDoor
namespace Go.Proofs.YtdhinkgjiapigabGreatDoor
open Go.RowKit Go.Deep
end Go.Proofs.YtdhinkgjiapigabGreatDoor

import Derived.Test.YtdhinkgjiapigabGreatDoorBase
import Derived.Test.YtdhinkgjiapigabGreatDoorLocksA
import Derived.Test.YtdhinkgjiapigabGreatDoorSpec7
import Derived.Test.YtdhinkgjiapigabGreatDoorPlI
import Derived.Deep.DeepCutAuto
import Derived.Deep.RegionWith
import Derived.Test.YtdhinkgjiapigabGreatDoorBarW
namespace Go.Proofs.YtdhinkgjiapigabGreatDoor
def zdm (l r:List Int):Bool:=l.any fun s=>r.any fun t=>t == s
theorem zqy {l r:List Int} {i:Decidable (Meet l r)}:@B (Meet l r) i = zdm l r:=by
 have h:zdm l r = true ↔ Meet l r:=by
  unfold zdm Meet;rw [List.any_eq_true];constructor
  ·rintro ⟨s,hs,h⟩;rw [List.any_eq_true] at h;obtain ⟨t,ht,e⟩:=h
   have:t = s:=by simpa using e
   exact ⟨s,hs,this ▸ ht⟩
  ·rintro ⟨s,h1,h2⟩;exact ⟨s,h1,by rw [List.any_eq_true]; exact ⟨s,h2,by simp⟩⟩
 by_cases e:Meet l r
 ·rw [zam e,h.2 e]
 ·rw [zae e]
  cases em:zdm l r
  ·rfl
  ·exact absurd (h.1 em) e
def zbe (p:PlanD) (d:FrameD) (way:Nat) (x:WayD) (i:Nat):Bool:=match p.ways[i]?,d.ways[i]? with
 | some y,some h=>i != way && h.state != 0 && ((p.bar way i).getD false || zdm x.sections y.over || zdm x.over y.sections)
 | _,_=>false
def zb0 (d:FrameD) (x:WayD) (s:Nat):Bool:=za1 d.occ s && (zdm [(s:Int)] x.sections || zdm [(s:Int)] x.over)
def zfa (l:List (Int × Int)) (k:Int):Int:=l.foldl (fun a y=>if y.1 = k then y.2 else a) 0
def zhz (d:FrameD) (x:WayD) (k:Nat):Bool:=match d.points[k]? with
 | some pt=>zfa (x.lies ++ x.flanks) k != 0 && zfa (x.lies ++ x.flanks) k != pt.1
 | none=>false
def zd6 (p:PlanD) (d:FrameD) (x:WayD) (k:Nat):Bool:=zhz d x k && decide (0 < (zbn p d k).length)
def zea (p:PlanD) (d:FrameD) (x:WayD) (k:Nat):Bool:=zhz d x k && (!decide (0 < (zbn p d k).length) && za1 d.occ (p.switches.getD k 0))
def zll (f:Nat → Bool) (n:Nat):List Int:=((List.range n).filter f).map fun j:Nat=>(j:Int)
def zcd (p:PlanD) (d:FrameD) (x:WayD) (k:Nat):Int:=if (List.range k).any (zd6 p d x) then 5 else if (List.range k).any (zea p d x) then 6 else 0
def zi5 (p:PlanD) (d:FrameD) (way:Nat) (x:WayD) (i:Nat):Int:=if (List.range i).any (zbe p d way x) then 3 else 0
def zdk (p:PlanD) (d:FrameD) (way:Nat) (x:WayD) (s:Nat):Int:=if (List.range p.ways.length).any (zbe p d way x) then 3 else if (List.range s).any (zb0 d x) then 4 else 0
def zn4 (p:PlanD) (d:FrameD) (way:Nat) (x:WayD):Int:=if zdk p d way x p.sections.toNat = 0 then zcd p d x p.switches.length else zdk p d way x p.sections.toNat
theorem zb1 (f:Nat → Bool) (i:Nat):(List.range (i + 1)).any f = ((List.range i).any f || f i):=by
 rw [List.range_succ,List.any_append]; simp
theorem zki (f:Nat → Bool) (i:Nat):zll f (i + 1) = zll f i ++ (if f i then [(i:Int)] else []):=zg3 f i
theorem zjj {f:Nat → Bool} {i:Nat} (h:f i = true):zll f (i + 1) = zll f i ++ [(i:Int)]:=by rw [zki,if_pos h]
theorem zot {f:Nat → Bool} {i:Nat} (h:f i = false):zll f (i + 1) = zll f i:=by rw [zki,if_neg (by rw [h]; decide),List.append_nil]
theorem zg9 (f:Nat → Bool) (i:Nat):(zll f i).length ≤ i:=zg2 f i
theorem zn2 {p d way x i} (h:zbe p d way x i = true):zi5 p d way x (i + 1) = 3:=by unfold zi5; rw [zb1,h,Bool.or_true]; rfl
theorem zpn {p d way x i} (h:zbe p d way x i = false):zi5 p d way x (i + 1) = zi5 p d way x i:=by unfold zi5; rw [zb1,h,Bool.or_false]
theorem zmr {p d way x}:zdk p d way x 0 = zi5 p d way x p.ways.length:=by unfold zdk zi5; simp
theorem zpo {p d way x s} (h:zb0 d x s = false):zdk p d way x (s + 1) = zdk p d way x s:=by unfold zdk; rw [zb1,h,Bool.or_false]
theorem zmq {p d way x s} (h:zb0 d x s = true) (h0:zdk p d way x s = 0):zdk p d way x (s + 1) = 4:=by
 unfold zdk at *;rw [zb1,h,Bool.or_true];split at h0
 ·omega
 ·rename_i e; rw [if_neg e]; rfl
theorem zn3 {p d way x s} (h:zb0 d x s = true) (h0:zdk p d way x s ≠ 0):zdk p d way x (s + 1) = zdk p d way x s:=by
 unfold zdk at *;rw [zb1,h,Bool.or_true];split at h0
 ·rename_i e; rw [if_pos e,if_pos e]
 ·rename_i e
  rw [if_neg e,if_neg e];split at h0
  ·rename_i e2; rw [if_pos rfl,if_pos e2]
  ·omega
theorem zlf {p d x k} (h:zd6 p d x k = true):zcd p d x (k + 1) = 5:=by unfold zcd; rw [zb1,h,Bool.or_true]; rfl
theorem zev {p d x k} (h:zd6 p d x k = false) (h2:zea p d x k = false):zcd p d x (k + 1) = zcd p d x k:=by unfold zcd; rw [zb1,zb1,h,h2,Bool.or_false,Bool.or_false]
theorem zjb {p d x k} (h:zd6 p d x k = false) (h2:zea p d x k = true) (h0:zcd p d x k = 0):zcd p d x (k + 1) = 6:=by
 unfold zcd at *;rw [zb1,zb1,h,h2,Bool.or_false,Bool.or_true];split at h0
 ·omega
 ·rename_i e; rw [if_neg e]; rfl
theorem zj4 {p d x k} (h:zd6 p d x k = false) (h2:zea p d x k = true) (h0:zcd p d x k ≠ 0):zcd p d x (k + 1) = zcd p d x k:=by
 unfold zcd at *;rw [zb1,zb1,h,h2,Bool.or_false,Bool.or_true];split at h0
 ·rename_i e; rw [if_pos e,if_pos e]
 ·rename_i e
  rw [if_neg e,if_neg e];split at h0
  ·rename_i e2; rw [if_pos rfl,if_pos e2]
  ·omega
end Go.Proofs.YtdhinkgjiapigabGreatDoor
namespace Go.Proofs.YtdhinkgjiapigabGreatDoor
open Go.RowKit Go.Deep
theorem zre (w:World) (t0 t1 t2 t3 t4:TypeId) (c0 c1 c2 c3 c4:Array Value):Boxes w [(t0,c0),(t1,c1),(t2,c2),(t3,c3),(t4,c4)] (((((w.alloc (.cells c0 t0)).alloc (.cells c1 t1)).alloc (.cells c2 t2)).alloc (.cells c3 t3)).alloc (.cells c4 t4)):=
 ((zbs w t0 t1 t2 c0 c1 c2).snoc (by simp) t3 c3).snoc (by simp) t4 c4
def St (b:Nat) (Wp W:World) (k:Nat) (u:Nat → Value) (v:Value) (l:List Int):Prop:=
 But (fun c=>c ≠ b) Wp W ∧ W.rowIs b 77 3 (fun i=>if i = k then v else u i) ∧ ∃ m,W.ownsRow Wp.heap.size 3 1 v m (zcg l)
theorem St.call {b:Nat} {Wp W W':World} {k:Nat} {u:Nat → Value} {v:Value} {l:List Int} (h:St b Wp W k u v l) (hb:Below W.heap.size W W'):St b Wp W' k u v l:=by
 obtain ⟨h1,h2,m,h3⟩:=h;exact ⟨h1.call hb,zah h2 hb,m,za3 (K:=fun _=>True) h3 (But.of_calls hb) fun _ _=>trivial⟩
theorem St.snoc {b:Nat} {Wp W W2:World} {k:Nat} {u:Nat → Value} {v v':Value} {l:List Int} {x:Int} {m m':Nat} (h:St b Wp W k u v l) (hb:b < Wp.heap.size) (hown:W.ownsRow Wp.heap.size 3 1 v m (zcg l)) (hg:(W.alloc (.cells #[.int .i64 x] 3)).grownBy W2 v.ownBlock) (hown':W2.ownsRow Wp.heap.size 3 1 v' m' (zcg l ++ [.int .i64 x])) :
  St b Wp (W2.setCell ⟨b,k,none⟩ v') k u v' (l ++ [x]):=by
 obtain ⟨h1,h2,-⟩:=h
 have hB:But (fun c=>c < Wp.heap.size) W W2:=by
  refine (But.of_calls (zab W _)).trans ⟨hg.os,hg.tape,hg.output,hg.size,fun c hc hk=>hg.block c hc fun e=>?_⟩;have:=(zat hown e.symm).1;omega
 refine ⟨?_,?_,m',?_⟩
 ·refine But.setCell ⟨hB.os.trans h1.os,hB.tape.trans h1.tape,hB.output.trans h1.output,Nat.le_trans h1.size hB.size,fun c hc hk=>?_⟩ (fun z=>z rfl) _;exact (hB.block c (Nat.lt_of_lt_of_le hc h1.size) hc).trans (h1.block c hc hk)
 ·refine ((hB.row h2 hb).set k v').congr fun i hi=>?_;by_cases e:i = k
  ·rw [if_pos e,if_pos e]
  ·rw [if_neg e,if_neg e,if_neg e]
 ·rw [zc4]
  exact za3 (K:=fun c=>c ≠ b) hown' ((But.refl _ _).setCell (fun z=>z rfl) _) fun g hg'=>by have:=(zat hown' hg').1; omega
theorem St.grown {b:Nat} {Wp W W2:World} {k:Nat} {u:Nat → Value} {v:Value} {l:List Int} {x:Int} {m:Nat} (h:St b Wp W k u v l) (hb:b < Wp.heap.size) (hown:W.ownsRow Wp.heap.size 3 1 v m (zcg l)) (hg:(W.alloc (.cells #[.int .i64 x] 3)).grownBy W2 v.ownBlock):W2.rowIs b 77 3 (fun i=>if i = k then v else u i):=by
 have hB:But (fun c=>c < Wp.heap.size) W W2:=by
  refine (But.of_calls (zab W _)).trans ⟨hg.os,hg.tape,hg.output,hg.size,fun c hc hk=>hg.block c hc fun e=>?_⟩;have:=(zat hown e.symm).1;omega
 exact hB.row h.2.1 hb
theorem St.ready {b:Nat} {Wp W:World} {k:Nat} {u:Nat → Value} {v:Value} {l:List Int} (h:St b Wp W k u v l) (hl:l.length ≤ 1048576) (x:Int) :
  ∃ m a c,v = .slice a m c ∧ W.ownsRow Wp.heap.size 3 1 v m (zcg l) ∧ (W.alloc (.cells #[.int .i64 x] 3)).ownsRow Wp.heap.size 3 1 v m (zcg l) ∧
   (1 = 0 ∨ ∃ A,(some (⟨W.heap.size,0,none⟩:Addr)) = some A ∧ ∀ j u,([.int .i64 x]:List Value)[j]? = some u → (W.alloc (.cells #[.int .i64 x] 3)).cell? (A.add j) = some u) ∧ (∀ u ∈ ([.int .i64 x]:List Value),u.oneCell' = true) ∧ m + 1 ≤ maxLen ∧ (m + 1) * 8 ≤ 140737488355328 ∧ Wp.heap.size ≤ (W.alloc (.cells #[.int .i64 x] 3)).heap.size:=by
 obtain ⟨h1,-,m,h3⟩:=h;obtain ⟨a,c,hv⟩:=zag h3
 have hm:m ≤ 1048576:=by have:=h3.1; rw [zbt] at this; omega
 refine ⟨m,a,c,hv,h3,za3 (K:=fun _=>True) h3 (But.of_calls (zab _ _)) fun _ _=>trivial,.inr ⟨_,rfl,fun j u hj=>?_⟩,fun u hu=>?_,by unfold maxLen; omega,by omega,Nat.le_trans h1.size (zab W _).size⟩
 ·rw [zbp,Nat.zero_add];have hj1:j < 1:=(List.getElem?_eq_some_iff.1 hj).1
  obtain rfl:j = 0:=by omega
  rw [(zak W 3 #[.int .i64 x]).cell (by simp)];exact hj
 ·simp at hu;subst hu;rfl
end Go.Proofs.YtdhinkgjiapigabGreatDoor
namespace Go.Proofs.YtdhinkgjiapigabGreatDoor
open Go.RowKit Go.Deep
open Classical
theorem zfb (u v:Value) (l r:List Int) (w:World) (hu:Ints (In w) w u l) (hv:Ints (In w) w v r) (hl:l.length ≤ 1048576) (hr:r.length ≤ 1048576) :
  Calls Tryz.prog 161 #[u,v] w fun e w'=>e = .returned (.bool (zdm l r)) ∧ Below w.heap.size w w':=by
 refine (zbx u v l r w hu hv hl hr).mono ?_;rintro e w' ⟨rfl,rfl⟩;exact ⟨by rw [zqy],Below.refl _ _⟩
theorem Boxes.butc {w:World} {bs:List (TypeId × Array Value)} {W W':World} {b:Nat} (h:Boxes w bs W) (hB:But (fun c=>c ≠ b) W W') {j i:Nat} {t:TypeId} {c:Array Value} {v:Value} (hj:bs[j]? = some (t,c)) (hi:c[i]? = some v) (hk:w.heap.size + j ≠ b):W'.cell? ⟨w.heap.size + j,i,Option.none⟩ = some v:=
 hB.cell (h.cell hj hi) hk
theorem zpl {P:Nat → Prop} {w:World} {v:Value} {l:List (List Bool)} {i:Nat} {r:List Bool} (h:Rows2 P w v l) (hi:l[i]? = some r):∃ b off c v0,v = .slice (some ⟨b,off,none⟩) l.length c ∧ P b ∧ w.cell? ⟨b,off + i,none⟩ = some v0 ∧ Bools P w v0 r:=by
 have hl:=(List.getElem?_eq_some_iff.1 hi).1;obtain ⟨a,c,rfl,h0 | ⟨b,off,rfl,hb,he⟩⟩:=h
 ·omega
 ·obtain ⟨v0,h1,h2⟩:=he i hl r hi;exact ⟨b,off,c,v0,rfl,hb,h2,h1⟩
theorem zj6 {P:Nat → Prop} {w:World} {v:Value} {l:List HeldD} {i:Nat} {x:HeldD} (h:Helds P w v l) (hi:l[i]? = some x):∃ b off c,v = .slice (some ⟨b,off,none⟩) l.length c ∧ P b ∧ w.cell? ⟨b,off + i * 5,none⟩ = some (.int .i64 x.state):=by
 have hl:=(List.getElem?_eq_some_iff.1 hi).1;obtain ⟨a,c,rfl,h0 | ⟨b,off,rfl,hb,he⟩⟩:=h
 ·omega
 ·obtain ⟨v2,-,h1,-⟩:=he i hl x hi;exact ⟨b,off,c,rfl,hb,h1⟩
theorem zl3 {P:Nat → Prop} {w:World} {v:Value} {l:List (Int × Int)} {i:Nat} {x:Int × Int} (h:Lies P w v l) (hi:l[i]? = some x):∃ b off c,v = .slice (some ⟨b,off,none⟩) l.length c ∧ P b ∧ w.cell? ⟨b,off + i * 2,none⟩ = some (.int .i64 x.1) ∧ w.cell? ⟨b,off + i * 2 + 1,none⟩ = some (.int .i64 x.2):=by
 have hl:=(List.getElem?_eq_some_iff.1 hi).1;obtain ⟨a,c,rfl,h0 | ⟨b,off,rfl,hb,he⟩⟩:=h
 ·omega
 ·exact ⟨b,off,c,rfl,hb,he i hl x hi⟩
theorem zje {P:Nat → Prop} {w:World} {v:Value} {l:List Int} {i:Nat} {x:Int} (h:Ints P w v l) (hi:l[i]? = some x):∃ b off c,v = .slice (some ⟨b,off,none⟩) l.length c ∧ P b ∧ w.cell? ⟨b,off + i,none⟩ = some (.int .i64 x):=by
 have hl:=(List.getElem?_eq_some_iff.1 hi).1;obtain ⟨a,c,rfl,h0 | ⟨b,off,rfl,hb,he⟩⟩:=h
 ·omega
 ·exact ⟨b,off,c,rfl,hb,he i hl x hi⟩
theorem zop (l:List (Int × Int)) (y:Int × Int) (k:Int):zfa (l ++ [y]) k = if y.1 = k then y.2 else zfa l k:=by
 unfold zfa;rw [List.foldl_append];rfl
theorem zls {p:PlanD} {d:FrameD} {i j:Nat} {x y:WayD} {h:HeldD} {b:Bool} (hy:p.ways[j]? = some y) (hh:d.ways[j]? = some h) (hb:p.bar i j = some b):zbe p d i x j = (j != i && h.state != 0 && (b || zdm x.sections y.over || zdm x.over y.sections)):=by
 unfold zbe; rw [hy,hh,hb]; rfl
theorem St.cell {b:Nat} {Wp W:World} {k:Nat} {u:Nat → Value} {v:Value} {l:List Int} (h:St b Wp W k u v l) (j:Nat) (hj:j < 3):W.cell? ⟨b,j,none⟩ = some (if j = k then v else u j):=h.2.1.cell hj
theorem St.next {b:Nat} {Wp W:World} {k:Nat} {u:Nat → Value} {v:Value} {l:List Int} (h:St b Wp W k u v l) (k':Nat) (u':Nat → Value) (v':Value) (hv:v' = .slice none 0 0) (hu:∀ j,(if j = k' then v' else u' j) = if j = k then v else u j):St b W W k' u' v' []:=by
 subst hv;exact ⟨But.refl _ _,h.2.1.congr fun j _=>(hu j).symm,0,World.ownsRow_nil _ _ _ _⟩
theorem zdz {P:Nat → Prop} {w:World} {v:Value} {l:List Bool} {i:Nat} {x:Bool} (h:Bools P w v l) (hi:l[i]? = some x):∃ b off c,v = .slice (some ⟨b,off,none⟩) l.length c ∧ P b ∧ w.cell? ⟨b,off + i,none⟩ = some (.bool x):=by
 have hl:=(List.getElem?_eq_some_iff.1 hi).1;obtain ⟨a,c,rfl,h0 | ⟨b,off,rfl,hb,he⟩⟩:=h
 ·omega
 ·exact ⟨b,off,c,rfl,hb,he i hl x hi⟩
set_option maxRecDepth 100000 in
set_option maxHeartbeats 8000000 in
theorem zli (p1 p2 p3 f1 f2 f3:Value) (p:PlanD) (d:FrameD) (i:Nat) (x:WayD) (w:World) (hp:PlanAt (In w) w p1 p2 p3 p) (hf:FrameAt (In w) w f1 f2 f3 d) (hs:p.Small 1048576) (hd:d.Small 1048576) (hR:zas p d) (hx:p.ways[i]? = some x) :
  Calls Tryz.prog 117 #[.agg #[.int .i64 p.sections,p1,p2,p3,.int .i64 p.hold],.agg #[.bool d.ok,f1,f2,f3],.int .i64 (i:Int)] w fun e w'=>(∃ g1 n1 k1 g2 n2 k2 g3 n3 k3,e = .returned (.tuple #[.agg #[.slice g1 n1 k1,.slice g2 n2 k2,.slice g3 n3 k3],.int .i64 (zn4 p d i x)])) ∧ Below w.heap.size w w':=by
 have HP:=zaa hp;have HF:=zaa hf;have HX:=zaa hx;have HR:=zaa hR;have HS:=zaa hs;have HD:=zaa hd;have hil:i < p.ways.length:=(List.getElem?_eq_some_iff.1 hx).1;have hw100:p.ways.length ≤ 100:=hR.1.parts.1.2.2.1;have hs40:p.switches.length ≤ 40:=hR.1.parts.1.2.1;have hs60:p.sections ≤ 60:=hR.1.parts.1.1.2;have hs0:1 ≤ p.sections:=hR.1.parts.1.1.1;obtain ⟨a1,c1,rfl⟩:=hp.1.size;obtain ⟨a2,c2,rfl,hcw⟩:=hp.2.1;obtain h0 | ⟨bw,ow,rfl,hbw,hcw⟩:=hcw
 ·omega
 obtain ⟨a3,c3,rfl⟩:=hp.2.2.size;obtain ⟨o1,m1,rfl⟩:=hf.1.size;obtain ⟨o2,m2,rfl⟩:=hf.2.1.size;obtain ⟨o3,m3,rfl⟩:=hf.2.2.size;obtain ⟨v0,v1,v2,v3,v4,hxa,g0,g1,g2,g3,g4⟩:=hcw i hil x hx;have HXA:=zaa hxa;obtain ⟨s0,t0,rfl⟩:=hxa.1.size;obtain ⟨s1,t1,rfl⟩:=hxa.2.1.size;obtain ⟨s2,t2,rfl⟩:=hxa.2.2.1.size;obtain ⟨s3,t3,rfl⟩:=hxa.2.2.2.1.size;obtain ⟨s4,t4,rfl⟩:=hxa.2.2.2.2.size;have HCW:=zaa hcw;have T5:=zre w 37 42 77 77 122 #[.int .i64 p.sections,.slice a1 p.switches.length c1,.slice (some ⟨bw,ow,none⟩) p.ways.length c2,.slice a3 p.bars.length c3,.int .i64 p.hold] #[.bool d.ok,.slice o1 d.occ.length m1,.slice o2 d.points.length m2,.slice o3 d.ways.length m3] #[.slice none 0 0,.slice none 0 0,.slice none 0 0] #[.slice none 0 0,.slice none 0 0,.slice none 0 0] #[.slice s0 x.sections.length t0,.slice s1 x.lies.length t1,.slice s2 x.flanks.length t2,.slice s3 x.over.length t3,.slice s4 x.near.length t4];have T4:=(zbs w 37 42 77 #[.int .i64 p.sections,.slice a1 p.switches.length c1,.slice (some ⟨bw,ow,none⟩) p.ways.length c2,.slice a3 p.bars.length c3,.int .i64 p.hold] #[.bool d.ok,.slice o1 d.occ.length m1,.slice o2 d.points.length m2,.slice o3 d.ways.length m3] #[.slice none 0 0,.slice none 0 0,.slice none 0 0]).snoc (by simp) 77 #[.slice none 0 0,.slice none 0 0,.slice none 0 0];have k0:=ckb g0 T4.below;have k1:=ckb g1 T4.below;have k2:=ckb g2 T4.below;have k3:=ckb g3 T4.below;have k4:=ckb g4 T4.below;clear T4 g0 g1 g2 g3 g4
 have hil':(i:Int) < (p.ways.length:Int):=by omega
 have hbl:bw < w.heap.size:=hbw;clear hp hf hs hd hR hx hcw hxa;go_enter Tryz.func117,Tryz.ntmps117;go_wp2;clear k0 k1 k2 k3 k4;generalize hw5:(((((w.alloc _).alloc _).alloc _).alloc _).alloc _) = w5 at T5 ⊢;have HT5:=zaa T5;have hz5:w.heap.size + 1 + 1 + 1 < w5.heap.size:=T5.lt (j:=3) rfl;have HBW:Hid (w.heap.size + 1 + 1 + 1 < w5.heap.size):=hz5
 have ST0:St (w.heap.size + 1 + 1 + 1) w5 w5 0 (fun _=>.slice none 0 0) (.slice none 0 0) []:=⟨But.refl _ _,(T5.row 3 _ _ rfl).congr fun j hj=>by
  rw [ite_self];rcases j with _ | _ | _ | j
  ·rfl
  ·rfl
  ·rfl
  ·simp at hj; omega,0,World.ownsRow_nil _ _ _ _⟩
 have hk5:∀ W,But (fun c=>c ≠ w.heap.size + 1 + 1 + 1) w5 W → Below w.heap.size w W:=fun W h=>HT5.out.below.trans (h.below HT5.out.below.size fun c hc=>by omega);have KB:=zaa hk5;clear hk5 T5 hw5 hz5
 go_loopw [9,28] (fun cd z wr=>∃ (j:Nat) (v:Value),j ≤ p.ways.length ∧ z = .int .i64 j ∧ cd = .int .i64 (zi5 p d i x j) ∧ St (w.heap.size + 1 + 1 + 1) w5 wr 0 (fun _=>.slice none 0 0) v (zll (zbe p d i x) j)) (fun _ z _=>p.ways.length - (intOf z).toNat)
 case atStart=>exact ⟨0,_,Nat.zero_le _,rfl,by unfold zi5; simp,ST0⟩
 case round=>
  obtain ⟨j,v,hj,rfl,rfl,hst⟩:=hrel;rename World=>wA;have HST:=zaa hst;clear hst ST0;by_cases hlt:j < p.ways.length
  ·obtain ⟨y,hy⟩:=zac p.ways (zaa rfl) hlt;obtain ⟨h,hh⟩:=zac d.ways (zaa HR.out.2.2.2.2.1) hlt;obtain ⟨r,bb,hr,hrl,hrb,hbar⟩:=HR.out.1.row hil hlt;have hB:=KB.out _ HST.out.1;have KP:=HP.out.keep (Q:=In wA) (In.keep hB).1 (In.keep hB).2;have KF:=HF.out.keep (Q:=In wA) (In.keep hB).1 (In.keep hB).2;have KX:=HXA.out.keep (Q:=In wA) (In.keep hB).1 (In.keep hB).2;obtain ⟨b3,of3,cc3,vr,e3,-,gr,hbo⟩:=zpl KP.2.2 hr;obtain ⟨br,orr,cr,rfl,-,gb⟩:=zdz hbo hrb;obtain ⟨bh,oh,ch,e4,-,gh⟩:=zj6 KF.2.2 hh
   cases e3
   cases e4
   obtain ⟨u0,u1,u2,u3,u4,hya,q0,q1,q2,q3,q4⟩:=HCW.out j hlt y hy;have KY:=hya.keep (Q:=In wA) (In.keep hB).1 (In.keep hB).2;obtain ⟨y0,z0,rfl⟩:=hya.1.size;obtain ⟨y3,z3,rfl⟩:=hya.2.2.2.1.size;have q0':=ckb q0 hB;have q3':=ckb q3 hB;have P2:wA.cell? ⟨w.heap.size,2,none⟩ = _:=HT5.out.butc HST.out.1 (j:=0) (i:=2) rfl rfl (by omega);have P3:wA.cell? ⟨w.heap.size,3,none⟩ = _:=HT5.out.butc HST.out.1 (j:=0) (i:=3) rfl rfl (by omega);have F3:wA.cell? ⟨w.heap.size + 1,3,none⟩ = _:=HT5.out.butc HST.out.1 (j:=1) (i:=3) rfl rfl (by omega);have W0:wA.cell? ⟨w.heap.size + 1 + 1 + 1 + 1,0,none⟩ = _:=HT5.out.butc HST.out.1 (j:=4) (i:=0) rfl rfl (by omega);have W3:wA.cell? ⟨w.heap.size + 1 + 1 + 1 + 1,3,none⟩ = _:=HT5.out.butc HST.out.1 (j:=4) (i:=3) rfl rfl (by omega);have hwb:=zls (x:=x) hy hh hbar;have HWB:=zaa hwb;have hys:=HS.out.2.2.1 y (List.mem_of_getElem? hy);have hxs:=HS.out.2.2.1 x (List.mem_of_getElem? HX.out)
   have hc1:∀ nn:Ext wA,Calls Tryz.prog 161 #[.slice s0 x.sections.length t0,.slice y3 y.over.length z3] nn.w fun e w'=>e = .returned (.bool (zdm x.sections y.over)) ∧ Below nn.w.heap.size nn.w w':=fun nn=>
    zfb _ _ _ _ nn.w (KX.1.keep (In.keep nn.below).1 (In.keep nn.below).2) (KY.2.2.2.1.keep (In.keep nn.below).1 (In.keep nn.below).2) hxs.1 hys.2.2.2.1
   have hc2:∀ nn:Ext wA,Calls Tryz.prog 161 #[.slice s3 x.over.length t3,.slice y0 y.sections.length z0] nn.w fun e w'=>e = .returned (.bool (zdm x.over y.sections)) ∧ Below nn.w.heap.size nn.w w':=fun nn=>
    zfb _ _ _ _ nn.w (KX.2.2.2.1.keep (In.keep nn.below).1 (In.keep nn.below).2) (KY.1.keep (In.keep nn.below).1 (In.keep nn.below).2) hxs.2.2.2.1 hys.1
   have HC1:=zaa hc1;have HC2:=zaa hc2;obtain ⟨mA,hmA⟩:∃ c,zdm x.sections y.over = c:=⟨_,rfl⟩;obtain ⟨mB,hmB⟩:∃ c,zdm x.over y.sections = c:=⟨_,rfl⟩;rw [hmA] at HC1 HWB;rw [hmB] at HC2 HWB;have hnx:=Ext.any wA;have xP2:=Ext.cell P2;have xP3:=Ext.cell P3;have xF3:=Ext.cell F3;have xW0:=Ext.cell W0;have xW3:=Ext.cell W3;have xq0:=Ext.cell q0';have xq3:=Ext.cell q3';have xgr:=Ext.cell gr;have xgb:=Ext.cell gb;have xgh:=Ext.cell gh
   have hlt':(j:Int) < (p.ways.length:Int):=by omega
   have hlh':(j:Int) < (d.ways.length:Int):=by have:=HR.out.2.2.2.2.1; omega
   have hlb':(i:Int) < (p.bars.length:Int):=by have:=(List.getElem?_eq_some_iff.1 hr).1; omega
   have hlr':(j:Int) < (r.length:Int):=by omega
   clear hc1 hc2 hy hh hr hrl hrb hbar KP KF KX KY hya q0 q1 q2 q3 q4 hwb hys hxs hmA hmB hbo P2 P3 F3 W0 W3 q0' q3' gr gb gh
   go_upto_region 7 with fail
   go_cut [74] (fun c wx=>c = .bool (zbe p d i x j) ∧ Below wA.heap.size wA wx)
   case first=>
    by_cases e1:j = i
    ·subst e1;have E1:=zaa (show zbe p d j x j = false by rw [HWB.out]; simp)
     have e1':((j:Int) != (j:Int)) = false:=by simp
     refine zaj (by kernel_rfl) (by kernel_rfl) ?_
     repeat (go_big_quiet_step ((go_at_call 161; first | with_reducible exact zaz (HC1.out _) | with_reducible exact zaz (HC2.out _))))
     refine wpQuiet_nil ?_;rintro _ ⟨nn,rfl⟩;go_wp2;go_meet
     case rel=>
      exact ⟨congrArg Value.bool E1.out.symm,nn.below⟩
    have e1':((j:Int) != (i:Int)) = true:=by simp; omega
    have e1n:(j != i) = true:=by simp [e1]
    by_cases e2:h.state = 0
    ·have E1:=zaa (show zbe p d i x j = false by rw [HWB.out,e2]; simp)
     have e2':(h.state != 0) = false:=by simp [e2]
     clear e2 e1 e1n;refine zaj (by kernel_rfl) (by kernel_rfl) ?_
     repeat (go_big_quiet_step ((go_at_call 161; first | with_reducible exact zaz (HC1.out _) | with_reducible exact zaz (HC2.out _))))
     refine wpQuiet_nil ?_;rintro _ ⟨nn,rfl⟩;go_wp2;go_meet
     case rel=>
      exact ⟨congrArg Value.bool E1.out.symm,nn.below⟩
    have e2':(h.state != 0) = true:=by simp [e2]
    have HWC:=zaa (show zbe p d i x j = (bb || mA || mB) by rw [HWB.out,e1n,e2']; rfl);clear e1 e1n e2 HWB
    cases bb
    ·cases mA
     ·have E1:Hid (zbe p d i x j = mB):=HWC.out;clear HWC;refine zaj (by kernel_rfl) (by kernel_rfl) ?_
      repeat (go_big_quiet_step ((go_at_call 161; first | with_reducible exact zaz (HC1.out _) | with_reducible exact zaz (HC2.out _))))
      refine wpQuiet_nil ?_;rintro _ ⟨nn,rfl⟩;go_wp2;go_meet
      case rel=>
       exact ⟨congrArg Value.bool E1.out.symm,nn.below⟩
     ·have E1:Hid (zbe p d i x j = true):=HWC.out;clear HWC;refine zaj (by kernel_rfl) (by kernel_rfl) ?_
      repeat (go_big_quiet_step ((go_at_call 161; first | with_reducible exact zaz (HC1.out _) | with_reducible exact zaz (HC2.out _))))
      refine wpQuiet_nil ?_;rintro _ ⟨nn,rfl⟩;go_wp2;go_meet
      case rel=>
       exact ⟨congrArg Value.bool E1.out.symm,nn.below⟩
    ·have E1:Hid (zbe p d i x j = true):=HWC.out;clear HWC;refine zaj (by kernel_rfl) (by kernel_rfl) ?_
     repeat (go_big_quiet_step ((go_at_call 161; first | with_reducible exact zaz (HC1.out _) | with_reducible exact zaz (HC2.out _))))
     refine wpQuiet_nil ?_;rintro _ ⟨nn,rfl⟩;go_wp2;go_meet
     case rel=>
      exact ⟨congrArg Value.bool E1.out.symm,nn.below⟩
   case rest=>
    obtain ⟨rfl,hbc⟩:=hcut;have HSC:=zaa (HST.out.call hbc);clear HST hbc xP2 xP3 xF3 xW0 xW3 xq0 xq3 xgr xgb xgh;have HLEN:Hid ((zll (zbe p d i x) j).length ≤ 1048576):=Nat.le_trans (zg9 _ _) (by omega);obtain ⟨wb,hwb⟩:∃ c,zbe p d i x j = c:=⟨_,rfl⟩;have HW2:=zaa hwb;rw [hwb];clear hwb HWB
    cases wb
    ·go_wp2;go_roundw
     case rel=>exact ⟨j + 1,v,by omega,by go_num,by rw [zpn HW2.out],by rw [zot HW2.out]; exact HSC.out⟩
     case measure=>simp [intOf]; omega
    ·
     obtain ⟨m,av,cv,rfl,how,howA,hsrc,hone,hm7,hm8,hzz⟩:=St.ready HSC.out HLEN.out (j:Int);have HOW:=zaa how;have OWY:=zaa howA;have SRC:=zaa hsrc;have ONE:=zaa hone;have HM7:=zaa hm7;have HM8:=zaa hm8;have HZY:=zaa hzz;obtain ⟨xs,hxs⟩:∃ xs,xs = zcg (zll (zbe p d i x) j):=⟨_,rfl⟩;have HXS:=zaa hxs;rw [← hxs] at OWY
     have c0:wc.cell? ⟨w.heap.size + 1 + 1 + 1,0,none⟩ = some (.slice av m cv):=by have:=HSC.out.cell 0 (by omega); rw [if_pos rfl] at this; exact this
     clear how howA hsrc hone hm7 hm8 hzz hxs
     go_wp2_with (at_builtin; refine zai rfl _ _ 22 rfl w5.heap.size 3 (.int .i64 0) 1 8 Tryz.underlying22 Tryz.infoInt rfl (by decide) _ m xs rfl OWY.out (some ⟨wc.heap.size,0,none⟩) 1 1 [.int .i64 (j:Int)] rfl rfl SRC.out ONE.out HM7.out HM8.out HZY.out ?_)
     clear c0;intro u5 w6 hown5 hgr5;obtain ⟨a6,c6,rfl⟩:=zag hown5
     have hown6:w6.ownsRow w5.heap.size 3 1 (.slice a6 (m + 1) c6) (m + 1) (zcg (zll (zbe p d i x) j) ++ [.int .i64 (j:Int)]):=by rw [← HXS.out]; exact hown5
     have hrow:=HSC.out.grown HBW.out HOW.out hgr5
     have r0:w6.cell? ⟨w.heap.size + 1 + 1 + 1,0,none⟩ = some (.slice av m cv):=by have:=hrow.cell (i:=0) (by omega); rw [if_pos rfl] at this; exact this
     have r1:w6.frozen? ⟨w.heap.size + 1 + 1 + 1,0,none⟩ = false:=hrow.frozen 0;have SN:=zaa (HSC.out.snoc HBW.out HOW.out hgr5 hown6);clear hown5 hown6 hgr5 hrow OWY SRC ONE;go_wp2;go_roundw
     case rel=>exact ⟨j + 1,_,by omega,by go_num,by rw [zn2 HW2.out],by rw [zjj HW2.out]; exact SN.out⟩
     case measure=>simp [intOf]; omega
  ·have hje:j = p.ways.length:=by omega
   subst hje;obtain ⟨mv0,hov⟩:=HST.out.2.2;obtain ⟨av0,cv0,rfl⟩:=zag hov;clear hov
   have HSTA:=zaa (HST.out.next 1 (fun k=>if k = 0 then (.slice av0 mv0 cv0) else .slice none 0 0) (.slice none 0 0) rfl fun k=>by
    by_cases e:k = 0
    ·subst e; rfl
    ·rw [if_neg e]; split <;> rfl)
   have HBA:=zaa HST.out.1;have HBW:Hid (w.heap.size + 1 + 1 + 1 < wA.heap.size):=Nat.lt_of_lt_of_le HBW.out HST.out.1.size;clear hlt hj HST;have P0:wA.cell? ⟨w.heap.size,0,none⟩ = _:=HT5.out.butc HBA.out (j:=0) (i:=0) rfl rfl (by omega);go_wp2;clear P0
   go_loopw [9,12] (fun cd z wr=>∃ (s:Nat) (v2:Value),(s:Int) ≤ p.sections ∧ z = .int .i64 s ∧ cd = .int .i64 (zdk p d i x s) ∧ St (w.heap.size + 1 + 1 + 1) wA wr 1 (fun k=>if k = 0 then (.slice av0 mv0 cv0) else .slice none 0 0) v2 (zll (zb0 d x) s)) (fun _ z _=>p.sections.toNat - (intOf z).toNat)
   case atStart=>exact ⟨0,_,by omega,rfl,by rw [zmr],HSTA.out⟩
   case round=>
    obtain ⟨s,v2,hsl,rfl,rfl,hst⟩:=hrel;rename World=>wB;have HST:=zaa hst;have HBB:=zaa (HBA.out.trans hst.1);clear hst HSTA;have P0:wB.cell? ⟨w.heap.size,0,none⟩ = _:=HT5.out.butc HBB.out (j:=0) (i:=0) rfl rfl (by omega);have F1:wB.cell? ⟨w.heap.size + 1,1,none⟩ = _:=HT5.out.butc HBB.out (j:=1) (i:=1) rfl rfl (by omega);have W0:wB.cell? ⟨w.heap.size + 1 + 1 + 1 + 1,0,none⟩ = _:=HT5.out.butc HBB.out (j:=4) (i:=0) rfl rfl (by omega);have W3:wB.cell? ⟨w.heap.size + 1 + 1 + 1 + 1,3,none⟩ = _:=HT5.out.butc HBB.out (j:=4) (i:=3) rfl rfl (by omega);by_cases hlt:(s:Int) < p.sections
    ·obtain ⟨o,ho⟩:=zac d.occ (zaa rfl) (show s < d.occ.length by have:=HR.out.2.2.1; omega);have hB:=KB.out _ HBB.out;have KF:=HF.out.keep (Q:=In wB) (In.keep hB).1 (In.keep hB).2;have KX:=zaa (HXA.out.keep (Q:=In wB) (In.keep hB).1 (In.keep hB).2);obtain ⟨bo,oo,co,e4,-,gh⟩:=zdz KF.1 ho
     cases e4
     have hsb:zb0 d x s = (o && (zdm [(s:Int)] x.sections || zdm [(s:Int)] x.over)):=by unfold zb0 za1; rw [show ((s:Int)).toNat = s by simp,ho]
     have HSB:=zaa hsb;have hxs:=HS.out.2.2.1 x (List.mem_of_getElem? HX.out)
     have hls':(s:Int) < (d.occ.length:Int):=by have:=HR.out.2.2.1; omega
     have one:∀ W:World,Ints (In (W.alloc (.cells #[.int .i64 (s:Int)] 3))) (W.alloc (.cells #[.int .i64 (s:Int)] 3)) (.slice (some ⟨W.heap.size,0,none⟩) 1 1) [(s:Int)]:=fun W=>⟨_,1,rfl,.inr ⟨W.heap.size,0,rfl,by simp [In],fun k hk z hz=>by
      obtain rfl:k = 0:=by simp at hk; omega
      simp at hz;subst hz
      simp⟩⟩
     have HONE:=zaa one;clear hsb one ho KF
     go_upto_region 14 with fail
     go_cut [106] (fun c wx=>c = .bool (zb0 d x s) ∧ Below wB.heap.size wB wx)
     case first=>
      cases o
      ·go_wp2;go_meet
       case rel=>exact ⟨congrArg Value.bool (by rw [HSB.out]; rfl),Below.refl _ _⟩
      ·have W0':(wB.alloc (.cells #[.int .i64 (s:Int)] 3)).cell? ⟨w.heap.size + 1 + 1 + 1 + 1,0,none⟩ = _:=ckb W0 (zab wB (.cells #[.int .i64 (s:Int)] 3))
       go_wp2_with fail
       refine (zfb _ _ _ _ _ (HONE.out _) (KX.out.1.keep (In.keep (zab _ _)).1 (In.keep (zab _ _)).2) (by simp) hxs.1).mono ?_;rintro e w2 ⟨rfl,hb2⟩;obtain ⟨mA,hmA⟩:∃ c,zdm [(s:Int)] x.sections = c:=⟨_,rfl⟩;rw [hmA] at HSB ⊢;have B2:=zaa ((zab wB (.cells #[.int .i64 (s:Int)] 3)).trans (hb2.mono (zab wB (.cells #[.int .i64 (s:Int)] 3)).size));have W3:w2.cell? ⟨w.heap.size + 1 + 1 + 1 + 1,3,none⟩ = _:=ckb W3 B2.out;clear W0 W0' P0 F1 gh hb2 hmA
       cases mA
       ·have W3':(w2.alloc (.cells #[.int .i64 (s:Int)] 3)).cell? ⟨w.heap.size + 1 + 1 + 1 + 1,3,none⟩ = _:=ckb W3 (zab w2 (.cells #[.int .i64 (s:Int)] 3))
        go_wp2_with fail
        refine (zfb _ _ _ _ _ (HONE.out _) ((KX.out.2.2.2.1.keep (In.keep B2.out).1 (In.keep B2.out).2).keep (In.keep (zab _ _)).1 (In.keep (zab _ _)).2) (by simp) hxs.2.2.2.1).mono ?_;rintro e w3 ⟨rfl,hb3⟩;have B3:=zaa (B2.out.trans (((zab w2 (.cells #[.int .i64 (s:Int)] 3)).trans (hb3.mono (zab w2 (.cells #[.int .i64 (s:Int)] 3)).size)).mono B2.out.size));clear W3 W3' hb3;go_wp2;go_meet
        case rel=>exact ⟨congrArg Value.bool (by rw [HSB.out]; rfl),B3.out⟩
       ·go_wp2;go_meet
        case rel=>exact ⟨congrArg Value.bool (by rw [HSB.out]; rfl),B2.out⟩
     case rest=>
      obtain ⟨rfl,hbc⟩:=hcut;have HSC:=zaa (HST.out.call hbc);clear HST hbc P0 F1 W0 W3 gh HBB;have HLEN:Hid ((zll (zb0 d x) s).length ≤ 1048576):=Nat.le_trans (zg9 _ _) (by omega);obtain ⟨wb,hwb⟩:∃ c,zb0 d x s = c:=⟨_,rfl⟩;have HW2:=zaa hwb;rw [hwb];clear hwb HSB
      cases wb
      ·go_wp2;go_roundw
       case rel=>exact ⟨s + 1,v2,by omega,by go_num,by rw [zpo HW2.out],by rw [zot HW2.out]; exact HSC.out⟩
       case measure=>simp [intOf]; omega
      ·
       obtain ⟨m,av,cv,rfl,how,howA,hsrc,hone,hm7,hm8,hzz⟩:=St.ready HSC.out HLEN.out (s:Int);have HOW:=zaa how;have OWY:=zaa howA;have SRC:=zaa hsrc;have ONE:=zaa hone;have HM7:=zaa hm7;have HM8:=zaa hm8;have HZY:=zaa hzz;obtain ⟨xs,hxs⟩:∃ xs,xs = zcg (zll (zb0 d x) s):=⟨_,rfl⟩;have HXS:=zaa hxs;rw [← hxs] at OWY
       have c0:wc.cell? ⟨w.heap.size + 1 + 1 + 1,1,none⟩ = some (.slice av m cv):=by have:=HSC.out.cell 1 (by omega); rw [if_pos rfl] at this; exact this
       clear how howA hsrc hone hm7 hm8 hzz hxs
       go_wp2_with (at_builtin; refine zai rfl _ _ 22 rfl wA.heap.size 3 (.int .i64 0) 1 8 Tryz.underlying22 Tryz.infoInt rfl (by decide) _ m xs rfl OWY.out (some ⟨wc.heap.size,0,none⟩) 1 1 [.int .i64 (s:Int)] rfl rfl SRC.out ONE.out HM7.out HM8.out HZY.out ?_)
       clear c0;intro u5 w6 hown5 hgr5;obtain ⟨a6,c6,rfl⟩:=zag hown5
       have hown6:w6.ownsRow wA.heap.size 3 1 (.slice a6 (m + 1) c6) (m + 1) (zcg (zll (zb0 d x) s) ++ [.int .i64 (s:Int)]):=by rw [← HXS.out]; exact hown5
       have hrow:=HSC.out.grown HBW.out HOW.out hgr5
       have r0:w6.cell? ⟨w.heap.size + 1 + 1 + 1,1,none⟩ = some (.slice av m cv):=by have:=hrow.cell (i:=1) (by omega); rw [if_pos rfl] at this; exact this
       have r1:w6.frozen? ⟨w.heap.size + 1 + 1 + 1,1,none⟩ = false:=hrow.frozen 1;have SN:=zaa (HSC.out.snoc HBW.out HOW.out hgr5 hown6);clear hown5 hown6 hgr5 hrow OWY SRC ONE;obtain ⟨cd,hcd⟩:∃ c,zdk p d i x s = c:=⟨_,rfl⟩;rw [hcd];have HCD:=zaa hcd;clear hcd;by_cases ec:cd = 0
       ·have ec':(cd == 0) = true:=by simp [ec]
        have EC:=zaa ec;clear ec;go_wp2;go_roundw
        case rel=>exact ⟨s + 1,_,by omega,by go_num,by rw [zmq HW2.out (HCD.out.trans EC.out)],by rw [zjj HW2.out]; exact SN.out⟩
        case measure=>simp [intOf]; omega
       ·have ec':(cd == 0) = false:=by simp [ec]
        have EC:=zaa ec;clear ec;go_wp2;go_roundw
        case rel=>exact ⟨s + 1,_,by omega,by go_num,by rw [zn3 HW2.out (by rw [HCD.out]; exact EC.out),HCD.out],by rw [zjj HW2.out]; exact SN.out⟩
        case measure=>simp [intOf]; omega
    ·have hse:s = p.sections.toNat:=by omega
     have HSE:=zaa hse;clear hse;obtain ⟨mv2,hov⟩:=HST.out.2.2;obtain ⟨av2,cv2,rfl⟩:=zag hov;clear hov
     have HSTB:=zaa (HST.out.next 2 (fun k=>if k = 0 then (.slice av0 mv0 cv0) else if k = 1 then (.slice av2 mv2 cv2) else .slice none 0 0) (.slice none 0 0) rfl fun k=>by
      rcases k with _ | _ | k
      ·rfl
      ·rfl
      ·simp)
     have HBW:Hid (w.heap.size + 1 + 1 + 1 < wB.heap.size):=Nat.lt_of_lt_of_le HBW.out HST.out.1.size;have P1:wB.cell? ⟨w.heap.size,1,none⟩ = _:=HT5.out.butc HBB.out (j:=0) (i:=1) rfl rfl (by omega);clear hsl HST HBA F1 W0 W3;go_wp2;clear P0 P1 hlt
     go_loopw [13,118] (fun hv z wr=>∃ (k:Nat) (v3:Value) (L:List Int),k ≤ p.switches.length ∧ L.length ≤ k ∧ z = .int .i64 k ∧ hv = .int .i64 (zcd p d x k) ∧ St (w.heap.size + 1 + 1 + 1) wB wr 2 (fun k=>if k = 0 then (.slice av0 mv0 cv0) else if k = 1 then (.slice av2 mv2 cv2) else .slice none 0 0) v3 L) (fun _ z _=>p.switches.length - (intOf z).toNat)
     case atStart=>exact ⟨0,_,[],by omega,by simp,rfl,by unfold zcd; simp,HSTB.out⟩
     case round=>
      obtain ⟨k,v3,L,hkl,hLl,rfl,rfl,hst⟩:=hrel;rename World=>wC;have HST:=zaa hst;have HBC:=zaa (HBB.out.trans hst.1);clear hst HSTB;by_cases hlt:k < p.switches.length
      ·obtain ⟨pt,hpt⟩:=zac d.points (zaa HR.out.2.2.2.1) hlt;obtain ⟨sq,hsq⟩:=zac p.switches (zaa rfl) hlt;have W1:wC.cell? ⟨w.heap.size + 1 + 1 + 1 + 1,1,none⟩ = _:=HT5.out.butc HBC.out (j:=4) (i:=1) rfl rfl (by omega);have W2:wC.cell? ⟨w.heap.size + 1 + 1 + 1 + 1,2,none⟩ = _:=HT5.out.butc HBC.out (j:=4) (i:=2) rfl rfl (by omega);have HPT:=zaa hpt;have HSQ:=zaa hsq
       have hlt':(k:Int) < (p.switches.length:Int):=by omega
       have hlp':(k:Int) < (d.points.length:Int):=by have:=HR.out.2.2.2.1; omega
       have hxs:=HS.out.2.2.1 x (List.mem_of_getElem? HX.out);obtain ⟨-,hx1,hx2,-⟩:=hxs;clear hpt hsq;go_wp2;clear W1 W2;obtain ⟨wD,hwD⟩:∃ W,W = wC.alloc (.cells #[.slice s1 x.lies.length t1,.slice s2 x.flanks.length t2] 120):=⟨_,rfl⟩;rw [← hwD]
       have L0:wD.cell? ⟨wC.heap.size,0,none⟩ = some (.slice s1 x.lies.length t1):=by rw [hwD]; simp
       have L1:wD.cell? ⟨wC.heap.size,1,none⟩ = some (.slice s2 x.flanks.length t2):=by rw [hwD]; simp
       have hCD:Below wC.heap.size wC wD:=by rw [hwD]; exact zab _ _
       have HL0:=zaa L0;have HL1:=zaa L1;have HCD:=zaa hCD;clear hwD L0 L1 hCD
       go_loopw [15,127] (fun lv z wr=>∃ (a:Nat),a ≤ 2 ∧ z = .int .i64 a ∧ lv = .int .i64 (zfa (([x.lies,x.flanks].take a).flatten) k) ∧ Below wD.heap.size wD wr) (fun _ z _=>2 - (intOf z).toNat)
       case atStart=>exact ⟨0,by omega,rfl,by rfl,Below.refl _ _⟩
       case round=>
        obtain ⟨a,ha,rfl,rfl,hDE⟩:=hrel;rename World=>wE;by_cases ha2:a < 2
        ·obtain ⟨lk,ak,ck,hlk,hll,hcell,hflat⟩:∃ (lk:List (Int × Int)) (ak:Option Addr) (ck:Nat),lk.length ≤ 1048576 ∧ Lies (In w) w (.slice ak lk.length ck) lk ∧ wE.cell? ⟨wC.heap.size,a,none⟩ = some (.slice ak lk.length ck) ∧ ([x.lies,x.flanks].take (a + 1)).flatten = ([x.lies,x.flanks].take a).flatten ++ lk:=by
          rcases a with _ | _ | a
          ·exact ⟨x.lies,s1,t1,hx1,HXA.out.2.1,ckb HL0.out hDE,by simp⟩
          ·exact ⟨x.flanks,s2,t2,hx2,HXA.out.2.2.1,ckb HL1.out hDE,by simp⟩
          ·omega
         have HLL:=zaa hll;have HFL:=zaa hflat;have HDE:=zaa hDE;clear hll hflat hDE;go_wp2;clear hcell
         go_loopw [15,133] (fun lv z wr=>∃ (q:Nat),q ≤ lk.length ∧ z = .int .i64 q ∧ lv = .int .i64 (zfa (([x.lies,x.flanks].take a).flatten ++ lk.take q) k) ∧ Below wE.heap.size wE wr) (fun _ z _=>lk.length - (intOf z).toNat)
         case atStart=>exact ⟨0,by omega,rfl,by simp,Below.refl _ _⟩
         case round=>
          obtain ⟨q,hq,rfl,rfl,hEF⟩:=hrel;rename World=>wF;have HEF:=zaa hEF;clear hEF;have hBF:=KB.out _ ((HBC.out.call HCD.out).call (HDE.out.trans (HEF.out.mono HDE.out.size)));by_cases hql:q < lk.length
          ·obtain ⟨y,hy⟩:=zac lk (zaa rfl) hql;obtain ⟨bl,ol,cl,e4,-,g0,g1⟩:=zl3 (HLL.out.keep (Q:=In wF) (In.keep hBF).1 (In.keep hBF).2) hy
           cases e4
           have hql':(q:Int) < (lk.length:Int):=by omega
           have hsn:zfa (([x.lies,x.flanks].take a).flatten ++ lk.take (q + 1)) k = if y.1 = (k:Int) then y.2 else zfa (([x.lies,x.flanks].take a).flatten ++ lk.take q) k:=by
            rw [List.take_add_one,hy,← List.append_assoc];exact zop _ y _
           have HSN:=zaa hsn;have HF2:=zaa (HEF.out.trans ((zab wF (.cells #[.int .i64 y.1,.int .i64 y.2] 175)).mono HEF.out.size));clear hsn hy hBF;by_cases ey:y.1 = (k:Int)
           ·have ey':(y.1 == (k:Int)) = true:=by simp [ey]
            have EY:=zaa ey;clear ey;go_wp2;go_roundw
            case rel=>exact ⟨q + 1,by omega,by go_num,by rw [HSN.out,if_pos EY.out],HF2.out⟩
            case measure=>simp [intOf]; omega
           ·have ey':(y.1 == (k:Int)) = false:=by simp [ey]
            have EY:=zaa ey;clear ey;go_wp2;go_roundw
            case rel=>exact ⟨q + 1,by omega,by go_num,by rw [HSN.out,if_neg EY.out],HF2.out⟩
            case measure=>simp [intOf]; omega
          ·clear hBF;go_wp2;go_roundw
           case rel=>exact ⟨a + 1,by omega,by go_num,by rw [HFL.out,show lk.take q = lk from List.take_of_length_le (by omega)],HDE.out.trans (HEF.out.mono HDE.out.size)⟩
           case measure=>simp [intOf]; omega
        ·have ha3:a = 2:=by omega
         subst ha3;have hST:=HST.out.call (HCD.out.trans (hDE.mono HCD.out.size));have HSE:=zaa hST;have HBE:=zaa ((HBC.out.call HCD.out).call hDE);clear ha ha2 hDE hST HST HCD HBC HL0 HL1;obtain ⟨ly,hly⟩:∃ c,zfa (([x.lies,x.flanks].take 2).flatten) k = c:=⟨_,rfl⟩;rw [hly]
         have hnd:zhz d x k = (ly != 0 && ly != pt.1):=by unfold zhz; rw [HPT.out,← hly]; simp
         have HND:=zaa hnd;have hB:=KB.out _ HBE.out;have KF:=HF.out.keep (Q:=In wE) (In.keep hB).1 (In.keep hB).2;obtain ⟨bp,op,cp,e4,-,gp,-⟩:=zl3 KF.2.1 HPT.out
         cases e4
         have F2:wE.cell? ⟨w.heap.size + 1,2,none⟩ = _:=HT5.out.butc HBE.out (j:=1) (i:=2) rfl rfl (by omega);clear hly hnd KF;by_cases l0:ly = 0
         ·have l0':(ly == 0) = true:=by simp [l0]
          have NB:=zaa (show zhz d x k = false by rw [HND.out,l0]; simp);clear l0;go_wp2;go_roundw
          case rel=>exact ⟨k + 1,v3,L,by omega,by omega,by go_num,by rw [zev (by unfold zd6; rw [NB.out]; rfl) (by unfold zea; rw [NB.out]; rfl)],HSE.out⟩
          case measure=>simp [intOf]; omega
         have l0':(ly == 0) = false:=by simp [l0]
         by_cases l1:ly = pt.1
         ·have l1':(ly == pt.1) = true:=by simp [l1]
          have NB:=zaa (show zhz d x k = false by rw [HND.out,l1]; simp);clear l0 l1;go_wp2;go_roundw
          case rel=>exact ⟨k + 1,v3,L,by omega,by omega,by go_num,by rw [zev (by unfold zd6; rw [NB.out]; rfl) (by unfold zea; rw [NB.out]; rfl)],HSE.out⟩
          case measure=>simp [intOf]; omega
         have l1':(ly == pt.1) = false:=by simp [l1]
         have NB:=zaa (show zhz d x k = true by rw [HND.out]; simp [l0,l1]);clear l0 l1 HND
         go_upto_region 34 with fail
         clear F2 gp;have b0:wE.cell? ⟨w.heap.size,0,none⟩ = _:=HT5.out.butc HBE.out (j:=0) (i:=0) rfl rfl (by omega);have b1:wE.cell? ⟨w.heap.size,1,none⟩ = _:=HT5.out.butc HBE.out (j:=0) (i:=1) rfl rfl (by omega);have b2:wE.cell? ⟨w.heap.size,2,none⟩ = _:=HT5.out.butc HBE.out (j:=0) (i:=2) rfl rfl (by omega);have b3:wE.cell? ⟨w.heap.size,3,none⟩ = _:=HT5.out.butc HBE.out (j:=0) (i:=3) rfl rfl (by omega);have b4:wE.cell? ⟨w.heap.size,4,none⟩ = _:=HT5.out.butc HBE.out (j:=0) (i:=4) rfl rfl (by omega);have d0:wE.cell? ⟨w.heap.size + 1,0,none⟩ = _:=HT5.out.butc HBE.out (j:=1) (i:=0) rfl rfl (by omega);have d1:wE.cell? ⟨w.heap.size + 1,1,none⟩ = _:=HT5.out.butc HBE.out (j:=1) (i:=1) rfl rfl (by omega);have d2:wE.cell? ⟨w.heap.size + 1,2,none⟩ = _:=HT5.out.butc HBE.out (j:=1) (i:=2) rfl rfl (by omega);have d3:wE.cell? ⟨w.heap.size + 1,3,none⟩ = _:=HT5.out.butc HBE.out (j:=1) (i:=3) rfl rfl (by omega)
         go_wp2_with fail
         refine (zg7 _ _ _ _ _ _ _ _ _ p d k _ (HP.out.1.keep (In.keep hB).1 (In.keep hB).2) (HP.out.2.1.keep (In.keep hB).1 (In.keep hB).2) (HF.out.2.2.keep (In.keep hB).1 (In.keep hB).2) HR.out.2.2.2.2.1 HS.out (fun q g hg=>by
          obtain ⟨z,hz⟩:=zac p.ways (zaa rfl) (show q < p.ways.length by have:=(List.getElem?_eq_some_iff.1 hg).1; have:=HR.out.2.2.2.2.1; omega)
          exact (zfv HR.out hz hg).1) hlt).mono ?_
         clear b0 b1 b2 b3 b4 d0 d1 d2 d3 hB;rintro e wG ⟨vp,rfl,hbG,mp,hop⟩
         have hmp:mp = (zbn p d (k:Int)).length:=by have:=hop.1; rw [zbt] at this; omega
         obtain ⟨ap,cpp,rfl⟩:=zag hop;have HSG:=zaa (HSE.out.call hbG);have HBG:=zaa (HBE.out.call hbG);have HMP:=zaa hmp;have HLEN:Hid (L.length ≤ 1048576):=Nat.le_trans hLl (by omega);clear hop hbG HSE HBE hmp;by_cases hm:0 < mp
         ·have hm':(0:Int) < (mp:Int):=by omega
          have LK:=zaa (show zd6 p d x k = true by unfold zd6; rw [NB.out,Bool.true_and,decide_eq_true_eq,← HMP.out]; exact hm);obtain ⟨m,av,cv,rfl,how,howA,hsrc,hone,hm7,hm8,hzz⟩:=St.ready HSG.out HLEN.out (k:Int);have HOW:=zaa how;have OWY:=zaa howA;have SRC:=zaa hsrc;have ONE:=zaa hone;have HM7:=zaa hm7;have HM8:=zaa hm8;have HZY:=zaa hzz;obtain ⟨xs,hxs⟩:∃ xs,xs = zcg (L):=⟨_,rfl⟩;have HXS:=zaa hxs;rw [← hxs] at OWY
          have c0:wG.cell? ⟨w.heap.size + 1 + 1 + 1,2,none⟩ = some (.slice av m cv):=by have:=HSG.out.cell 2 (by omega); rw [if_pos rfl] at this; exact this
          clear how howA hsrc hone hm7 hm8 hzz hxs
          go_wp2_with (at_builtin; refine zai rfl _ _ 22 rfl wB.heap.size 3 (.int .i64 0) 1 8 Tryz.underlying22 Tryz.infoInt rfl (by decide) _ m xs rfl OWY.out (some ⟨wG.heap.size,0,none⟩) 1 1 [.int .i64 (k:Int)] rfl rfl SRC.out ONE.out HM7.out HM8.out HZY.out ?_)
          clear c0;intro u5 w6 hown5 hgr5;obtain ⟨a6,c6,rfl⟩:=zag hown5
          have hown6:w6.ownsRow wB.heap.size 3 1 (.slice a6 (m + 1) c6) (m + 1) (zcg (L) ++ [.int .i64 (k:Int)]):=by rw [← HXS.out]; exact hown5
          have hrow:=HSG.out.grown HBW.out HOW.out hgr5
          have r0:w6.cell? ⟨w.heap.size + 1 + 1 + 1,2,none⟩ = some (.slice av m cv):=by have:=hrow.cell (i:=2) (by omega); rw [if_pos rfl] at this; exact this
          have r1:w6.frozen? ⟨w.heap.size + 1 + 1 + 1,2,none⟩ = false:=hrow.frozen 2;have SN:=zaa (HSG.out.snoc HBW.out HOW.out hgr5 hown6);clear hown5 hown6 hgr5 hrow OWY SRC ONE;go_wp2;go_roundw
          case rel=>exact ⟨k + 1,_,L ++ [(k:Int)],by omega,by rw [List.length_append]; simp; omega,by go_num,by rw [zlf LK.out],SN.out⟩
          case measure=>simp [intOf]; omega
         ·have LK:=zaa (show zd6 p d x k = false by unfold zd6; rw [NB.out,Bool.true_and,decide_eq_false_iff_not,← HMP.out]; exact hm);have hsr:InR sq 0 (p.sections - 1):=Classical.byContradiction fun e=>HR.out.1.parts.2.1 k ⟨sq,HSQ.out,e⟩;obtain ⟨sn,rfl⟩:∃ t:Nat,sq = t:=⟨sq.toNat,by have:=hsr.1; omega⟩;obtain ⟨o,ho⟩:=zac d.occ (zaa rfl) (show sn < d.occ.length by have:=hsr.2; have:=HR.out.2.2.1; omega)
          have hsk:zea p d x k = o:=by
           unfold zea;rw [NB.out,Bool.true_and,decide_eq_false (show ¬ 0 < (zbn p d (k:Int)).length by rw [← HMP.out]; exact hm),Bool.not_false,Bool.true_and,List.getD_eq_getElem?_getD,HSQ.out];unfold za1;show (match d.occ[((sn:Int)).toNat]? with | some b=>b | none=>false) = o;rw [show ((sn:Int)).toNat = sn by simp,ho]
          have HSK:=zaa hsk;have hB:=KB.out _ HBG.out;have KF:=HF.out.keep (Q:=In wG) (In.keep hB).1 (In.keep hB).2;have KP:=HP.out.keep (Q:=In wG) (In.keep hB).1 (In.keep hB).2;obtain ⟨bs,os,cs,e5,-,gs⟩:=zje KP.1 HSQ.out;obtain ⟨bo,oo,co,e4,-,go⟩:=zdz KF.1 ho
          cases e4
          cases e5
          have b1:wG.cell? ⟨w.heap.size,1,none⟩ = _:=HT5.out.butc HBG.out (j:=0) (i:=1) rfl rfl (by omega);have d1:wG.cell? ⟨w.heap.size + 1,1,none⟩ = _:=HT5.out.butc HBG.out (j:=1) (i:=1) rfl rfl (by omega)
          have hso:(sn:Int) < (d.occ.length:Int):=by have:=hsr.2; have:=HR.out.2.2.1; omega
          obtain rfl:mp = 0:=by omega
          clear hm hsr ho hsk KF KP hB
          go_upto_region 37 with fail
          have hnx:=Ext.any wG;have xb1:=Ext.cell b1;have xd1:=Ext.cell d1;have xgs:=Ext.cell gs;have xgo:=Ext.cell go;clear b1 d1 gs go;refine zaj (by kernel_rfl) (by kernel_rfl) ?_
          repeat (go_big_quiet_step (fail))
          refine wpQuiet_nil ?_;rintro _ ⟨nn,rfl⟩;have HSH:=zaa (HSG.out.call nn.below);clear hnx xb1 xd1 xgs xgo;obtain ⟨WH,hWH⟩:∃ W,nn.w = W:=⟨_,rfl⟩;rw [hWH] at HSH ⊢;clear hWH nn;clear HSG HBG;obtain ⟨hv,hhv⟩:∃ c,zcd p d x k = c:=⟨_,rfl⟩;have HHV:=zaa hhv;rw [hhv];clear hhv
          cases o
          ·go_wp2;go_roundw
           case rel=>exact ⟨k + 1,v3,L,by omega,by omega,by go_num,by rw [zev LK.out HSK.out,HHV.out],HSH.out⟩
           case measure=>simp [intOf]; omega
          ·
           obtain ⟨m,av,cv,rfl,how,howA,hsrc,hone,hm7,hm8,hzz⟩:=St.ready HSH.out HLEN.out (k:Int);have HOW:=zaa how;have OWY:=zaa howA;have SRC:=zaa hsrc;have ONE:=zaa hone;have HM7:=zaa hm7;have HM8:=zaa hm8;have HZY:=zaa hzz;obtain ⟨xs,hxs⟩:∃ xs,xs = zcg (L):=⟨_,rfl⟩;have HXS:=zaa hxs;rw [← hxs] at OWY
           have c0:WH.cell? ⟨w.heap.size + 1 + 1 + 1,2,none⟩ = some (.slice av m cv):=by have:=HSH.out.cell 2 (by omega); rw [if_pos rfl] at this; exact this
           clear how howA hsrc hone hm7 hm8 hzz hxs
           go_wp2_with (at_builtin; refine zai rfl _ _ 22 rfl wB.heap.size 3 (.int .i64 0) 1 8 Tryz.underlying22 Tryz.infoInt rfl (by decide) _ m xs rfl OWY.out (some ⟨WH.heap.size,0,none⟩) 1 1 [.int .i64 (k:Int)] rfl rfl SRC.out ONE.out HM7.out HM8.out HZY.out ?_)
           clear c0;intro u5 w6 hown5 hgr5;obtain ⟨a6,c6,rfl⟩:=zag hown5
           have hown6:w6.ownsRow wB.heap.size 3 1 (.slice a6 (m + 1) c6) (m + 1) (zcg (L) ++ [.int .i64 (k:Int)]):=by rw [← HXS.out]; exact hown5
           have hrow:=HSH.out.grown HBW.out HOW.out hgr5
           have r0:w6.cell? ⟨w.heap.size + 1 + 1 + 1,2,none⟩ = some (.slice av m cv):=by have:=hrow.cell (i:=2) (by omega); rw [if_pos rfl] at this; exact this
           have r1:w6.frozen? ⟨w.heap.size + 1 + 1 + 1,2,none⟩ = false:=hrow.frozen 2;have SN:=zaa (HSH.out.snoc HBW.out HOW.out hgr5 hown6);clear hown5 hown6 hgr5 hrow OWY SRC ONE;by_cases eh:hv = 0
           ·have eh':(hv == 0) = true:=by simp [eh]
            have EH:=zaa eh;clear eh;go_wp2;go_roundw
            case rel=>exact ⟨k + 1,_,L ++ [(k:Int)],by omega,by rw [List.length_append]; simp; omega,by go_num,by rw [zjb LK.out HSK.out (HHV.out.trans EH.out)],SN.out⟩
            case measure=>simp [intOf]; omega
           ·have eh':(hv == 0) = false:=by simp [eh]
            have EH:=zaa eh;clear eh;go_wp2;go_roundw
            case rel=>exact ⟨k + 1,_,L ++ [(k:Int)],by omega,by rw [List.length_append]; simp; omega,by go_num,by rw [zj4 LK.out HSK.out (by rw [HHV.out]; exact EH.out),HHV.out],SN.out⟩
            case measure=>simp [intOf]; omega
      ·have hke:k = p.switches.length:=by omega
       subst hke;obtain ⟨mv3,hov⟩:=HST.out.2.2;obtain ⟨av3,cv3,rfl⟩:=zag hov;clear hov;have q0:wC.cell? ⟨w.heap.size + 1 + 1 + 1,0,none⟩ = some (.slice av0 mv0 cv0):=HST.out.cell 0 (by omega);have q1:wC.cell? ⟨w.heap.size + 1 + 1 + 1,1,none⟩ = some (.slice av2 mv2 cv2):=HST.out.cell 1 (by omega);have q2:wC.cell? ⟨w.heap.size + 1 + 1 + 1,2,none⟩ = some (.slice av3 mv3 cv3):=HST.out.cell 2 (by omega);have hr2:=HBC.out.row (HT5.out.row 2 _ _ rfl) (show w.heap.size + 2 ≠ w.heap.size + 1 + 1 + 1 by omega);have r0:wC.cell? ⟨w.heap.size + 1 + 1,0,none⟩ = _:=hr2.cell (i:=0) (by simp);have r1:wC.cell? ⟨w.heap.size + 1 + 1,1,none⟩ = _:=hr2.cell (i:=1) (by simp);have r2:wC.cell? ⟨w.heap.size + 1 + 1,2,none⟩ = _:=hr2.cell (i:=2) (by simp);have z0:wC.frozen? ⟨w.heap.size + 1 + 1,0,none⟩ = false:=hr2.frozen 0;have z1:wC.frozen? ⟨w.heap.size + 1 + 1,1,none⟩ = false:=hr2.frozen 1;have z2:wC.frozen? ⟨w.heap.size + 1 + 1,2,none⟩ = false:=hr2.frozen 2;have HBZ:=zaa (KB.out _ HBC.out)
       have hcd0:zn4 p d i x = if zdk p d i x s = 0 then zcd p d x p.switches.length else zdk p d i x s:=by unfold zn4; rw [HSE.out]
       obtain ⟨cd,hcd⟩:∃ c,zdk p d i x s = c:=⟨_,rfl⟩;obtain ⟨hv,hhv⟩:∃ c,zcd p d x p.switches.length = c:=⟨_,rfl⟩;rw [hcd,hhv] at hcd0;rw [hcd,hhv];have HCC:=zaa hcd0;have hr3:=((hr2.set 0 (.slice av0 mv0 cv0)).set 1 (.slice av2 mv2 cv2)).set 2 (.slice av3 mv3 cv3);have y0:=hr3.cell (i:=0) (by simp);have y1:=hr3.cell (i:=1) (by simp);have y2:=hr3.cell (i:=2) (by simp);simp at y0 y1 y2;have HBY:=zaa (((((But.of_calls (K:=fun _=>True) HBZ.out).setNew (p:=⟨w.heap.size + 1 + 1,0,none⟩) (by simp; omega) (.slice av0 mv0 cv0)).setNew (p:=⟨w.heap.size + 1 + 1,1,none⟩) (by simp; omega) (.slice av2 mv2 cv2)).setNew (p:=⟨w.heap.size + 1 + 1,2,none⟩) (by simp; omega) (.slice av3 mv3 cv3)).below (Nat.le_refl _) fun _ _=>trivial);clear hr2 hr3 hcd hhv hcd0 HST HBC hkl hLl;by_cases ec:cd = 0
       ·have ec':(cd == 0) = true:=by simp [ec]
        have EC:=zaa (HCC.out.trans (if_pos ec));clear ec HCC;go_wp2;refine bodyPost_ret (v:=.tuple #[.agg #[.slice av0 mv0 cv0,.slice av2 mv2 cv2,.slice av3 mv3 cv3],.int .i64 hv]) (by simp [results,Tryz.results117,go_sem,y0,y1,y2]) rfl ⟨⟨_,_,_,_,_,_,_,_,_,by rw [EC.out]⟩,HBY.out⟩
       ·have ec':(cd == 0) = false:=by simp [ec]
        have EC:=zaa (HCC.out.trans (if_neg ec));clear ec HCC;go_wp2;refine bodyPost_ret (v:=.tuple #[.agg #[.slice av0 mv0 cv0,.slice av2 mv2 cv2,.slice av3 mv3 cv3],.int .i64 cd]) (by simp [results,Tryz.results117,go_sem,y0,y1,y2]) rfl ⟨⟨_,_,_,_,_,_,_,_,_,by rw [EC.out]⟩,HBY.out⟩
end Go.Proofs.YtdhinkgjiapigabGreatDoor
namespace Go.Proofs.YtdhinkgjiapigabGreatDoor
open Classical
theorem zd4 {k:Int}:∀ (l:List (Int × Int)) (a:Int),(∀ y ∈ l,y.1 ≠ k) → l.foldl (fun a y=>if y.1 = k then y.2 else a) a = a
 | [],_,_=>rfl
 | y :: l,a,h=>by
  rw [List.foldl_cons,if_neg (h y List.mem_cons_self)]
  exact zd4 l a fun z hz=>h z (List.mem_cons_of_mem _ hz)
theorem zd5 {k:Int}:∀ (l:List (Int × Int)) (a:Int),(∃ y ∈ l,y.1 = k) → ∃ z ∈ l,z.1 = k ∧ l.foldl (fun a y=>if y.1 = k then y.2 else a) a = z.2
 | [],_,⟨y,hy,_⟩=>by cases hy
 | y :: l,a,⟨z,hz,e⟩=>by
  rw [List.foldl_cons]
  by_cases h:∃ u ∈ l,u.1 = k
  ·obtain ⟨u,hu,e1,e2⟩:=zd5 l (if y.1 = k then y.2 else a) h
   exact ⟨u,List.mem_cons_of_mem _ hu,e1,e2⟩
  ·have hn:∀ u ∈ l,u.1 ≠ k:=fun u hu e=>h ⟨u,hu,e⟩
   rcases List.mem_cons.1 hz with rfl | hz
   ·rw [if_pos e,zd4 l _ hn]
    exact ⟨z,List.mem_cons_self,e,rfl⟩
   ·exact absurd e (hn z hz)
theorem zkc {m:Nat} {l:List (Int × Int)} (h:LiesOk m l) {y z:Int × Int} (hy:y ∈ l) (hz:z ∈ l) (e:y.1 = z.1):y = z:=by
 obtain ⟨j,hj⟩:=List.getElem?_of_mem hy;obtain ⟨k,hk⟩:=List.getElem?_of_mem hz;have jl:=(List.getElem?_eq_some_iff.1 hj).1;have kl:=(List.getElem?_eq_some_iff.1 hk).1;rcases Nat.lt_trichotomy j k with q | q | q
 ·exact absurd e ((h.1 k kl z hk).2 j y q hj)
 ·subst q; rw [hj] at hk; exact Option.some.inj hk
 ·exact absurd e.symm ((h.1 j jl y hj).2 k z q hk)
theorem zpi {n:Int} {sw:List Int} {x:WayD} (h:WayOk n sw x) {y z:Int × Int} (hy:y ∈ x.lies ++ x.flanks) (hz:z ∈ x.lies ++ x.flanks) (e:y.1 = z.1):y = z:=by
 obtain ⟨-,-,-,-,h1,h2,h3,-⟩:=h
 rcases List.mem_append.1 hy with hy | hy <;> rcases List.mem_append.1 hz with hz | hz
 ·exact zkc h1 hy hz e
 ·exact absurd e ((h3 y hy).1 z hz)
 ·exact absurd e.symm ((h3 z hz).1 y hy)
 ·exact zkc h2 hy hz e
theorem zqc {n:Int} {sw:List Int} {x:WayD} (h:WayOk n sw x) {y:Int × Int} (hy:y ∈ x.lies ++ x.flanks):0 ≤ y.1 ∧ y.1 < sw.length ∧ y.2 ≠ 0:=by
 obtain ⟨-,-,-,-,h1,h2,-,-⟩:=h
 have:∀ l,LiesOk sw.length l → y ∈ l → 0 ≤ y.1 ∧ y.1 < sw.length ∧ y.2 ≠ 0:=fun l hl hy=>by
  obtain ⟨j,hj⟩:=List.getElem?_of_mem hy;obtain ⟨⟨a,b⟩,-⟩:=hl.1 j (List.getElem?_eq_some_iff.1 hj).1 y hj;have:=a.1; have:=a.2; have:=b.1;exact ⟨by omega,by omega,by omega⟩
 rcases List.mem_append.1 hy with hy | hy
 ·exact this _ h1 hy
 ·exact this _ h2 hy
theorem zoq {n:Int} {sw:List Int} {x:WayD} (h:WayOk n sw x) {y:Int × Int} (hy:y ∈ x.lies ++ x.flanks):zfa (x.lies ++ x.flanks) y.1 = y.2:=by
 obtain ⟨z,hz,e1,e2⟩:=zd5 (k:=y.1) (x.lies ++ x.flanks) 0 ⟨y,hy,rfl⟩;unfold zfa;rw [e2,zpi h hz hy e1]
theorem zm6 {l:List (Int × Int)} {k:Int} (h:zfa l k ≠ 0):∃ y ∈ l,y.1 = k ∧ y.2 = zfa l k:=by
 by_cases e:∃ y ∈ l,y.1 = k
 ·obtain ⟨z,hz,e1,e2⟩:=zd5 l 0 e;exact ⟨z,hz,e1,e2.symm⟩
 ·exact absurd (zd4 l 0 fun y hy q=>e ⟨y,hy,q⟩) h
theorem zro {p:PlanD} {d:FrameD} (hR:zas p d) {k:Nat} (hk:k < p.switches.length):∃ pt,d.points[k]? = some pt ∧ zge d.points k = pt.1:=by
 obtain ⟨pt,h⟩:=zac d.points (zaa hR.2.2.2.1) hk;refine ⟨pt,h,?_⟩;unfold zge;rw [show ((k:Int)).toNat = k by simp,h];rfl
theorem zfd {p:PlanD} {d:FrameD} {x:WayD} {i:Nat} (hR:zas p d) (hx:p.ways[i]? = some x) {k:Nat} (hk:k < p.switches.length):zhz d x k = true ↔ ∃ y ∈ zdb d.points x,y.1 = k:=by
 have hw:=hR.1.way hx;obtain ⟨pt,h1,h2⟩:=zro hR hk;unfold zhz zdb;rw [h1];simp only [Bool.and_eq_true,bne_iff_ne,ne_eq,List.mem_filter];constructor
 ·rintro ⟨e1,e2⟩;obtain ⟨y,hy,e3,e4⟩:=zm6 e1;exact ⟨y,⟨hy,by rw [e3,h2,e4]; exact fun q=>e2 q.symm⟩,e3⟩
 ·rintro ⟨y,⟨hy,e1⟩,e2⟩;have e3:=zoq hw hy;rw [e2] at e3 e1;rw [e3];exact ⟨(zqc hw hy).2.2,fun q=>e1 (by rw [h2,q])⟩
theorem zo9 {p:PlanD} {d:FrameD} {x:WayD} {i:Nat} (hR:zas p d) (hx:p.ways[i]? = some x) {y:Int × Int} (hy:y ∈ zdb d.points x):∃ k:Nat,y.1 = k ∧ k < p.switches.length:=by
 have:=zqc (hR.1.way hx) (List.mem_filter.1 hy).1;exact ⟨y.1.toNat,by omega,by omega⟩
theorem zf9 {p:PlanD} {d:FrameD} {i:Nat} {x:WayD} {h:HeldD} (hx:p.ways[i]? = some x) (hh:d.ways[i]? = some h) (h0:h.state = 0) (y:Int × Int):zew p d i y = decide (0 < (zbn p d y.1).length):=by
 have hni:∀ z ∈ zbn p d y.1,z ≠ (i:Int):=fun z hz e=>by
  unfold zbn at hz;obtain ⟨j,hj,rfl⟩:=List.mem_map.1 hz;have:=(List.mem_filter.1 hj).2
  have e:j = i:=by omega
  subst e;have h2:0 < zcs p d y.1 j:=of_decide_eq_true this
  have h3:zcs p d y.1 j = 0:=by unfold zcs; rw [hx,hh]; exact ze1 h0
  omega
 unfold zew
 cases hl:zbn p d y.1 with
 | nil=>rfl
 | cons a l=>
  rw [hl] at hni;have:=hni a List.mem_cons_self;rw [List.any_cons,bne_iff_ne.2 this];simp
theorem zix {α β:Type} {l:List α} {m:List β} {f:α → Bool} {g:β → Bool} (h1:∀ a ∈ l,f a = true → ∃ b ∈ m,g b = true) (h2:∀ b ∈ m,g b = true → ∃ a ∈ l,f a = true):l.any f = m.any g:=by
 rw [Bool.eq_iff_iff,List.any_eq_true,List.any_eq_true];exact ⟨fun ⟨a,ha,h⟩=>h1 a ha h,fun ⟨b,hb,h⟩=>h2 b hb h⟩
theorem zoo {α:Type} {l:List α} {f:α → Bool}:(0 < (l.filter f).length) = (l.any f = true):=by
 rw [List.length_pos_iff_exists_mem,List.any_eq_true];exact propext ⟨fun ⟨a,h⟩=>⟨a,(List.mem_filter.1 h).1,(List.mem_filter.1 h).2⟩,fun ⟨a,h,e⟩=>⟨a,List.mem_filter.2 ⟨h,e⟩⟩⟩
theorem zpw {p:PlanD} {d:FrameD} {i:Nat} {x:WayD} {h:HeldD} (hR:zas p d) (hx:p.ways[i]? = some x) (hh:d.ways[i]? = some h) (h0:h.state = 0):(zdb d.points x).any (zew p d i) = (List.range p.switches.length).any (zd6 p d x):=by
 refine zix (fun y hy e=>?_) fun k hk e=>?_
 ·obtain ⟨k,e1,hk⟩:=zo9 hR hx hy;refine ⟨k,List.mem_range.2 hk,?_⟩;unfold zd6;rw [(zfd hR hx hk).2 ⟨y,hy,e1⟩,Bool.true_and,← e1,← zf9 hx hh h0 y];exact e
 ·have hk:=List.mem_range.1 hk;unfold zd6 at e;rw [Bool.and_eq_true] at e;obtain ⟨y,hy,e1⟩:=(zfd hR hx hk).1 e.1;exact ⟨y,hy,by rw [zf9 hx hh h0 y,e1]; exact e.2⟩
theorem zfy (occ:List Bool) (s:Int):za1 occ s = occ.getD s.toNat false:=by
 unfold za1;rw [List.getD_eq_getElem?_getD]
 cases occ[s.toNat]? <;> rfl
theorem znk {p:PlanD} {d:FrameD} {i:Nat} {x:WayD} (hR:zas p d) (hx:p.ways[i]? = some x) (hn:¬ (List.range p.switches.length).any (zd6 p d x) = true):(zdb d.points x).any (zgd p d) = (List.range p.switches.length).any (zea p d x):=by
 have hno:∀ k,k < p.switches.length → zhz d x k = true → decide (0 < (zbn p d (k:Int)).length) = false:=fun k hk e=>by
  cases e2:decide (0 < (zbn p d (k:Int)).length)
  ·rfl
  ·exact absurd (List.any_eq_true.2 ⟨k,List.mem_range.2 hk,by unfold zd6; rw [e,e2]; rfl⟩) hn
 have hst:∀ (y:Int × Int) (k:Nat),y.1 = k → zgd p d y = za1 d.occ (p.switches.getD k 0):=fun y k e=>by
  unfold zgd;rw [zfy,e,show ((k:Int)).toNat = k by simp]
 refine zix (fun y hy e=>?_) fun k hk e=>?_
 ·obtain ⟨k,e1,hk⟩:=zo9 hR hx hy;have hne:=(zfd hR hx hk).2 ⟨y,hy,e1⟩;refine ⟨k,List.mem_range.2 hk,?_⟩;unfold zea;rw [hne,hno k hk hne,← hst y k e1,e];rfl
 ·have hk:=List.mem_range.1 hk;unfold zea at e;rw [Bool.and_eq_true,Bool.and_eq_true] at e;obtain ⟨y,hy,e1⟩:=(zfd hR hx hk).1 e.1;exact ⟨y,hy,by rw [hst y k e1]; exact e.2.2⟩
theorem zo2 {p:PlanD} {d:FrameD} {i:Nat} {x:WayD} (hR:zas p d) (hx:p.ways[i]? = some x):(0 < (zgc d.occ x).length) = ((List.range p.sections.toNat).any (zb0 d x) = true):=by
 have hw:=hR.1.way hx
 have hm:∀ (s:Nat) (l:List Int),zdm [(s:Int)] l = true ↔ (s:Int) ∈ l:=fun s l=>by
  unfold zdm;rw [List.any_cons,List.any_nil,Bool.or_false,List.any_eq_true];constructor
  ·rintro ⟨t,ht,e⟩
   have:t = s:=by simpa using e
   exact this ▸ ht
  ·exact fun h=>⟨_,h,by simp⟩
 have hin:∀ s ∈ x.sections ++ x.over,0 ≤ s ∧ s < p.sections:=fun s hs=>by
  have:∀ l,ListOk p.sections l → s ∈ l → 0 ≤ s ∧ s < p.sections:=fun l hl hs=>by
   obtain ⟨j,hj⟩:=List.getElem?_of_mem hs;have:=(hl.1 j (List.getElem?_eq_some_iff.1 hj).1 s hj).1;exact ⟨this.1,by have:=this.2; omega⟩
  rcases List.mem_append.1 hs with hs | hs
  ·exact this _ hw.2.1 hs
  ·exact this _ hw.2.2.1 hs
 unfold zgc;rw [zoo];congr 1;refine zix (fun s hs e=>?_) fun s hs e=>?_
 ·unfold znw at hs;obtain ⟨t,ht,rfl⟩:=List.mem_map.1 hs;have hb:=hin t ht;refine ⟨t.toNat,List.mem_range.2 (by omega),?_⟩;unfold zb0;rw [zfy,show ((t.toNat:Nat):Int) = t by omega,e,Bool.true_and,Bool.or_eq_true];have:=hm t.toNat;rw [show ((t.toNat:Nat):Int) = t by omega] at this;rcases List.mem_append.1 ht with h | h
  ·exact .inl ((this _).2 h)
  ·exact .inr ((this _).2 h)
 ·unfold zb0 at e;rw [Bool.and_eq_true,Bool.or_eq_true,hm,hm,zfy] at e;refine ⟨s,?_,by simpa using e.1⟩;unfold znw;exact List.mem_map.2 ⟨(s:Int),List.mem_append.2 e.2,by simp⟩
theorem zpk {p:PlanD} {d:FrameD} {i:Nat} {x:WayD} (hR:zas p d) (hx:p.ways[i]? = some x):(0 < (zcc p d i).length) = ((List.range p.ways.length).any (zbe p d i x) = true):=by
 have hl:d.ways.length = p.ways.length:=hR.2.2.2.2.1;have hil:=(List.getElem?_eq_some_iff.1 hx).1
 have key:∀ (j:Nat) (g:HeldD),j < p.ways.length → d.ways[j]? = some g → zbe p d i x j = (ziy p i j && g.state != 0):=fun j g hj hg=>by
  obtain ⟨y,hy⟩:=zac p.ways (zaa rfl) hj;obtain ⟨r,b,hr,hrl,hb,ho⟩:=hR.1.row hil hj;unfold zbe ziy;rw [hx,hy,hg,ho];show ((j != i) && g.state != 0 && (b || zjh x.sections y.over || zjh x.over y.sections)) = (((j:Int) != (i:Int)) && (b || (zjh x.sections y.over || zjh x.over y.sections)) && g.state != 0)
  have e:((j:Int) != (i:Int)) = (j != i):=by
   rw [Bool.eq_iff_iff,bne_iff_ne,bne_iff_ne]; omega
  rw [e,Bool.or_assoc]
  cases (j != i) <;> cases (g.state != 0) <;> simp
 unfold zcc;rw [zoo];congr 1;refine zix (fun j hj e=>?_) fun j hj e=>?_
 ·obtain ⟨h1,h2⟩:=zeu hj;obtain ⟨g,hg⟩:=zac d.ways (zaa rfl) h1;exact ⟨j,List.mem_range.2 (by omega),by rw [key j g (by omega) hg,e,Bool.true_and,← zd2 hg]; exact h2⟩
 ·have hj:=List.mem_range.1 hj;obtain ⟨g,hg⟩:=zac d.ways (zaa hl) hj;rw [key j g hj hg,Bool.and_eq_true,bne_iff_ne] at e;exact ⟨j,List.mem_filter.2 ⟨List.mem_range.2 (by omega),by rw [zd2 hg,bne_iff_ne]; exact e.2⟩,e.1⟩
theorem zrt {p:PlanD} {d:FrameD} {i:Nat} {x:WayD} {h:HeldD} (hR:zas p d) (hx:p.ways[i]? = some x) (hh:d.ways[i]? = some h) (h0:h.state = 0):zit p d i x h = zn4 p d i x:=by
 unfold zit zph zn4 zdk zcd;rw [h0];simp only [zpk hR hx,zo2 hR hx,zpw hR hx hh h0];by_cases e1:(List.range p.ways.length).any (zbe p d i x) = true
 ·simp [e1]
 ·by_cases e2:(List.range p.sections.toNat).any (zb0 d x) = true
  ·simp [e1,e2]
  ·by_cases e3:(List.range p.switches.length).any (zd6 p d x) = true
   ·simp [e1,e2,e3]
   ·rw [znk hR hx e3];simp [e1,e2,e3]
theorem zqa {p:PlanD} {d:FrameD} {i:Nat} {x:WayD} {h:HeldD} (h0:h.state ≠ 0):zit p d i x h = 2:=by
 unfold zit zph;rw [if_pos (bne_iff_ne.2 h0)]
end Go.Proofs.YtdhinkgjiapigabGreatDoor
namespace Go.Proofs.YtdhinkgjiapigabGreatDoor
open Go.RowKit Go.Deep
open Classical
set_option maxRecDepth 100000 in
set_option maxHeartbeats 4000000 in
theorem zok (p1 p2 p3 f1 f2 f3:Value) (p:PlanD) (d:FrameD) (i:Nat) (x:WayD) (h:HeldD) (w:World) (hp:PlanAt (In w) w p1 p2 p3 p) (hf:FrameAt (In w) w f1 f2 f3 d) (hs:p.Small 1048576) (hd:d.Small 1048576) (hR:zas p d) (hx:p.ways[i]? = some x) (hh:d.ways[i]? = some h) :
  Calls Tryz.prog 86 #[.agg #[.int .i64 p.sections,p1,p2,p3,.int .i64 p.hold],.agg #[.bool d.ok,f1,f2,f3],.int .i64 (i:Int)] w fun e w'=>e = .returned (.int .i64 (zit p d i x h)) ∧ Below w.heap.size w w':=by
 have T0:=zbc w 37 42 #[.int .i64 p.sections,p1,p2,p3,.int .i64 p.hold] #[.bool d.ok,f1,f2,f3];have KP:=zaa fun (W:World) (h:Below w.heap.size w W)=>hp.keep (Q:=In W) (In.keep h).1 (In.keep h).2;have KF:=zaa fun (W:World) (h:Below w.heap.size w W)=>hf.keep (Q:=In W) (In.keep h).1 (In.keep h).2;obtain ⟨a1,c1,rfl⟩:=hp.1.size;obtain ⟨a2,c2,rfl⟩:=hp.2.1.size;obtain ⟨a3,c3,rfl⟩:=hp.2.2.size;obtain ⟨o1,m1,rfl⟩:=hf.1.size;obtain ⟨o2,m2,rfl⟩:=hf.2.1.size;obtain ⟨o3,m3,rfl⟩:=hf.2.2.size;have HS:=zaa hs;have HD:=zaa hd;have HR:=zaa hR;have HX:=zaa hx;have HH:=zaa hh;obtain ⟨bh,oh,ch,e4,-,gh⟩:=zj6 (KF.out _ T0.below).2.2 hh
 cases e4
 have hlh':(i:Int) < (d.ways.length:Int):=by have:=(List.getElem?_eq_some_iff.1 hh).1; omega
 have hlz:d.ways.length ≤ 1048576:=hd.2.2.1;clear hs hd hp hf hR hx hh;go_enter Tryz.func86,Tryz.ntmps86;have b0:=T0.cell (j:=0) (i:=0) rfl rfl;have b1:=T0.cell (j:=0) (i:=1) rfl rfl;have b2:=T0.cell (j:=0) (i:=2) rfl rfl;have b3:=T0.cell (j:=0) (i:=3) rfl rfl;have b4:=T0.cell (j:=0) (i:=4) rfl rfl;have e0:=T0.cell (j:=1) (i:=0) rfl rfl;have e1:=T0.cell (j:=1) (i:=1) rfl rfl;have e2:=T0.cell (j:=1) (i:=2) rfl rfl;have e3:=T0.cell (j:=1) (i:=3) rfl rfl;rw [Nat.add_zero] at b0 b1 b2 b3 b4;by_cases e0':h.state = 0
 ·have z0:(h.state != 0) = false:=by simp [e0']
  have E0:=zaa e0';clear e0'
  go_wp2_with fail
  refine (zli _ _ _ _ _ _ p d i x _ (KP.out _ T0.below) (KF.out _ T0.below) HS.out HD.out HR.out HX.out).mono ?_;clear b0 b1 b2 b3 b4 e0 e1 e2 e3;rintro e w1 ⟨⟨g1,n1,k1,g2,n2,k2,g3,n3,k3,rfl⟩,hb⟩;have HT:=zaa ((T0.call hb).call (zab w1 (.cells #[.slice g1 n1 k1,.slice g2 n2 k2,.slice g3 n3 k3] 77))).below;clear T0 hb gh;go_wp2;go_ret;exact ⟨zfz (zrt HR.out HX.out HH.out E0.out).symm,HT.out⟩
 ·have z0:(h.state != 0) = true:=by simp [e0']
  have E0:=zaa e0';have HT:=zaa T0.below;clear e0' T0;go_wp2;go_ret;exact ⟨zfz (zqa E0.out).symm,HT.out⟩
end Go.Proofs.YtdhinkgjiapigabGreatDoor

import Derived.Test.YtdhinkgjiapigaaGreatDoorMark6
import Derived.Test.YtdhinkgjiapigaaGreatDoorDltx
import Derived.Test.YtdhinkgjiapigaaGreatDoorEqG
import Derived.Test.YtdhinkgjiapigaaGreatDoorDoS3
import Derived.Test.YtdhinkgjiapigaaGreatDoorToA
import Derived.Test.YtdhinkgjiapigaaGreatDoorRunD
import Derived.Test.YtdhinkgjiapigaaGreatDoorToC
import Derived.Test.YtdhinkgjiapigaaGreatDoorSzA
import Derived.Test.YtdhinkgjiapigaaGreatDoorMarkA
import Derived.Test.YtdhinkgjiapigaaGreatDoorRunJ
namespace Go.Proofs.YtdhinkgjiapigaaGreatDoor
open Go.RowKit Go.Deep
open Classical
theorem FrameM.off {B0 bn T N:Nat} {w:World} {v1 v2 v3:Value} {d:FrameD} {f:Nat → Value} (h:FrameM B0 w v1 v2 v3 d) (hr:w.rowIs bn T N f) (h1:T ≠ 4) (h2:T ≠ 46) (h3:T ≠ 44):FrameP (fun c=>B0 ≤ c ∧ c ≠ bn) w v1 v2 v3 d:=by
 rcases h with ⟨bo,bp,bw,bb,h⟩ | h
 ·refine .inl ⟨bo,bp,bw,bb,h.occ,h.points,h.ways,⟨h.po,?_⟩,fun z=>⟨h.pp z,?_⟩,fun z=>⟨h.pw z,?_⟩,fun i hi=>⟨h.pb i hi,?_⟩,h.inj,h.off⟩
  ·obtain ⟨_,_,hq⟩:=h.occ.row
   exact rowIs_ne hq hr h1.symm
  ·obtain ⟨_,_,hq⟩:=h.points.row z
   exact rowIs_ne hq hr h2.symm
  ·obtain ⟨_,_,hq⟩:=h.ways.row z
   exact rowIs_ne hq hr h3.symm
  ·obtain ⟨_,_,hq⟩:=h.ways.been hi
   exact rowIs_ne hq hr h1.symm
 ·exact .inr h
end Go.Proofs.YtdhinkgjiapigaaGreatDoor
namespace Go.Proofs.YtdhinkgjiapigaaGreatDoor
open Go.RowKit Go.Deep
def Rows (rs:List (Nat × TypeId × Array Value)) (W:World):Prop:=∀ r ∈ rs,W.rowIs r.1 r.2.1 r.2.2.size (fun i=>r.2.2[i]!)
theorem Rows.but {rs:List (Nat × TypeId × Array Value)} {W W':World} {K:Nat → Prop} (h:Rows rs W) (hB:But K W W') (hk:∀ r ∈ rs,K r.1):Rows rs W':=fun r hr=>hB.row (h r hr) (hk r hr)
theorem Rows.call {rs:List (Nat × TypeId × Array Value)} {W W':World} (h:Rows rs W) (hB:Below W.heap.size W W'):Rows rs W':=h.but (K:=fun _=>True) (But.of_calls hB) fun _ _=>trivial
theorem Rows.cell {rs:List (Nat × TypeId × Array Value)} {W:World} (h:Rows rs W) {j b i:Nat} {t:TypeId} {c:Array Value} {v:Value} (hj:rs[j]? = some (b,t,c)) (hi:c[i]? = some v):W.cell? ⟨b,i,none⟩ = some v:=by
 have hr:=h _ (List.mem_of_getElem? hj)
 obtain ⟨hl,e⟩:=Array.getElem?_eq_some_iff.1 hi
 rw [hr.cell (i:=i) hl]
 show some c[i]! = some v
 rw [getElem!_pos c i hl,e]
end Go.Proofs.YtdhinkgjiapigaaGreatDoor
namespace Go.Proofs.YtdhinkgjiapigaaGreatDoor
open Go.RowKit Go.Deep
open Classical
theorem Tryz.infoEvent:(Tryz.prog.info? 55).map (fun i=>(i.zero,i.size,i.bytes)) = some (some (.agg #[.int .i64 0,.int .i64 0,.int .i64 0]),3,24):=by kernel_rfl
theorem Evs.made {w wr:World} {l:List (Int × Int × Int)} {n:Nat} {t:TypeId} {f:Nat → Value} (hn:l.length = n) (hrow:wr.rowIs w.heap.size t (n * 3) f)
  (hf:∀ j x,j < n → l[j]? = some x → f (j * 3) = .int .i64 x.1 ∧ f (j * 3 + 1) = .int .i64 x.2.1 ∧ f (j * 3 + 2) = .int .i64 x.2.2):Evs (Fresh w wr) wr (.slice (some ⟨w.heap.size,0,none⟩) n n) l:=by
 subst hn
 refine ⟨_,_,rfl,.inr ⟨w.heap.size,0,rfl,⟨Nat.le_refl _,hrow.lt,hrow.frozen⟩,fun i hi x hx=>?_⟩⟩
 rw [Nat.zero_add,hrow.cell (by omega),hrow.cell (by omega),hrow.cell (by omega),(hf i x hi hx).1,(hf i x hi hx).2.1,(hf i x hi hx).2.2]
 exact ⟨rfl,rfl,rfl⟩
end Go.Proofs.YtdhinkgjiapigaaGreatDoor
namespace Go.Proofs.YtdhinkgjiapigaaGreatDoor
open Go.RowKit Go.Deep
open Classical
def DonesA (P:Nat → Prop) (w:World) (v:Value) (l:List (Int × FrameD)):Prop:=
 Sl P v l.length fun b off i=>∀ x,l[i]? = some x → ∃ u1 u2 u3,FrameAt P w u1 u2 u3 x.2 ∧ w.cell? ⟨b,off + i * 5,none⟩ = some (.int .i64 x.1) ∧ w.cell? ⟨b,off + i * 5 + 1,none⟩ = some (.bool x.2.ok) ∧ w.cell? ⟨b,off + i * 5 + 2,none⟩ = some u1 ∧ w.cell? ⟨b,off + i * 5 + 3,none⟩ = some u2 ∧ w.cell? ⟨b,off + i * 5 + 4,none⟩ = some u3
theorem DonesA.keep {P Q:Nat → Prop} {w w':World} {v:Value} {l:List (Int × FrameD)} (h:DonesA P w v l) (hs:Same P w w') (hP:∀ b,P b → Q b):DonesA Q w' v l:=
 Sl.imp h hP fun b off i hb _ he x hx=>by
  obtain ⟨u1,u2,u3,hf,hc⟩:=he x hx
  refine ⟨u1,u2,u3,hf.keep hs hP,?_⟩
  rw [hs b hb,hs b hb,hs b hb,hs b hb,hs b hb]; exact hc
end Go.Proofs.YtdhinkgjiapigaaGreatDoor
namespace Go.Proofs.YtdhinkgjiapigaaGreatDoor
open Go.RowKit Go.Deep
open Classical
def DonesO (base:Nat) (W:World) (v:Value) (l:List (Int × FrameD)) (lo:Nat → Nat):Prop:=
 (∃ a cap,v = .slice a l.length cap ∧ (l.length = 0 ∨ ∃ g N f,a = some ⟨g,0,none⟩ ∧ base ≤ g ∧ W.rowIs g 42 N f ∧ l.length * 5 ≤ N ∧ ∀ (j:Nat) x,l[j]? = some x → ∃ bo bp bw bb,f (j * 5) = .int .i64 x.1 ∧ f (j * 5 + 1) = .bool x.2.ok ∧ OFrame (fun c=>(lo j ≤ c ∧ c < lo (j + 1)) ∧ c ≠ g) W (f (j * 5 + 2)) (f (j * 5 + 3)) (f (j * 5 + 4)) x.2 bo bp bw bb)) ∧
 (∀ j,base ≤ lo j) ∧ (∀ j,j < l.length → lo j ≤ lo (j + 1)) ∧ lo l.length ≤ W.heap.size
theorem DonesR.owned {w w':World} {v:Value} {l:List (Int × FrameD)} (h:DonesR w w' v l):∃ lo,DonesO w.heap.size w' v l lo:=by
 obtain ⟨xs,lo,hown,hd,htop,hlow,hst⟩:=h
 refine ⟨lo,?_,hlow,hst,htop⟩
 rcases Nat.eq_zero_or_pos l.length with z | z
 ·obtain ⟨a,c,rfl⟩:=own_slice hown
  exact ⟨a,c,rfl,.inl z⟩
 ·obtain ⟨g,cap,f,rfl,hb,hr,hN,hf⟩:=own_row hown z
  refine ⟨_,cap,rfl,.inr ⟨g,_,f,rfl,hb,hr,hN,fun j x hx=>?_⟩⟩
  obtain ⟨u1,u2,u3,bo,bp,bw,bb,h0,h1,h2,h3,h4,h5⟩:=hd j x hx
  rw [hf _ _ h0,hf _ _ h1,hf _ _ h2,hf _ _ h3,hf _ _ h4]
  refine ⟨bo,bp,bw,bb,rfl,rfl,h5.away fun t N f b hr' ht=>rowIs_ne hr' hr ?_⟩
  rcases ht with rfl | rfl | rfl <;> decide
theorem DonesO.but {base:Nat} {W W':World} {v:Value} {l:List (Int × FrameD)} {lo:Nat → Nat} {K:Nat → Prop} (h:DonesO base W v l lo) (hB:But K W W') (hk:∀ c,base ≤ c → K c):DonesO base W' v l lo:=by
 obtain ⟨⟨a,cap,rfl,hc⟩,hlow,hst,htop⟩:=h
 refine ⟨⟨a,cap,rfl,?_⟩,hlow,hst,Nat.le_trans htop hB.size⟩
 rcases hc with z | ⟨g,N,f,e,hg,hr,hN,hf⟩
 ·exact .inl z
 ·refine .inr ⟨g,N,f,e,hg,hB.row hr (hk g hg),hN,fun j x hx=>?_⟩
  obtain ⟨bo,bp,bw,bb,h0,h1,h2⟩:=hf j x hx
  exact ⟨bo,bp,bw,bb,h0,h1,h2.but hB (fun c hc=>hk c (Nat.le_trans (hlow j) hc.1.1)) fun _ z=>z⟩
theorem DonesO.read {base:Nat} {W:World} {v:Value} {l:List (Int × FrameD)} {lo:Nat → Nat} (h:DonesO base W v l lo):DonesA (In W) W v l:=by
 obtain ⟨⟨a,cap,rfl,hc⟩,-,-,-⟩:=h
 rcases hc with z | ⟨g,N,f,rfl,hg,hr,hN,hf⟩
 ·exact ⟨a,cap,rfl,.inl z⟩
 ·refine ⟨_,cap,rfl,.inr ⟨g,0,rfl,hr.lt,fun i hi x hx=>?_⟩⟩
  obtain ⟨bo,bp,bw,bb,h0,h1,h2⟩:=hf i x hx
  refine ⟨_,_,_,(h2.bound (Q:=In W) fun _ _ hc=>hc).read,?_⟩
  rw [Nat.zero_add,hr.cell (by omega),hr.cell (by omega),hr.cell (by omega),hr.cell (by omega),hr.cell (by omega),h0,h1]
  exact ⟨rfl,rfl,rfl,rfl,rfl⟩
end Go.Proofs.YtdhinkgjiapigaaGreatDoor
namespace Go.Proofs.YtdhinkgjiapigaaGreatDoor
open Go.RowKit Go.Deep
open Classical
end Go.Proofs.YtdhinkgjiapigaaGreatDoor

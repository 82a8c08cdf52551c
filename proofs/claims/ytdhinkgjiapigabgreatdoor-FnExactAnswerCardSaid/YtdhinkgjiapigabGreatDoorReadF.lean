import Derived.Test.YtdhinkgjiapigabGreatDoorBase
import Derived.Test.YtdhinkgjiapigabGreatDoorBasex
import Derived.Deep.Slices
import Derived.ChangeArms
import Derived.ChangeSame
import Derived.Lib.SmallJoins
import Derived.Test.YtdhinkgjiapigabGreatDoorRows
import Derived.Test.YtdhinkgjiapigabGreatDoorImpl
import Derived.ChangeVars
import Derived.JoinedOf
import Derived.RowKit
import Derived.RowKitTokens
import Derived.LaidLaws
import Derived.LaidHandle
import Derived.Stop.Joined
import Derived.ProofKit
namespace Go.Proofs.YtdhinkgjiapigabGreatDoor
open Go.Deep
section
variable {H : Type} {enc : TypeId × Value → H} {P : Program} {w : World} {base : Nat} {spare : Nat → Bool} {held : Bool}
theorem ztr {α:Type} (f:Nat → α) {n i:Nat} {x:α} (h:((List.range n).map f)[i]? = some x):i < n ∧ x = f i:=by
 rw [List.getElem?_map] at h
 cases hr:(List.range n)[i]? with
 | none=>rw [hr] at h; cases h
 | some j=>
  rw [hr] at h;have hi:=(List.getElem?_eq_some_iff.1 hr).1;rw [List.length_range] at hi;rw [List.getElem?_range hi] at hr
  cases hr
  exact ⟨hi,(Option.some.inj h).symm⟩
theorem zss {a:Addr} {v:Value} (h:w.cell? a = some v):∃ b off,a = ⟨b,off,none⟩ ∧ b < w.heap.size:=by
 obtain ⟨b,off,spot⟩:=a;have hb:b < w.heap.size:=World.block_lt_of_cell? _ _ h
 cases spot with
 | none=>exact ⟨b,off,rfl,hb⟩
 | some s=>
  unfold World.cell? at h;split at h
  ·simp at h
  ·cases h
theorem zt3 (b off i:Nat):(⟨b,off,none⟩:Addr).add i = ⟨b,off + i,none⟩:=by
 unfold Addr.add
 split <;> simp_all
theorem zt7 {α:Type} [Inhabited α] {t e:TypeId} {fuel:Nat} {v:Value} {x:DataW H × List MemPlace} {R:Value → α → Prop} (ht:P.underlying t = some (.slice e)) (hc:P.cellsOf e = 1)
  (h:DataW.trod enc P w base spare held fuel t [v] = some x) (hr:∀ n u y,DataW.trod enc P w base spare held n e [u] = some y → ∃ z:α,R u z) :
  ∃ l:List α,l.length ≤ 9223372036854775807 ∧ Sl (In w) v l.length fun b off i=>∀ z,l[i]? = some z → ∃ u,R u z ∧ w.cell? ⟨b,off + i,none⟩ = some u:=by
 rcases open_slice1 ht hc h with ⟨hcs,-⟩ | ⟨a,len,cap,m,n,V,D,Pl,hcs,-,hl,hm,hmm,-,hx⟩
 ·cases hcs
  exact ⟨[],by simp,_,_,rfl,.inl rfl⟩
 ·cases hcs
  have hlm:len ≤ m:=by rw [hmm]; split <;> omega
  have hz:∀ i,i < len → ∃ z:α,R (V i) z:=fun i hi=>hr n (V i) _ (hx i (by omega)).2;obtain ⟨f,hf⟩:=choose_lt hz
  have hm':cap ≤ 9223372036854775807:=by unfold maxLen at hm; omega
  refine ⟨(List.range len).map f,by simp; omega,some a,cap,by simp,?_⟩;rcases Nat.eq_zero_or_pos len with h0 | h0
  ·exact .inl (by simp [h0])
  ·obtain ⟨b,off,rfl,hb⟩:=zss (by have:=(hx 0 (by omega)).1; rwa [show a.add 0 = a from rfl] at this);refine .inr ⟨b,off,rfl,hb,fun i _ z hz=>?_⟩;obtain ⟨hi,rfl⟩:=ztr f hz;exact ⟨V i,hf i hi,by have:=(hx i (by omega)).1; rwa [zt3] at this⟩
theorem zyi {t e:TypeId} {fuel:Nat} {v:Value} {x:DataW H × List MemPlace} (ht:P.underlying t = some (.slice e)) (he:P.underlying e = some (.int .i64)) (hc:P.cellsOf e = 1)
  (h:DataW.trod enc P w base spare held fuel t [v] = some x):∃ l,l.length ≤ 9223372036854775807 ∧ Ints (In w) w v l:=by
 obtain ⟨l,hl,hs⟩:=zt7 (R:=fun u (z:Int)=>u = .int .i64 z) ht hc h fun n u y hy=>by
  obtain ⟨z,hz,-⟩:=DataW.trod_int he hy
  cases hz
  exact ⟨z,rfl⟩
 exact ⟨l,hl,Sl.imp hs (fun _ h=>h) fun b off i _ _ hE z hz=>by obtain ⟨u,rfl,hu⟩:=hE z hz; exact hu⟩
theorem zyj {t e:TypeId} {fuel:Nat} {v:Value} {x:DataW H × List MemPlace} (ht:P.underlying t = some (.slice e)) (he:P.underlying e = some .bool) (hc:P.cellsOf e = 1)
  (h:DataW.trod enc P w base spare held fuel t [v] = some x):∃ l,l.length ≤ 9223372036854775807 ∧ Bools (In w) w v l:=by
 obtain ⟨l,hl,hs⟩:=zt7 (R:=fun u (z:Bool)=>u = .bool z) ht hc h fun n u y hy=>by
  obtain ⟨z,hz,-⟩:=DataW.trod_bool he hy
  cases hz
  exact ⟨z,rfl⟩
 exact ⟨l,hl,Sl.imp hs (fun _ h=>h) fun b off i _ _ hE z hz=>by obtain ⟨u,rfl,hu⟩:=hE z hz; exact hu⟩
theorem read_rows {t e g:TypeId} {fuel:Nat} {v:Value} {x:DataW H × List MemPlace} (ht:P.underlying t = some (.slice e)) (he:P.underlying e = some (.slice g)) (hg:P.underlying g = some .bool) (hc:P.cellsOf e = 1) (hcg:P.cellsOf g = 1)
  (h:DataW.trod enc P w base spare held fuel t [v] = some x):∃ l,l.length ≤ 9223372036854775807 ∧ (∀ r ∈ l,r.length ≤ 9223372036854775807) ∧ Rows2 (In w) w v l:=by
 obtain ⟨l,hl,hs⟩:=zt7 (R:=fun u (z:List Bool)=>z.length ≤ 9223372036854775807 ∧ Bools (In w) w u z) ht hc h fun n u y hy=>zyj he hg hcg hy;refine ⟨l,hl,fun r hr=>?_,Sl.imp hs (fun _ h=>h) fun b off i _ _ hE z hz=>?_⟩
 ·obtain ⟨i,hi⟩:=List.getElem?_of_mem hr;obtain ⟨a,cap,-,h0 | ⟨b,off,-,-,hE⟩⟩:=hs
  ·rw [List.length_eq_zero_iff.1 h0] at hr; cases hr
  ·obtain ⟨u,hu,-⟩:=hE i (List.getElem?_eq_some_iff.1 hi).1 r hi;exact hu.1
 ·obtain ⟨u,hu,hcu⟩:=hE z hz;exact ⟨u,hu.2,hcu⟩
theorem readk {α:Type} [Inhabited α] {t e:TypeId} {k fuel:Nat} {v:Value} {x:DataW H × List MemPlace} {R:List Value → α → Prop} (ht:P.underlying t = some (.slice e)) (hc:P.cellsOf e = k) (hk:0 < k)
  (h:DataW.trod enc P w base spare held fuel t [v] = some x) (hr:∀ n cs y,cs.length = k → DataW.trod enc P w base spare held n e cs = some y → ∃ z:α,R cs z) :
  ∃ l:List α,l.length ≤ 9223372036854775807 ∧ Sl (In w) v l.length fun b off i=>∀ z,l[i]? = some z → ∃ cs,cs.length = k ∧ R cs z ∧ ∀ j,j < k → w.cell? ⟨b,off + i * k + j,none⟩ = cs[j]?:=by
 rcases open_slice ht h with ⟨hcs,-⟩ | ⟨a,len,cap,m,n,D,Pl,hcs,-,hl,hm,hmm,-,hx⟩
 ·cases hcs
  exact ⟨[],by simp,_,_,rfl,.inl rfl⟩
 ·cases hcs
  rw [hc] at hx
  have hlm:len ≤ m:=by rw [hmm]; split <;> omega
  have hz:∀ i,i < len → ∃ z:α,∃ cs,cs.length = k ∧ R cs z ∧ ∀ j,j < k → w.cell? ((a.add (i * k)).add j) = cs[j]?:=fun i hi=>by
   obtain ⟨cs',h1,h2⟩:=hx i (by omega);obtain ⟨-,h3,h4⟩:=World.cells?_some h1;obtain ⟨z,hz⟩:=hr n cs' _ h3 h2;exact ⟨z,cs',h3,hz,h4⟩
  obtain ⟨f,hf⟩:=choose_lt hz
  have hm':cap ≤ 9223372036854775807:=by unfold maxLen at hm; omega
  refine ⟨(List.range len).map f,by simp; omega,some a,cap,by simp,?_⟩;rcases Nat.eq_zero_or_pos len with h0 | h0
  ·exact .inl (by simp [h0])
  ·obtain ⟨cs,hcl,-,h4⟩:=hf 0 h0;have hcell:=h4 0 hk;rw [Nat.zero_mul,show (a.add 0).add 0 = a from rfl,List.getElem?_eq_getElem (by omega)] at hcell;obtain ⟨b,off,rfl,hb⟩:=zss hcell;refine .inr ⟨b,off,rfl,hb,fun i _ z hz=>?_⟩;obtain ⟨hi,rfl⟩:=ztr f hz;obtain ⟨cs,h1,h2,h3⟩:=hf i hi;exact ⟨cs,h1,h2,fun j hj=>by have:=h3 j hj; rwa [zt3,zt3] at this⟩
theorem list2 {l:List Value} (h:l.length = 2):∃ a b,l = [a,b]:=by
 match l,h with
 | [a,b],_=>exact ⟨a,b,rfl⟩
theorem list5 {l:List Value} (h:l.length = 5):∃ a b c d e,l = [a,b,c,d,e]:=by
 match l,h with
 | [a,b,c,d,e],_=>exact ⟨a,b,c,d,e,rfl⟩
theorem fields2 {t:TypeId} {f0 f1:Field} {fuel:Nat} {a b:Value} {x:DataW H × List MemPlace} (ht:P.underlying t = some (.struct #[f0,f1])) (h:DataW.trod enc P w base spare held fuel t [a,b] = some x)
  (ho:f0.offset = 0 ∧ f1.offset = 1) (hc:P.cellsOf f0.type = 1 ∧ P.cellsOf f1.type = 1) :
  ∃ n y0 y1,DataW.trod enc P w base spare held n f0.type [a] = some y0 ∧ DataW.trod enc P w base spare held n f1.type [b] = some y1:=by
 obtain ⟨xs,n,-,-,-,hlen,hf⟩:=DataW.trod_struct ht h;have h0:=hf 0 f0 rfl;have h1:=hf 1 f1 rfl;rw [ho.1,hc.1] at h0;rw [ho.2,hc.2] at h1;rw [List.getElem?_eq_getElem (by rw [hlen]; show 0 < 2; omega)] at h0;rw [List.getElem?_eq_getElem (by rw [hlen]; show 1 < 2; omega)] at h1;exact ⟨n,_,_,h0,h1⟩
theorem zzr {t:TypeId} {f0 f1 f2 f3 f4:Field} {fuel:Nat} {a b c d e:Value} {x:DataW H × List MemPlace} (ht:P.underlying t = some (.struct #[f0,f1,f2,f3,f4])) (h:DataW.trod enc P w base spare held fuel t [a,b,c,d,e] = some x)
  (ho:f0.offset = 0 ∧ f1.offset = 1 ∧ f2.offset = 2 ∧ f3.offset = 3 ∧ f4.offset = 4) (hc:P.cellsOf f0.type = 1 ∧ P.cellsOf f1.type = 1 ∧ P.cellsOf f2.type = 1 ∧ P.cellsOf f3.type = 1 ∧ P.cellsOf f4.type = 1) :
  ∃ n y0 y1 y2 y3 y4,DataW.trod enc P w base spare held n f0.type [a] = some y0 ∧ DataW.trod enc P w base spare held n f1.type [b] = some y1 ∧ DataW.trod enc P w base spare held n f2.type [c] = some y2 ∧ DataW.trod enc P w base spare held n f3.type [d] = some y3 ∧ DataW.trod enc P w base spare held n f4.type [e] = some y4:=by
 obtain ⟨xs,n,-,-,-,hlen,hf⟩:=DataW.trod_struct ht h;have h0:=hf 0 f0 rfl;have h1:=hf 1 f1 rfl;have h2:=hf 2 f2 rfl;have h3:=hf 3 f3 rfl;have h4:=hf 4 f4 rfl;rw [ho.1,hc.1] at h0;rw [ho.2.1,hc.2.1] at h1;rw [ho.2.2.1,hc.2.2.1] at h2;rw [ho.2.2.2.1,hc.2.2.2.1] at h3;rw [ho.2.2.2.2,hc.2.2.2.2] at h4;have hl:xs.length = 5:=hlen;rw [List.getElem?_eq_getElem (by omega)] at h0 h1 h2 h3 h4;exact ⟨n,_,_,_,_,_,h0,h1,h2,h3,h4⟩
end
end Go.Proofs.YtdhinkgjiapigabGreatDoor
namespace Go.Proofs.YtdhinkgjiapigabGreatDoor
open Go.ChangeShapes Go.WideShapes Go.RowKit Go.Joins
theorem Tryz.cellsInt:Tryz.prog.cellsOf 3 = 1:=by kernel_rfl
theorem Tryz.cellsBool:Tryz.prog.cellsOf 4 = 1:=by kernel_rfl
theorem Tryz.cellsInts:Tryz.prog.cellsOf 22 = 1:=by kernel_rfl
theorem Tryz.cellsBools:Tryz.prog.cellsOf 27 = 1:=by kernel_rfl
theorem Tryz.cellsRows:Tryz.prog.cellsOf 24 = 1:=by kernel_rfl
theorem Tryz.cellsLies:Tryz.prog.cellsOf 151 = 1:=by kernel_rfl
theorem Tryz.cellsWays:Tryz.prog.cellsOf 23 = 1:=by kernel_rfl
theorem Tryz.cellsLie:Tryz.prog.cellsOf 243 = 2:=by kernel_rfl
theorem Tryz.cellsWay:Tryz.prog.cellsOf 153 = 5:=by kernel_rfl
theorem Tryz.cellsPlan:Tryz.prog.cellsOf 26 = 5:=by kernel_rfl
theorem Tryz.own:ownKnob Tryz.prog.godebug = none:=by kernel_rfl
theorem Tryz.laidOut:laidOutB Tryz.prog = true:=by kernel_rfl
section
variable {H : Type} {enc : TypeId × Value → H} {w : World} {base : Nat} {spare : Nat → Bool} {held : Bool}
theorem zzh {fuel:Nat} {v:Value} {x:DataW H × List MemPlace} (h:DataW.trod enc Tryz.prog w base spare held fuel 151 [v] = some x):∃ l,l.length ≤ 9223372036854775807 ∧ Lies (In w) w v l:=by
 obtain ⟨l,hl,hs⟩:=readk (R:=fun cs (z:Int × Int)=>cs = [.int .i64 z.1,.int .i64 z.2]) Tryz.underlying151 Tryz.cellsLie (by omega) h fun n cs y hcl hy=>by
  obtain ⟨a,b,rfl⟩:=list2 hcl;obtain ⟨m,y0,y1,h0,h1⟩:=fields2 Tryz.underlying243 hy ⟨rfl,rfl⟩ ⟨Tryz.cellsInt,Tryz.cellsInt⟩;obtain ⟨z0,e0,-⟩:=DataW.trod_int Tryz.underlying3 h0;obtain ⟨z1,e1,-⟩:=DataW.trod_int Tryz.underlying3 h1
  cases e0
  cases e1
  exact ⟨(z0,z1),rfl⟩
 refine ⟨l,hl,Sl.imp hs (fun _ h=>h) fun b off i _ _ hE z hz=>?_⟩;obtain ⟨cs,-,rfl,hc⟩:=hE z hz;exact ⟨by simpa using hc 0 (by omega),by simpa using hc 1 (by omega)⟩
theorem read_ways {fuel:Nat} {v:Value} {x:DataW H × List MemPlace} (h:DataW.trod enc Tryz.prog w base spare held fuel 23 [v] = some x):∃ l,l.length ≤ 9223372036854775807 ∧ (∀ y ∈ l,WayD.Small 9223372036854775807 y) ∧ Ways (In w) w v l:=by
 have hi:Inhabited WayD:=⟨⟨[],[],[],[],[]⟩⟩
 obtain ⟨l,hl,hs⟩:=readk (R:=fun cs (z:WayD)=>z.Small 9223372036854775807 ∧ ∃ v0 v1 v2 v3 v4,cs = [v0,v1,v2,v3,v4] ∧ WayAt (In w) w v0 v1 v2 v3 v4 z) Tryz.underlying23 Tryz.cellsWay (by omega) h fun n cs y hcl hy=>by
  obtain ⟨a,b,c,d,e,rfl⟩:=list5 hcl;obtain ⟨m,y0,y1,y2,y3,y4,h0,h1,h2,h3,h4⟩:=zzr Tryz.underlying153 hy ⟨rfl,rfl,rfl,rfl,rfl⟩ ⟨Tryz.cellsInts,Tryz.cellsLies,Tryz.cellsLies,Tryz.cellsInts,Tryz.cellsInts⟩;obtain ⟨l0,s0,r0⟩:=zyi Tryz.underlying22 Tryz.underlying3 Tryz.cellsInt h0;obtain ⟨l1,s1,r1⟩:=zzh h1;obtain ⟨l2,s2,r2⟩:=zzh h2;obtain ⟨l3,s3,r3⟩:=zyi Tryz.underlying22 Tryz.underlying3 Tryz.cellsInt h3;obtain ⟨l4,s4,r4⟩:=zyi Tryz.underlying22 Tryz.underlying3 Tryz.cellsInt h4;exact ⟨⟨l0,l1,l2,l3,l4⟩,⟨s0,s1,s2,s3,s4⟩,a,b,c,d,e,rfl,r0,r1,r2,r3,r4⟩
 refine ⟨l,hl,fun y hy=>?_,Sl.imp hs (fun _ h=>h) fun b off i _ _ hE z hz=>?_⟩
 ·obtain ⟨i,hi⟩:=List.getElem?_of_mem hy;obtain ⟨a,cap,-,h0 | ⟨b,off,-,-,hE⟩⟩:=hs
  ·rw [List.length_eq_zero_iff.1 h0] at hy; cases hy
  ·obtain ⟨cs,-,hu,-⟩:=hE i (List.getElem?_eq_some_iff.1 hi).1 y hi;exact hu.1
 ·obtain ⟨cs,-,⟨-,v0,v1,v2,v3,v4,rfl,hw⟩,hc⟩:=hE z hz;exact ⟨v0,v1,v2,v3,v4,hw,by simpa using hc 0 (by omega),by simpa using hc 1 (by omega),by simpa using hc 2 (by omega),by simpa using hc 3 (by omega),by simpa using hc 4 (by omega)⟩
theorem read_plan {fuel:Nat} {a b c d e:Value} {x:DataW H × List MemPlace} (h:DataW.trod enc Tryz.prog w base spare held fuel 26 [a,b,c,d,e] = some x) :
  ∃ p:PlanD,a = .int .i64 p.sections ∧ e = .int .i64 p.hold ∧ p.Small 9223372036854775807 ∧ PlanAt (In w) w b c d p:=by
 obtain ⟨m,y0,y1,y2,y3,y4,h0,h1,h2,h3,h4⟩:=zzr Tryz.underlying26 h ⟨rfl,rfl,rfl,rfl,rfl⟩ ⟨Tryz.cellsInt,Tryz.cellsInts,Tryz.cellsWays,Tryz.cellsRows,Tryz.cellsInt⟩;obtain ⟨z0,e0,-⟩:=DataW.trod_int Tryz.underlying3 h0;obtain ⟨z4,e4,-⟩:=DataW.trod_int Tryz.underlying3 h4;obtain ⟨l1,s1,r1⟩:=zyi Tryz.underlying22 Tryz.underlying3 Tryz.cellsInt h1;obtain ⟨l2,s2,t2,r2⟩:=read_ways h2;obtain ⟨l3,s3,t3,r3⟩:=read_rows Tryz.underlying24 Tryz.underlying27 Tryz.underlying4 Tryz.cellsBools Tryz.cellsBool h3
 cases e0
 cases e4
 exact ⟨⟨z0,l1,l2,l3,z4⟩,rfl,rfl,⟨s1,s2,t2,s3,t3⟩,r1,r2,r3⟩
end
/-! ### The listed variable -/
theorem Tryz.et : Tryz.prog.globalNamed "errors.errorType" = some 1 := by kernel_rfl
theorem Tryz.rt : (Tryz.prog.cutTypes.find? (·.1 == "internal/reflectlite.rtype")).map (·.2) = some 290 := by kernel_rfl
theorem Tryz.oneRow:((List.range 353).filter fun t=>Tryz.prog.rowNamed t [101,114,114,111,114]) = [142]:=by kernel_rfl
theorem Tryz.size:Tryz.prog.types.size = 353:=by kernel_rfl
abbrev ztj : List (String × DataW Unit) := [("errors.errorType", Rows.laid_errors_errorType)]
theorem zsl {W:World} (h:laidMetH Tryz.prog ztj W):W.cell? ⟨1,0,none⟩ = some zrv:=by
 have h':laidMet Tryz.prog [] W ∧ handlesMet Tryz.prog ztj W:=h;obtain ⟨name,u,ty,e1,e2,e3,e4,e5⟩:=h'.2 _ (List.mem_singleton.2 rfl);have en:name = [101,114,114,111,114]:=(Option.some.inj e1).symm;subst en;obtain rfl:=Option.some.inj (Tryz.rt.symm.trans e2);have hm:ty ∈ (List.range 353).filter fun t=>Tryz.prog.rowNamed t [101,114,114,111,114]:=List.mem_filter.2 ⟨List.mem_range.2 (by rw [← Tryz.size]; exact e3),e4⟩;rw [Tryz.oneRow] at hm;obtain rfl:=List.mem_singleton.1 hm
 have hh:typeHandle Tryz.prog 142 = .pointer (some ⟨5,142,none⟩):=by kernel_rfl
 rw [hh] at e5;simpa using World.var?_cell Tryz.et e5 0
def zto:Obj → Obj
 | .cells _ t frozen=>.cells #[.iface 290 (.agg #[.pointer (some ⟨5,142,none⟩)])] t frozen
 | o=>o
theorem zsr (os:Os) (args:Array Value):laidMetH Tryz.prog ztj (({ World.holding Tryz.prog os ⟨#[],#[],[]⟩ with heap:=(World.holding Tryz.prog os ⟨#[],#[],[]⟩).heap.modify 1 zto }:World).forCall (fun _ _=>0) ⟨#[],args,[]⟩).memory:=
 laidMetH_of_parts (laidMet_nil _ _) (by kernel_rfl)
end Go.Proofs.YtdhinkgjiapigabGreatDoor
namespace Go.Proofs.YtdhinkgjiapigabGreatDoor
open Go.ChangeShapes Go.WideShapes Go.RowKit Go.Joins Go.Deep
theorem Tryz.cellsPoint:Tryz.prog.cellsOf 162 = 2:=by kernel_rfl
theorem Tryz.cellsHeld:Tryz.prog.cellsOf 155 = 5:=by kernel_rfl
theorem Tryz.cellsFrame:Tryz.prog.cellsOf 31 = 4:=by kernel_rfl
theorem Tryz.cellsPoints:Tryz.prog.cellsOf 28 = 1:=by kernel_rfl
theorem Tryz.cellsHelds:Tryz.prog.cellsOf 29 = 1:=by kernel_rfl
theorem list4 {l:List Value} (h:l.length = 4):∃ a b c d,l = [a,b,c,d]:=by
 match l,h with
 | [a,b,c,d],_=>exact ⟨a,b,c,d,rfl⟩
section
variable {H : Type} {enc : TypeId × Value → H} {w : World} {base : Nat} {spare : Nat → Bool} {held : Bool}
theorem fields4 {P:Program} {t:TypeId} {f0 f1 f2 f3:Field} {fuel:Nat} {a b c d:Value} {x:DataW H × List MemPlace} (ht:P.underlying t = some (.struct #[f0,f1,f2,f3])) (h:DataW.trod enc P w base spare held fuel t [a,b,c,d] = some x)
  (ho:f0.offset = 0 ∧ f1.offset = 1 ∧ f2.offset = 2 ∧ f3.offset = 3) (hc:P.cellsOf f0.type = 1 ∧ P.cellsOf f1.type = 1 ∧ P.cellsOf f2.type = 1 ∧ P.cellsOf f3.type = 1) :
  ∃ n y0 y1 y2 y3,DataW.trod enc P w base spare held n f0.type [a] = some y0 ∧ DataW.trod enc P w base spare held n f1.type [b] = some y1 ∧ DataW.trod enc P w base spare held n f2.type [c] = some y2 ∧ DataW.trod enc P w base spare held n f3.type [d] = some y3:=by
 obtain ⟨xs,n,-,-,-,hlen,hf⟩:=DataW.trod_struct ht h;have h0:=hf 0 f0 rfl;have h1:=hf 1 f1 rfl;have h2:=hf 2 f2 rfl;have h3:=hf 3 f3 rfl;rw [ho.1,hc.1] at h0;rw [ho.2.1,hc.2.1] at h1;rw [ho.2.2.1,hc.2.2.1] at h2;rw [ho.2.2.2,hc.2.2.2] at h3;have hl:xs.length = 4:=hlen;rw [List.getElem?_eq_getElem (by omega)] at h0 h1 h2 h3;exact ⟨n,_,_,_,_,h0,h1,h2,h3⟩
theorem zzx {fuel:Nat} {v:Value} {x:DataW H × List MemPlace} (h:DataW.trod enc Tryz.prog w base spare held fuel 28 [v] = some x):∃ l,l.length ≤ 9223372036854775807 ∧ Lies (In w) w v l:=by
 obtain ⟨l,hl,hs⟩:=readk (R:=fun cs (z:Int × Int)=>cs = [.int .i64 z.1,.int .i64 z.2]) Tryz.underlying28 Tryz.cellsPoint (by omega) h fun n cs y hcl hy=>by
  obtain ⟨a,b,rfl⟩:=list2 hcl;obtain ⟨m,y0,y1,h0,h1⟩:=fields2 Tryz.underlying162 hy ⟨rfl,rfl⟩ ⟨Tryz.cellsInt,Tryz.cellsInt⟩;obtain ⟨z0,e0,-⟩:=DataW.trod_int Tryz.underlying3 h0;obtain ⟨z1,e1,-⟩:=DataW.trod_int Tryz.underlying3 h1
  cases e0
  cases e1
  exact ⟨(z0,z1),rfl⟩
 refine ⟨l,hl,Sl.imp hs (fun _ h=>h) fun b off i _ _ hE z hz=>?_⟩;obtain ⟨cs,-,rfl,hc⟩:=hE z hz;exact ⟨by simpa using hc 0 (by omega),by simpa using hc 1 (by omega)⟩
theorem read_helds {fuel:Nat} {v:Value} {x:DataW H × List MemPlace} (h:DataW.trod enc Tryz.prog w base spare held fuel 29 [v] = some x):∃ l,l.length ≤ 9223372036854775807 ∧ (∀ y:HeldD,y ∈ l → y.been.length ≤ 9223372036854775807) ∧ Helds (In w) w v l:=by
 have hi:Inhabited HeldD:=⟨⟨0,0,[],false,0⟩⟩
 obtain ⟨l,hl,hs⟩:=readk (R:=fun cs (z:HeldD)=>z.been.length ≤ 9223372036854775807 ∧ ∃ v2,cs = [.int .i64 z.state,.int .i64 z.gone,v2,.bool z.shown,.int .i64 z.timer] ∧ Bools (In w) w v2 z.been) Tryz.underlying29 Tryz.cellsHeld (by omega) h fun n cs y hcl hy=>by
  obtain ⟨a,b,c,d,e,rfl⟩:=list5 hcl;obtain ⟨m,y0,y1,y2,y3,y4,h0,h1,h2,h3,h4⟩:=zzr Tryz.underlying155 hy ⟨rfl,rfl,rfl,rfl,rfl⟩ ⟨Tryz.cellsInt,Tryz.cellsInt,Tryz.cellsBools,Tryz.cellsBool,Tryz.cellsInt⟩;obtain ⟨z0,e0,-⟩:=DataW.trod_int Tryz.underlying3 h0;obtain ⟨z1,e1,-⟩:=DataW.trod_int Tryz.underlying3 h1;obtain ⟨l2,s2,r2⟩:=zyj Tryz.underlying27 Tryz.underlying4 Tryz.cellsBool h2;obtain ⟨z3,e3,-⟩:=DataW.trod_bool Tryz.underlying4 h3;obtain ⟨z4,e4,-⟩:=DataW.trod_int Tryz.underlying3 h4
  cases e0
  cases e1
  cases e3
  cases e4
  exact ⟨⟨z0,z1,l2,z3,z4⟩,s2,c,rfl,r2⟩
 refine ⟨l,hl,fun y hy=>?_,Sl.imp hs (fun _ h=>h) fun b off i _ _ hE z hz=>?_⟩
 ·obtain ⟨i,hi⟩:=List.getElem?_of_mem hy;obtain ⟨a,cap,-,h0 | ⟨b,off,-,-,hE⟩⟩:=hs
  ·rw [List.length_eq_zero_iff.1 h0] at hy; cases hy
  ·obtain ⟨cs,-,hu,-⟩:=hE i (List.getElem?_eq_some_iff.1 hi).1 y hi;exact hu.1
 ·obtain ⟨cs,-,⟨-,v2,rfl,hw⟩,hc⟩:=hE z hz;exact ⟨v2,hw,by simpa using hc 0 (by omega),by simpa using hc 1 (by omega),by simpa using hc 2 (by omega),by simpa using hc 3 (by omega),by simpa using hc 4 (by omega)⟩
theorem read_frame {fuel:Nat} {a b c d:Value} {x:DataW H × List MemPlace} (h:DataW.trod enc Tryz.prog w base spare held fuel 31 [a,b,c,d] = some x) :
  ∃ f:FrameD,a = .bool f.ok ∧ f.Small 9223372036854775807 ∧ FrameAt (In w) w b c d f:=by
 obtain ⟨m,y0,y1,y2,y3,h0,h1,h2,h3⟩:=fields4 Tryz.underlying31 h ⟨rfl,rfl,rfl,rfl⟩ ⟨Tryz.cellsBool,Tryz.cellsBools,Tryz.cellsPoints,Tryz.cellsHelds⟩;obtain ⟨z0,e0,-⟩:=DataW.trod_bool Tryz.underlying4 h0;obtain ⟨l1,s1,r1⟩:=zyj Tryz.underlying27 Tryz.underlying4 Tryz.cellsBool h1;obtain ⟨l2,s2,r2⟩:=zzx h2;obtain ⟨l3,s3,t3,r3⟩:=read_helds h3
 cases e0
 exact ⟨⟨z0,l1,l2,l3⟩,rfl,⟨s1,s2,s3,t3⟩,r1,r2,r3⟩
end
end Go.Proofs.YtdhinkgjiapigabGreatDoor

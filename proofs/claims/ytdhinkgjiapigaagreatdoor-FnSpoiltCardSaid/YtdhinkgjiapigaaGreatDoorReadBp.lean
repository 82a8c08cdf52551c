import Derived.Test.YtdhinkgjiapigaaGreatDoorBase
import Derived.Test.YtdhinkgjiapigaaGreatDoorDltp
import Derived.Deep.Slices
import Derived.ChangeArms
import Derived.ChangeSame
import Derived.Lib.SmallJoins
import Derived.Test.YtdhinkgjiapigaaGreatDoorRows
import Derived.Test.YtdhinkgjiapigaaGreatDoorImpl
import Derived.ChangeVars
import Derived.JoinedOf
import Derived.RowKit
import Derived.RowKitTokens
import Derived.LaidLaws
import Derived.LaidHandle
import Derived.Stop.Joined
import Derived.ProofKit
import Derived.Test.YtdhinkgjiapigaaGreatDoorRunS
namespace Go.Proofs.YtdhinkgjiapigaaGreatDoor
open Go.Deep
section
variable {H : Type} {enc : TypeId × Value → H} {P : Program} {w : World} {base : Nat} {spare : Nat → Bool} {held : Bool}
theorem ztr {α:Type} (f:Nat → α) {n i:Nat} {x:α} (h:((List.range n).map f)[i]? = some x):i < n ∧ x = f i:=by
 rw [List.getElem?_map] at h
 cases hr:(List.range n)[i]? with
 | none=>rw [hr] at h; cases h
 | some j=>
  rw [hr] at h;have hi:=(List.getElem?_eq_some_iff.1 hr).1;rw [List.length_range] at hi;rw [List.getElem?_range hi] at hr
  cases hr
  exact ⟨hi,(Option.some.inj h).symm⟩
theorem zss {a:Addr} {v:Value} (h:w.cell? a = some v):∃ b off,a = ⟨b,off,none⟩ ∧ b < w.heap.size:=by
 obtain ⟨b,off,spot⟩:=a;have hb:b < w.heap.size:=World.block_lt_of_cell? _ _ h
 cases spot with
 | none=>exact ⟨b,off,rfl,hb⟩
 | some s=>
  unfold World.cell? at h;split at h
  ·simp at h
  ·cases h
theorem zt3 (b off i:Nat):(⟨b,off,none⟩:Addr).add i = ⟨b,off + i,none⟩:=by
 unfold Addr.add
 split <;> simp_all
theorem zt7 {α:Type} [Inhabited α] {t e:TypeId} {fuel:Nat} {v:Value} {x:DataW H × List MemPlace} {R:Value → α → Prop} (ht:P.underlying t = some (.slice e)) (hc:P.cellsOf e = 1)
  (h:DataW.trod enc P w base spare held fuel t [v] = some x) (hr:∀ n u y,DataW.trod enc P w base spare held n e [u] = some y → ∃ z:α,R u z) :
  ∃ l:List α,l.length ≤ 9223372036854775807 ∧ Sl (In w) v l.length fun b off i=>∀ z,l[i]? = some z → ∃ u,R u z ∧ w.cell? ⟨b,off + i,none⟩ = some u:=by
 rcases open_slice1 ht hc h with ⟨hcs,-⟩ | ⟨a,len,cap,m,n,V,D,Pl,hcs,-,hl,hm,hmm,-,hx⟩
 ·cases hcs
  exact ⟨[],by simp,_,_,rfl,.inl rfl⟩
 ·cases hcs
  have hlm:len ≤ m:=by rw [hmm]; split <;> omega
  have hz:∀ i,i < len → ∃ z:α,R (V i) z:=fun i hi=>hr n (V i) _ (hx i (by omega)).2;obtain ⟨f,hf⟩:=choose_lt hz
  have hm':cap ≤ 9223372036854775807:=by unfold maxLen at hm; omega
  refine ⟨(List.range len).map f,by simp; omega,some a,cap,by simp,?_⟩;rcases Nat.eq_zero_or_pos len with h0 | h0
  ·exact .inl (by simp [h0])
  ·obtain ⟨b,off,rfl,hb⟩:=zss (by have:=(hx 0 (by omega)).1; rwa [show a.add 0 = a from rfl] at this);refine .inr ⟨b,off,rfl,hb,fun i _ z hz=>?_⟩;obtain ⟨hi,rfl⟩:=ztr f hz;exact ⟨V i,hf i hi,by have:=(hx i (by omega)).1; rwa [zt3] at this⟩
end
end Go.Proofs.YtdhinkgjiapigaaGreatDoor
namespace Go.Proofs.YtdhinkgjiapigaaGreatDoor
open Go.ChangeShapes Go.WideShapes Go.RowKit Go.Joins
theorem Tryz.own:ownKnob Tryz.prog.godebug = none:=by kernel_rfl
theorem Tryz.laidOut:laidOutB Tryz.prog = true:=by kernel_rfl
theorem Tryz.cellsByte:Tryz.prog.cellsOf 5 = 1:=by kernel_rfl
theorem zt0 {z:Int} (h:(Lit.int .u8 z).wf = true):0 ≤ z ∧ z ≤ 255:=by
 simpa [Lit.wf,IntKind.min,IntKind.max,IntKind.signed,IntKind.bits] using h
section
variable {H : Type} {enc : TypeId × Value → H} {w : World} {base : Nat} {spare : Nat → Bool} {held : Bool}
theorem ztk {fuel:Nat} {v:Value} {x:DataW H × List MemPlace} (h:DataW.trod enc Tryz.prog w base spare held fuel 22 [v] = some x):∃ n,n ≤ 9223372036854775807 ∧ Bys (In w) w v n:=by
 obtain ⟨l,hl,hs⟩:=zt7 (R:=fun u (z:Int)=>u = .int .u8 z ∧ 0 ≤ z ∧ z ≤ 255) Tryz.underlying22 Tryz.cellsByte h fun n u y hy=>by
  obtain ⟨z,hz,-,hw⟩:=DataW.trod_int Tryz.underlying5 hy
  cases hz
  exact ⟨z,rfl,zt0 hw⟩
 refine ⟨l.length,hl,Sl.imp hs (fun _ h=>h) fun b off i _ hl0 hE=>?_⟩;obtain ⟨u,⟨rfl,h0,h1⟩,hu⟩:=hE l[i] (List.getElem?_eq_getElem hl0);exact ⟨_,h0,h1,hu⟩
end
theorem Tryz.et : Tryz.prog.globalNamed "errors.errorType" = some 1 := by kernel_rfl
theorem Tryz.rt : (Tryz.prog.cutTypes.find? (·.1 == "internal/reflectlite.rtype")).map (·.2) = some 210 := by kernel_rfl
theorem Tryz.oneRow:((List.range 301).filter fun t=>Tryz.prog.rowNamed t [101,114,114,111,114]) = [83]:=by kernel_rfl
theorem Tryz.size:Tryz.prog.types.size = 301:=by kernel_rfl
abbrev ztj : List (String × DataW Unit) := [("errors.errorType", Rows.laid_errors_errorType)]
theorem zsl {W:World} (h:laidMetH Tryz.prog ztj W):W.cell? ⟨1,0,none⟩ = some zrv:=by
 have h':laidMet Tryz.prog [] W ∧ handlesMet Tryz.prog ztj W:=h;obtain ⟨name,u,ty,e1,e2,e3,e4,e5⟩:=h'.2 _ (List.mem_singleton.2 rfl);have en:name = [101,114,114,111,114]:=(Option.some.inj e1).symm;subst en;obtain rfl:=Option.some.inj (Tryz.rt.symm.trans e2);have hm:ty ∈ (List.range 301).filter fun t=>Tryz.prog.rowNamed t [101,114,114,111,114]:=List.mem_filter.2 ⟨List.mem_range.2 (by rw [← Tryz.size]; exact e3),e4⟩;rw [Tryz.oneRow] at hm;obtain rfl:=List.mem_singleton.1 hm
 have hh:typeHandle Tryz.prog 83 = .pointer (some ⟨5,83,none⟩):=by kernel_rfl
 rw [hh] at e5;simpa using World.var?_cell Tryz.et e5 0
def zto:Obj → Obj
 | .cells _ t frozen=>.cells #[.iface 210 (.agg #[.pointer (some ⟨5,83,none⟩)])] t frozen
 | o=>o
theorem zsr (os:Os) (args:Array Value):laidMetH Tryz.prog ztj (({ World.holding Tryz.prog os ⟨#[],#[],[]⟩ with heap:=(World.holding Tryz.prog os ⟨#[],#[],[]⟩).heap.modify 1 zto }:World).forCall (fun _ _=>0) ⟨#[],args,[]⟩).memory:=
 laidMetH_of_parts (laidMet_nil _ _) (by kernel_rfl)
end Go.Proofs.YtdhinkgjiapigaaGreatDoor

import Derived.Lib.SmallJoins
import Derived.Test.YtdhinkgjiapigaaGreatDoorRows
import Derived.LaidHandle
import Derived.Stop.Joined
import Derived.Test.YtdhinkgjiapigaaGreatDoorRunS
import Derived.Test.YtdhinkgjiapigaaGreatDoorShK
import Derived.Lib.LaidU8
namespace Go.Proofs.YtdhinkgjiapigaaGreatDoor
section
open Go.Deep
section
variable {H : Type}{enc : TypeId×Value->H}{P : Program}{w : World}{base : Nat}{spare : Nat->Bool}{held : Bool}
theorem Jn {α:Type}(f:Nat->α) {n i:Nat}{x:α}(h:((List.range n).map f)[i]?=some x):i<n∧x=f i:=by
 rw[List.getElem?_map] at h
 cases hr:(List.range n)[i]? with
 | none=>rw[hr] at h; cases h
 | some j=>
  rw[hr] at h;have hi:=(List.getElem?_eq_some_iff.1 hr).1;rw[List.length_range] at hi;rw[List.getElem?_range hi] at hr
  cases hr
  exact⟨hi,(Option.some.inj h).symm⟩
theorem J6 {a:Addr}{v:Value}(h:w.cell? a=some v):∃b off,a=⟨b,off,none⟩∧b<w.heap.size:=by
 obtain⟨b,off,c⟩:=a;have d:b<w.heap.size:=World.block_lt_of_cell? _ _ h
 cases c with
 | none=>exact⟨b,off,rfl,d⟩
 | some s=>
  unfold World.cell? at h;split at h
  ·simp at h
  ·cases h
theorem Jb (b off i:Nat):(⟨b,off,none⟩:Addr).add i=⟨b,off+i,none⟩:=by
 unfold Addr.add
 split <;> simp_all
theorem Je {α:Type}[Inhabited α] {t e:TypeId}{j:Nat}{v:Value}{x:DataW H×List MemPlace}{R:Value->α->Prop}(G:P.underlying t=some (.slice e)) (s:P.cellsOf e=1)
  (h:DataW.trod enc P w base spare held j t [v]=some x) (F:∀n u y,DataW.trod enc P w base spare held n e [u]=some y->∃z:α,R u z) :
  ∃l:List α,l.length<=9223372036854775807∧Sl (In w) v l.length fun b off i=>∀z,l[i]?=some z->∃u,R u z∧w.cell? ⟨b,off+i,none⟩=some u:=by
 rcases open_slice1 G s h with ⟨d,-⟩ | ⟨a,c,g,m,n,V,D,I,d,-,J,C,k,-,o⟩
 ·cases d
  exact⟨[],by simp,_,_,rfl,.inl rfl⟩
 ·cases d
  have B:c<=m:=by rw[k]; split <;> omega
  have p:∀i,i<c->∃z:α,R (V i) z:=fun i hi=>F n (V i) _ (o i (by omega)).2;obtain⟨f,A⟩:=choose_lt p
  have E:g<=9223372036854775807:=by unfold maxLen at C; omega
  refine⟨(List.range c).map f,by simp; omega,some a,g,by simp,?_⟩;rcases Nat.eq_zero_or_pos c with q | q
  ·exact .inl (by simp[q])
  ·obtain⟨b,off,rfl,r⟩:=J6 (by have:=(o 0 (by omega)).1; rwa [show a.add 0=a from rfl] at this);refine .inr ⟨b,off,rfl,r,fun i _ z p=>?_⟩;obtain⟨hi,rfl⟩:=Jn f p;exact⟨V i,A i hi,by have:=(o i (by omega)).1; rwa [Jb] at this⟩
end
end
section
open Go.ChangeShapes Go.Joins Go.RowKit Go.WideShapes
theorem Tryz.own:ownKnob Tryz.prog.godebug=none:=by kernel_rfl
theorem Tryz.laidOut:laidOutB Tryz.prog=true:=by kernel_rfl
theorem Tryz.cellsByte:Tryz.prog.cellsOf 5=1:=by kernel_rfl
theorem J8 {z:Int}(h:(Lit.int .u8 z).wf=true):0<=z∧z<=255:=by
 simpa [Lit.wf,IntKind.min,IntKind.max,IntKind.signed,IntKind.bits] using h
section
variable {H : Type}{enc : TypeId×Value->H}{w : World}{base : Nat}{spare : Nat->Bool}{held : Bool}
theorem Jj {a:Nat}{v:Value}{x:DataW H×List MemPlace}(h:DataW.trod enc Tryz.prog w base spare held a 22 [v]=some x):∃n,n<=9223372036854775807∧yJ (In w) w v n:=by
 obtain⟨l,g,j⟩:=Je (R:=fun u (z:Int)=>u=.int .u8 z∧0<=z∧z<=255) Tryz.underlying22 Tryz.cellsByte h fun n u y o=>by
  obtain⟨z,p,-,m⟩:=DataW.trod_int Tryz.underlying5 o
  cases p
  exact⟨z,rfl,J8 m⟩
 refine⟨l.length,g,Sl.imp j (fun _ h=>h) fun b off i _ c f=>?_⟩;obtain⟨u,⟨rfl,d,e⟩,k⟩:=f l[i] (List.getElem?_eq_getElem c);exact⟨_,d,e,k⟩
end
theorem Tryz.et : Tryz.prog.globalNamed "errors.errorType"=some 1 := by kernel_rfl
theorem Tryz.rt : (Tryz.prog.cutTypes.find? (·.1 == "internal/reflectlite.rtype")).map (·.2)=some 210 := by kernel_rfl
theorem Tryz.oneRow:((List.range 301).filter fun t=>Tryz.prog.rowNamed t [101,114,114,111,114])=[83]:=by kernel_rfl
theorem Tryz.size:Tryz.prog.types.size=301:=by kernel_rfl
abbrev zY : List (String×DataW Unit) := [("errors.errorType", Rows.laid_errors_errorType)]
theorem J4 {W:World}(h:laidMetH Tryz.prog zY W):W.cell? ⟨1,0,none⟩=some rF:=by
 have j:laidMet Tryz.prog [] W∧handlesMet Tryz.prog zY W:=h;obtain⟨a,u,l,d,e,f,g,b⟩:=j.2 _ (List.mem_singleton.2 rfl);have i:a=[101,114,114,111,114]:=(Option.some.inj d).symm;subst i;obtain rfl:=Option.some.inj (Tryz.rt.symm.trans e);have c:l∈(List.range 301).filter fun t=>Tryz.prog.rowNamed t [101,114,114,111,114]:=List.mem_filter.2 ⟨List.mem_range.2 (by rw[← Tryz.size]; exact f),g⟩;rw[Tryz.oneRow] at c;obtain rfl:=List.mem_singleton.1 c
 have k:typeHandle Tryz.prog 83=.pointer (some ⟨5,83,none⟩):=by kernel_rfl
 rw[k] at b;simpa using World.var?_cell Tryz.et b 0
def Bn:Obj->Obj
 | .cells _ t frozen=>.cells #[.iface 210 (.agg #[.pointer (some ⟨5,83,none⟩)])] t frozen
 | o=>o
end
section
open Classical Go.Lib Go.RowKit
def Ew:DataW Unit:=tabData .u8 (mC.map fun c=>(c.toNat:Int))
theorem Tryz.uU : Tryz.prog.globalNamed "loop.example/tappet/impl.signs"=some 0 := by kernel_rfl
theorem Tryz.uV:(Tryz.prog.globals[0]?).map (·.type)=some 88:=by kernel_rfl
theorem KD {l : List (String×DataW Unit)}{W : World}(h : laidMet Tryz.prog l W) (o : ("loop.example/tappet/impl.signs", Ew)∈l) : cF W∧0<W.heap.size := by
 obtain⟨g,t,q,f,p,i,e,a,m⟩:=laidMet.reads h o
 obtain rfl:=Option.some.inj (Tryz.uU.symm.trans i)
 obtain rfl:=Option.some.inj (Tryz.uV.symm.trans e)
 have d:=cells_of_tab (n:=13) Tryz.underlying88 Tryz.underlying5 (by kernel_rfl) (by kernel_rfl) m
 have b:cF W:=fun k c j=>by
  rw[World.var?_cell i a k,← Array.getElem?_toList,d]
  simp[j]
 refine⟨b,?_⟩
 have:=b 0 45 rfl
 unfold World.cell? at this
 rcases Nat.lt_or_ge 0 W.heap.size with z | z
 ·exact z
 ·rw[Array.getElem?_eq_none (by simpa using z)] at this
  cases this
end
end Go.Proofs.YtdhinkgjiapigaaGreatDoor

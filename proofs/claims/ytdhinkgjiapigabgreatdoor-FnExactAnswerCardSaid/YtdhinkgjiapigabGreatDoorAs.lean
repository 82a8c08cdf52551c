import Derived.Test.YtdhinkgjiapigabGreatDoorProg
import Derived.Test.YtdhinkgjiapigabGreatDoorBase
import Derived.Deep.OwnRows
import Derived.WalkKit
import Derived.LaidEql
import Derived.Stop.Asserts
import Derived.RowKitTokens
namespace Go.Proofs.YtdhinkgjiapigabGreatDoor
open Go.RowKit Go.Extern.Stop Go.Stop Go.Extern
theorem zrd (t:Value) (w:World) :
  Calls Tryz.prog 176 #[.nilIface,t] w fun e w'=>e = .returned (.bool false) ∧ w' = w:=by
 go_enter Tryz.func176,Tryz.ntmps176;go_wp2;go_ret;exact ⟨rfl,rfl⟩
theorem Tryz.valueOfP (t:Addr) (w:World):(ReflectliteValue.unpack (.iface 208 (.pointer (some t)))).run Tryz.prog w
  = .ok (.agg #[.pointer (some ⟨5,208,none⟩),.pointer (some ⟨w.heap.size,0,none⟩),.int .u64 150]) (w.alloc (.cells #[.pointer (some t)] 208)):=by kernel_rfl
theorem Tryz.typeP (a : Addr) (w : World) : (ReflectliteValue.methodAny (ReflectliteValue.valueError "reflectlite.Value.Type" 0) (fun t _ _ _ => ReflectliteType.toType t) #[.agg #[.pointer (some ⟨5, 208, none⟩), .pointer (some a), .int .u64 150]]).run Tryz.prog w
  = .ok (.iface 290 (.agg #[.pointer (some ⟨5,208,none⟩)])) w:=by kernel_rfl
theorem Tryz.kindP (w:World):((ReflectliteType.abiMethod fun t=>(fun a:Nat=>Value.int IntKind.u8 (a:Int)) <$> Rtype.kind t) #[.pointer (some ⟨5,208,none⟩)]).run Tryz.prog w = .ok (.int .u8 22) w:=by kernel_rfl
theorem Tryz.kindE (w:World):((ReflectliteType.abiMethod fun t=>(fun a:Nat=>Value.int IntKind.u8 (a:Int)) <$> Rtype.kind t) #[.pointer (some ⟨5,205,none⟩)]).run Tryz.prog w = .ok (.int .u8 25) w:=by kernel_rfl
theorem Tryz.partsP (a:Addr) (w:World):(ReflectliteValue.parts (.agg #[.pointer (some ⟨5,208,none⟩),.pointer (some a),.int .u64 150])).run Tryz.prog w = .ok (some (208,a,150)) w:=by kernel_rfl
theorem Tryz.isNilP (a p:Addr) (W:World) (ha:W.cell? a = some (.pointer (some p))) :
  (ReflectliteValue.method (ReflectliteValue.valueError "reflectlite.Value.IsNil" 0) ReflectliteValue.isNil #[.agg #[.pointer (some ⟨5, 208, none⟩), .pointer (some a), .int .u64 150]]).run Tryz.prog W = .ok (.bool false) W := by
 show (ReflectliteValue.parts (.agg #[.pointer (some ⟨5,208,none⟩),.pointer (some a),.int .u64 150]) >>= _:Sem Value).run Tryz.prog W = _
 simp only [Sem.run_bind,Tryz.partsP,Result.andThen]
 simp [ReflectliteValue.isNil,loadVar,isAgg,underlying,Tryz.underlying208,ha,Result.andThen]
theorem Tryz.methodKind (h : Value) (w : World) : (Go.method 453 290 (.agg #[h]) "Kind").run Tryz.prog w = .ok (288, h) w := by kernel_rfl
theorem Tryz.methodElem (h : Value) (w : World) : (Go.method 453 290 (.agg #[h]) "Elem").run Tryz.prog w = .ok (309, .agg #[h]) w := by kernel_rfl
theorem Tryz.methodImplements (h : Value) (w : World) : (Go.method 453 290 (.agg #[h]) "Implements").run Tryz.prog w = .ok (310, .agg #[h]) w := by kernel_rfl
theorem Tryz.methodAssignableTo (h : Value) (w : World) : (Go.method 453 290 (.agg #[h]) "AssignableTo").run Tryz.prog w = .ok (307, .agg #[h]) w := by kernel_rfl
theorem Tryz.elemP (w:World):(ReflectliteType.method ReflectliteType.elem #[.agg #[.pointer (some ⟨5,208,none⟩)]]).run Tryz.prog w = .ok (.iface 290 (.agg #[.pointer (some ⟨5,205,none⟩)])) w:=by kernel_rfl
theorem Tryz.implementsE (w : World) : (ReflectliteType.relation "Implements" ReflectliteType.implements_ #[.agg #[.pointer (some ⟨5, 205, none⟩)], .iface 290 (.agg #[.pointer (some ⟨5, 142, none⟩)])]).run Tryz.prog w = .ok (.bool true) w := by kernel_rfl
theorem Tryz.typeOfE (v:Value) (w:World):(ReflectliteType.typeOf #[.iface 205 v]).run Tryz.prog w = .ok (.iface 290 (.agg #[.pointer (some ⟨5,205,none⟩)])) w:=by kernel_rfl
theorem Tryz.assignableE (w : World) : (ReflectliteType.relation "AssignableTo" ReflectliteType.assignableTo #[.agg #[.pointer (some ⟨5, 205, none⟩)], .iface 290 (.agg #[.pointer (some ⟨5, 205, none⟩)])]).run Tryz.prog w = .ok (.bool true) w := by kernel_rfl
theorem Tryz.valueOfE (x y:Value) (w:World):(ReflectliteValue.unpack (.iface 205 (.agg #[x,y]))).run Tryz.prog w
  = .ok (.agg #[.pointer (some ⟨5,205,none⟩),.pointer (some ⟨w.heap.size,0,none⟩),.int .u64 153]) (w.alloc (.cells #[x,y] 205)):=by kernel_rfl
theorem Tryz.elemOfP (w:World):(Rtype.elem? 208).run Tryz.prog w = .ok (some 205) w:=by kernel_rfl
theorem Tryz.mkE (p:Addr) (w:World):(ReflectliteValue.mk 205 p ReflectliteValue.flagAddr).run Tryz.prog w = .ok (.agg #[.pointer (some ⟨5,205,none⟩),.pointer (some p),.int .u64 409]) w:=by kernel_rfl
theorem Tryz.elemV (a p:Addr) (W:World) (ha:W.cell? a = some (.pointer (some p))) :
  (ReflectliteValue.method (ReflectliteValue.valueError "reflectlite.Value.Elem" 0) ReflectliteValue.elem #[.agg #[.pointer (some ⟨5, 208, none⟩), .pointer (some a), .int .u64 150]]).run Tryz.prog W
   = .ok (.agg #[.pointer (some ⟨5,205,none⟩),.pointer (some p),.int .u64 409]) W:=by
 show (ReflectliteValue.parts (.agg #[.pointer (some ⟨5,208,none⟩),.pointer (some a),.int .u64 150]) >>= _:Sem Value).run Tryz.prog W = _;simp only [Sem.run_bind,Tryz.partsP,Result.andThen];simp [ReflectliteValue.elem,loadVar,isAgg,underlying,Tryz.underlying208,ha,Result.andThen,Tryz.elemOfP,Tryz.mkE]
theorem Tryz.partsEa (a:Addr) (w:World):(ReflectliteValue.parts (.agg #[.pointer (some ⟨5,205,none⟩),.pointer (some a),.int .u64 409])).run Tryz.prog w = .ok (some (205,a,409)) w:=by kernel_rfl
theorem Tryz.partsE (a:Addr) (w:World):(ReflectliteValue.parts (.agg #[.pointer (some ⟨5,205,none⟩),.pointer (some a),.int .u64 153])).run Tryz.prog w = .ok (some (205,a,153)) w:=by kernel_rfl
theorem Tryz.directE (w:World):(Rtype.directlyAssignable 205 205).run Tryz.prog w = .ok true w:=by kernel_rfl
theorem Tryz.setE (tb bb:Nat) (x y o0 o1:Int) (W:World) (hb0:W.cell? ⟨bb,0,none⟩ = some (.int .i64 x)) (hb1:W.cell? ⟨bb,1,none⟩ = some (.int .i64 y)) (ht0:W.cell? ⟨tb,0,none⟩ = some (.int .i64 o0)) (ht1:W.cell? ⟨tb,1,none⟩ = some (.int .i64 o1)) (hf0:W.frozen? ⟨tb,0,none⟩ = false) (hf1:W.frozen? ⟨tb,1,none⟩ = false) :
  (ReflectliteValue.set #[.agg #[.pointer (some ⟨5,205,none⟩),.pointer (some ⟨tb,0,none⟩),.int .u64 409],.agg #[.pointer (some ⟨5,205,none⟩),.pointer (some ⟨bb,0,none⟩),.int .u64 153]]).run Tryz.prog W
   = .ok (.tuple #[]) ((W.setCell ⟨tb,0,none⟩ (.int .i64 x)).setCell ⟨tb,1,none⟩ (.int .i64 y)):=by
 show (ReflectliteValue.parts (.agg #[.pointer (some ⟨5,205,none⟩),.pointer (some ⟨tb,0,none⟩),.int .u64 409]) >>= fun _=>ReflectliteValue.parts (.agg #[.pointer (some ⟨5,205,none⟩),.pointer (some ⟨bb,0,none⟩),.int .u64 153]) >>= _:Sem Value).run Tryz.prog W = _;simp only [Sem.run_bind,Tryz.partsEa,Tryz.partsE,Result.andThen];simp [ReflectliteValue.flagAddr,loadVar,isAgg,underlying,Tryz.underlying205,Result.andThen,Tryz.directE,storeVar,Value.cells,storeCells,Addr.add]
 have hl:(loadCells ⟨bb,0,none⟩ 2).run Tryz.prog W = .ok #[.int .i64 x,.int .i64 y] W:=by
  have:=run_loadCells_list (P:=Tryz.prog) W ⟨bb,0,none⟩ [.int .i64 x,.int .i64 y] (fun j v hj=>by
   match j,hj with
   | 0,hj=>simp at hj; subst hj; simpa [Addr.add] using hb0
   | 1,hj=>simp at hj; subst hj; simpa [Addr.add] using hb1)
  simpa using this
 have hs0:(store ⟨tb,0,none⟩ (.int .i64 x)).run Tryz.prog W = .ok () (W.setCell ⟨tb,0,none⟩ (.int .i64 x)):=by
  rw [run_store Tryz.prog W _ _ _ (by rfl)];simp [ht0,hf0]
 have ht1':(W.setCell ⟨tb,0,none⟩ (.int .i64 x)).cell? ⟨tb,1,none⟩ = some (.int .i64 o1):=by
  have:=ht1;go_simp
 have hf1':(W.setCell ⟨tb,0,none⟩ (.int .i64 x)).frozen? ⟨tb,1,none⟩ = false:=by
  rw [World.frozen?_setCell]; exact hf1
 have hs1:(store ⟨tb,1,none⟩ (.int .i64 y)).run Tryz.prog (W.setCell ⟨tb,0,none⟩ (.int .i64 x)) = .ok () ((W.setCell ⟨tb,0,none⟩ (.int .i64 x)).setCell ⟨tb,1,none⟩ (.int .i64 y)):=by
  rw [run_store Tryz.prog _ _ _ _ (by rfl)];simp [ht1',hf1']
 rw [hl];simp [storeCells,Addr.add,Sem.run_bind,hs0,hs1,Result.andThen]
set_option maxRecDepth 100000 in
set_option maxHeartbeats 1000000 in
theorem zrc (tb:Nat) (x y o0 o1:Int) (w:World) (hg:w.cell? ⟨1,0,none⟩ = some (.iface 290 (.agg #[.pointer (some ⟨5,142,none⟩)]))) (ht0:w.cell? ⟨tb,0,none⟩ = some (.int .i64 o0)) (ht1:w.cell? ⟨tb,1,none⟩ = some (.int .i64 o1)) (hf0:w.frozen? ⟨tb,0,none⟩ = false) (hf1:w.frozen? ⟨tb,1,none⟩ = false) :
  Calls Tryz.prog 176 #[.iface 205 (.agg #[.int .i64 x,.int .i64 y]),.iface 208 (.pointer (some ⟨tb,0,none⟩))] w fun ev w'=>ev = .returned (.bool true) ∧ w' = (((((w.alloc (.cells #[.pointer (some ⟨tb,0,none⟩)] 208)).alloc (.cells #[.pointer (some ⟨5,208,none⟩),.pointer (some ⟨w.heap.size,0,none⟩),.int .u64 150] 246)).alloc (.cells #[.pointer (some ⟨5,208,none⟩),.pointer (some ⟨w.heap.size,0,none⟩),.int .u64 150] 246)).alloc (.cells #[.int .i64 x,.int .i64 y] 205)).setCell ⟨tb,0,none⟩ (.int .i64 x)).setCell ⟨tb,1,none⟩ (.int .i64 y):=by
 have h6:=@run_callFunc_extern Tryz.prog 215 _ (fun args=>ReflectliteValue.unpack (args.getD 0 (.tuple #[]))) Tryz.func215 (by kernel_rfl) (by kernel_rfl) (by kernel_rfl) (by kernel_rfl)
 have h7 := @run_callFunc_extern Tryz.prog 216 _ (ReflectliteValue.methodAny (ReflectliteValue.valueError "reflectlite.Value.Type" 0) (fun t _ _ _ => ReflectliteType.toType t)) Tryz.func216 (by kernel_rfl) (by kernel_rfl) (by kernel_rfl) (by kernel_rfl)
 have h8 := @run_callFunc_extern Tryz.prog 217 _ (ReflectliteValue.method (ReflectliteValue.valueError "reflectlite.Value.IsNil" 0) ReflectliteValue.isNil) Tryz.func217 (by kernel_rfl) (by kernel_rfl) (by kernel_rfl) (by kernel_rfl)
 have h27:=@run_callFunc_extern Tryz.prog 288 _ (ReflectliteType.abiMethod fun t=>do pure (.int .u8 (← Rtype.kind t))) Tryz.func288 (by kernel_rfl) (by kernel_rfl) (by kernel_rfl) (by kernel_rfl);have h37:=@run_callFunc_extern Tryz.prog 309 _ (ReflectliteType.method ReflectliteType.elem) Tryz.func309 (by kernel_rfl) (by kernel_rfl) (by kernel_rfl) (by kernel_rfl)
 have h38 := @run_callFunc_extern Tryz.prog 310 _ (ReflectliteType.relation "Implements" ReflectliteType.implements_) Tryz.func310 (by kernel_rfl) (by kernel_rfl) (by kernel_rfl) (by kernel_rfl)
 have h10:=@run_callFunc_extern Tryz.prog 251 _ ReflectliteType.typeOf Tryz.func251 (by kernel_rfl) (by kernel_rfl) (by kernel_rfl) (by kernel_rfl)
 have h35 := @run_callFunc_extern Tryz.prog 307 _ (ReflectliteType.relation "AssignableTo" ReflectliteType.assignableTo) Tryz.func307 (by kernel_rfl) (by kernel_rfl) (by kernel_rfl) (by kernel_rfl)
 have h11 := @run_callFunc_extern Tryz.prog 252 _ (ReflectliteValue.method (ReflectliteValue.valueError "reflectlite.Value.Elem" 0) ReflectliteValue.elem) Tryz.func252 (by kernel_rfl) (by kernel_rfl) (by kernel_rfl) (by kernel_rfl)
 have h12:=@run_callFunc_extern Tryz.prog 253 _ ReflectliteValue.set Tryz.func253 (by kernel_rfl) (by kernel_rfl) (by kernel_rfl) (by kernel_rfl);have tO:=Tryz.typeOfE;have a25:=Tryz.assignableE;have v25:=Tryz.valueOfE;have f6:=Tryz.valueOfP;have f7:=Tryz.typeP;have k27:=Tryz.kindP;have k25:=Tryz.kindE;have e27:=Tryz.elemP;have i25:=Tryz.implementsE;have mA:=Tryz.methodAssignableTo;have mK:=Tryz.methodKind;have mE:=Tryz.methodElem;have mI:=Tryz.methodImplements;have hlt : 1 < w.heap.size:=World.block_lt_of_cell? _ _ hg;have htl:tb < w.heap.size:=World.block_lt_of_cell? _ _ ht0;have n8:=Tryz.isNilP ⟨w.heap.size,0,none⟩ ⟨tb,0,none⟩ ((w.alloc (.cells #[.pointer (some ⟨tb,0,none⟩)] 208)).alloc (.cells #[.pointer (some ⟨5,208,none⟩),.pointer (some ⟨w.heap.size,0,none⟩),.int .u64 150] 246)) (by simp)
 have hg2:((w.alloc (.cells #[.pointer (some ⟨tb,0,none⟩)] 208)).alloc (.cells #[.pointer (some ⟨5,208,none⟩),.pointer (some ⟨w.heap.size,0,none⟩),.int .u64 150] 246)).cell? ⟨1,0,none⟩ = some (.iface 290 (.agg #[.pointer (some ⟨5,142,none⟩)])):=by
  rw [World.cell?_alloc_lt _ _ ⟨1,0,none⟩ (by simp <;> omega),World.cell?_alloc_lt _ _ ⟨1,0,none⟩ hlt]; exact hg
 have el:=Tryz.elemV ⟨w.heap.size,0,none⟩ ⟨tb,0,none⟩ (((w.alloc (.cells #[.pointer (some ⟨tb,0,none⟩)] 208)).alloc (.cells #[.pointer (some ⟨5,208,none⟩),.pointer (some ⟨w.heap.size,0,none⟩),.int .u64 150] 246)).alloc (.cells #[.pointer (some ⟨5,208,none⟩),.pointer (some ⟨w.heap.size,0,none⟩),.int .u64 150] 246)) (by rw [World.cell?_alloc_lt _ _ ⟨w.heap.size,0,none⟩ (by simp; omega)]; simp)
 have k4:∀ o:Nat,((((w.alloc (.cells #[.pointer (some ⟨tb,0,none⟩)] 208)).alloc (.cells #[.pointer (some ⟨5,208,none⟩),.pointer (some ⟨w.heap.size,0,none⟩),.int .u64 150] 246)).alloc (.cells #[.pointer (some ⟨5,208,none⟩),.pointer (some ⟨w.heap.size,0,none⟩),.int .u64 150] 246)).alloc (.cells #[.int .i64 x,.int .i64 y] 205)).cell? ⟨tb,o,none⟩ = w.cell? ⟨tb,o,none⟩:=fun o=>by
  rw [World.cell?_alloc_lt _ _ ⟨tb,o,none⟩ (by simp; omega),World.cell?_alloc_lt _ _ ⟨tb,o,none⟩ (by simp; omega),World.cell?_alloc_lt _ _ ⟨tb,o,none⟩ (by simp; omega),World.cell?_alloc_lt _ _ ⟨tb,o,none⟩ htl]
 have j4:∀ o:Nat,((((w.alloc (.cells #[.pointer (some ⟨tb,0,none⟩)] 208)).alloc (.cells #[.pointer (some ⟨5,208,none⟩),.pointer (some ⟨w.heap.size,0,none⟩),.int .u64 150] 246)).alloc (.cells #[.pointer (some ⟨5,208,none⟩),.pointer (some ⟨w.heap.size,0,none⟩),.int .u64 150] 246)).alloc (.cells #[.int .i64 x,.int .i64 y] 205)).frozen? ⟨tb,o,none⟩ = w.frozen? ⟨tb,o,none⟩:=fun o=>by
  rw [World.frozen?_alloc_old _ _ ⟨tb,o,none⟩ (by simp; omega),World.frozen?_alloc_old _ _ ⟨tb,o,none⟩ (by simp; omega),World.frozen?_alloc_old _ _ ⟨tb,o,none⟩ (by simp; omega),World.frozen?_alloc_old _ _ ⟨tb,o,none⟩ (Nat.ne_of_lt htl)]
 have st:=Tryz.setE tb (w.heap.size + 1 + 1 + 1) x y o0 o1 ((((w.alloc (.cells #[.pointer (some ⟨tb,0,none⟩)] 208)).alloc (.cells #[.pointer (some ⟨5,208,none⟩),.pointer (some ⟨w.heap.size,0,none⟩),.int .u64 150] 246)).alloc (.cells #[.pointer (some ⟨5,208,none⟩),.pointer (some ⟨w.heap.size,0,none⟩),.int .u64 150] 246)).alloc (.cells #[.int .i64 x,.int .i64 y] 205))
  (by rw [World.cell?_alloc_at _ _ _ _ (by simp)]; rfl) (by rw [World.cell?_alloc_at _ _ _ _ (by simp)]; rfl) (by rw [k4]; exact ht0) (by rw [k4]; exact ht1) (by rw [j4]; exact hf0) (by rw [j4]; exact hf1)
 clear k4 j4;go_enter Tryz.func176,Tryz.ntmps176;go_wp2;refine wp_loop_rounds 1 ?_;rw [rounds_succ];go_wp2;go_ret;exact ⟨rfl,rfl⟩
end Go.Proofs.YtdhinkgjiapigabGreatDoor

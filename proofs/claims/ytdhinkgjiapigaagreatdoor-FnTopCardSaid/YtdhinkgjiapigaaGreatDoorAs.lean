import Derived.Test.YtdhinkgjiapigaaGreatDoorProg
import Derived.Test.YtdhinkgjiapigaaGreatDoorBase
import Derived.Stop.Asserts
import Derived.RowKitTokens
namespace Go.Proofs.YtdhinkgjiapigaaGreatDoor
open Go.Extern Go.Extern.Stop Go.RowKit Go.Stop
theorem JL (t:Value) (w:World) :
  Calls Tryz.prog 74 #[.nilIface,t] w fun e w'=>e=.returned (.bool false)∧w'=w:=by
 go_enter Tryz.func74,Tryz.ntmps74;go_wp2;go_ret;exact⟨rfl,rfl⟩
theorem Tryz.qT (t:Addr) (w:World):(ReflectliteValue.unpack (.iface 115 (.pointer (some t)))).run Tryz.prog w
  = .ok (.agg #[.pointer (some ⟨5,115,none⟩),.pointer (some ⟨w.heap.size,0,none⟩),.int .u64 150]) (w.alloc (.cells #[.pointer (some t)] 115)):=by kernel_rfl
theorem Tryz.xC (a : Addr) (w : World) : (ReflectliteValue.methodAny (ReflectliteValue.valueError "reflectlite.Value.Type" 0) (fun t _ _ _ => ReflectliteType.toType t) #[.agg #[.pointer (some ⟨5, 115, none⟩), .pointer (some a), .int .u64 150]]).run Tryz.prog w
  = .ok (.iface 210 (.agg #[.pointer (some ⟨5,115,none⟩)])) w:=by kernel_rfl
theorem Tryz.wW (w:World):((ReflectliteType.abiMethod fun t=>(fun a:Nat=>Value.int IntKind.u8 (a:Int)) <$> Rtype.kind t) #[.pointer (some ⟨5,115,none⟩)]).run Tryz.prog w=.ok (.int .u8 22) w:=by kernel_rfl
theorem Tryz.wT (w:World):((ReflectliteType.abiMethod fun t=>(fun a:Nat=>Value.int IntKind.u8 (a:Int)) <$> Rtype.kind t) #[.pointer (some ⟨5,112,none⟩)]).run Tryz.prog w=.ok (.int .u8 25) w:=by kernel_rfl
theorem Tryz.qK (a:Addr) (w:World):(ReflectliteValue.parts (.agg #[.pointer (some ⟨5,115,none⟩),.pointer (some a),.int .u64 150])).run Tryz.prog w=.ok (some (115,a,150)) w:=by kernel_rfl
theorem Tryz.uL (a p:Addr) (W:World) (b:W.cell? a=some (.pointer (some p))) :
  (ReflectliteValue.method (ReflectliteValue.valueError "reflectlite.Value.IsNil" 0) ReflectliteValue.isNil #[.agg #[.pointer (some ⟨5, 115, none⟩), .pointer (some a), .int .u64 150]]).run Tryz.prog W=.ok (.bool false) W := by
 show (ReflectliteValue.parts (.agg #[.pointer (some ⟨5,115,none⟩),.pointer (some a),.int .u64 150]) >>= _:Sem Value).run Tryz.prog W=_
 simp only[Sem.run_bind,Tryz.qK,Result.andThen]
 simp[ReflectliteValue.isNil,loadVar,isAgg,underlying,Tryz.underlying115,b,Result.andThen]
theorem Tryz.methodKind (h : Value) (w : World) : (Go.method 401 210 (.agg #[h]) "Kind").run Tryz.prog w=.ok (232, h) w := by kernel_rfl
theorem Tryz.methodElem (h : Value) (w : World) : (Go.method 401 210 (.agg #[h]) "Elem").run Tryz.prog w=.ok (251, .agg #[h]) w := by kernel_rfl
theorem Tryz.methodImplements (h : Value) (w : World) : (Go.method 401 210 (.agg #[h]) "Implements").run Tryz.prog w=.ok (252, .agg #[h]) w := by kernel_rfl
theorem Tryz.methodAssignableTo (h : Value) (w : World) : (Go.method 401 210 (.agg #[h]) "AssignableTo").run Tryz.prog w=.ok (249, .agg #[h]) w := by kernel_rfl
theorem Tryz.wH (w:World):(ReflectliteType.method ReflectliteType.elem #[.agg #[.pointer (some ⟨5,115,none⟩)]]).run Tryz.prog w=.ok (.iface 210 (.agg #[.pointer (some ⟨5,112,none⟩)])) w:=by kernel_rfl
theorem Tryz.lS (w : World) : (ReflectliteType.relation "Implements" ReflectliteType.implements_ #[.agg #[.pointer (some ⟨5, 112, none⟩)], .iface 210 (.agg #[.pointer (some ⟨5, 83, none⟩)])]).run Tryz.prog w=.ok (.bool true) w := by kernel_rfl
theorem Tryz.tE (v:Value) (w:World):(ReflectliteType.typeOf #[.iface 112 v]).run Tryz.prog w=.ok (.iface 210 (.agg #[.pointer (some ⟨5,112,none⟩)])) w:=by kernel_rfl
theorem Tryz.lN (w : World) : (ReflectliteType.relation "AssignableTo" ReflectliteType.assignableTo #[.agg #[.pointer (some ⟨5, 112, none⟩)], .iface 210 (.agg #[.pointer (some ⟨5, 112, none⟩)])]).run Tryz.prog w=.ok (.bool true) w := by kernel_rfl
theorem Tryz.qS (x y:Value) (w:World):(ReflectliteValue.unpack (.iface 112 (.agg #[x,y]))).run Tryz.prog w
  = .ok (.agg #[.pointer (some ⟨5,112,none⟩),.pointer (some ⟨w.heap.size,0,none⟩),.int .u64 153]) (w.alloc (.cells #[x,y] 112)):=by kernel_rfl
theorem Tryz.rU (w:World):(Rtype.elem? 115).run Tryz.prog w=.ok (some 112) w:=by kernel_rfl
theorem Tryz.Ey (p:Addr) (w:World):(ReflectliteValue.mk 112 p ReflectliteValue.flagAddr).run Tryz.prog w=.ok (.agg #[.pointer (some ⟨5,112,none⟩),.pointer (some p),.int .u64 409]) w:=by kernel_rfl
theorem Tryz.elemV (a p:Addr) (W:World) (b:W.cell? a=some (.pointer (some p))) :
  (ReflectliteValue.method (ReflectliteValue.valueError "reflectlite.Value.Elem" 0) ReflectliteValue.elem #[.agg #[.pointer (some ⟨5, 115, none⟩), .pointer (some a), .int .u64 150]]).run Tryz.prog W
   = .ok (.agg #[.pointer (some ⟨5,112,none⟩),.pointer (some p),.int .u64 409]) W:=by
 show (ReflectliteValue.parts (.agg #[.pointer (some ⟨5,115,none⟩),.pointer (some a),.int .u64 150]) >>= _:Sem Value).run Tryz.prog W=_;simp only[Sem.run_bind,Tryz.qK,Result.andThen];simp[ReflectliteValue.elem,loadVar,isAgg,underlying,Tryz.underlying115,b,Result.andThen,Tryz.rU,Tryz.Ey]
theorem Tryz.sZ (a:Addr) (w:World):(ReflectliteValue.parts (.agg #[.pointer (some ⟨5,112,none⟩),.pointer (some a),.int .u64 409])).run Tryz.prog w=.ok (some (112,a,409)) w:=by kernel_rfl
theorem Tryz.uS (a:Addr) (w:World):(ReflectliteValue.parts (.agg #[.pointer (some ⟨5,112,none⟩),.pointer (some a),.int .u64 153])).run Tryz.prog w=.ok (some (112,a,153)) w:=by kernel_rfl
theorem Tryz.rT (w:World):(Rtype.directlyAssignable 112 112).run Tryz.prog w=.ok true w:=by kernel_rfl
theorem Tryz.AU (a bb:Nat) (x y p n:Int) (W:World) (e:W.cell? ⟨bb,0,none⟩=some (.int .i64 x)) (f:W.cell? ⟨bb,1,none⟩=some (.int .i64 y)) (l:W.cell? ⟨a,0,none⟩=some (.int .i64 p)) (m:W.cell? ⟨a,1,none⟩=some (.int .i64 n)) (g:W.frozen? ⟨a,0,none⟩=false) (h:W.frozen? ⟨a,1,none⟩=false) :
  (ReflectliteValue.set #[.agg #[.pointer (some ⟨5,112,none⟩),.pointer (some ⟨a,0,none⟩),.int .u64 409],.agg #[.pointer (some ⟨5,112,none⟩),.pointer (some ⟨bb,0,none⟩),.int .u64 153]]).run Tryz.prog W
   = .ok (.tuple #[]) ((W.setCell ⟨a,0,none⟩ (.int .i64 x)).setCell ⟨a,1,none⟩ (.int .i64 y)):=by
 show (ReflectliteValue.parts (.agg #[.pointer (some ⟨5,112,none⟩),.pointer (some ⟨a,0,none⟩),.int .u64 409]) >>= fun _=>ReflectliteValue.parts (.agg #[.pointer (some ⟨5,112,none⟩),.pointer (some ⟨bb,0,none⟩),.int .u64 153]) >>= _:Sem Value).run Tryz.prog W=_;simp only[Sem.run_bind,Tryz.sZ,Tryz.uS,Result.andThen];simp[ReflectliteValue.flagAddr,loadVar,isAgg,underlying,Tryz.underlying112,Result.andThen,Tryz.rT,storeVar,Value.cells,storeCells,Addr.add]
 have o:(loadCells ⟨bb,0,none⟩ 2).run Tryz.prog W=.ok #[.int .i64 x,.int .i64 y] W:=by
  have:=run_loadCells_list (P:=Tryz.prog) W ⟨bb,0,none⟩ [.int .i64 x,.int .i64 y] (fun j v b=>by
   match j,b with
   | 0,b=>simp at b; subst b; simpa [Addr.add] using e
   | 1,b=>simp at b; subst b; simpa [Addr.add] using f)
  simpa using this
 have i:(store ⟨a,0,none⟩ (.int .i64 x)).run Tryz.prog W=.ok () (W.setCell ⟨a,0,none⟩ (.int .i64 x)):=by
  rw[run_store Tryz.prog W _ _ _ (by rfl)];simp[l,g]
 have d:(W.setCell ⟨a,0,none⟩ (.int .i64 x)).cell? ⟨a,1,none⟩=some (.int .i64 n):=by
  have:=m;go_simp
 have c:(W.setCell ⟨a,0,none⟩ (.int .i64 x)).frozen? ⟨a,1,none⟩=false:=by
  rw[World.frozen?_setCell]; exact h
 have k:(store ⟨a,1,none⟩ (.int .i64 y)).run Tryz.prog (W.setCell ⟨a,0,none⟩ (.int .i64 x))=.ok () ((W.setCell ⟨a,0,none⟩ (.int .i64 x)).setCell ⟨a,1,none⟩ (.int .i64 y)):=by
  rw[run_store Tryz.prog _ _ _ _ (by rfl)];simp[d,c]
 rw[o];simp[storeCells,Addr.add,Sem.run_bind,i,k,Result.andThen]
set_option maxRecDepth 100000 in
set_option maxHeartbeats 1000000 in
theorem zrc (a:Nat) (x y k l:Int) (w:World) (j:w.cell? ⟨1,0,none⟩=some (.iface 210 (.agg #[.pointer (some ⟨5,83,none⟩)]))) (b:w.cell? ⟨a,0,none⟩=some (.int .i64 k)) (g:w.cell? ⟨a,1,none⟩=some (.int .i64 l)) (d:w.frozen? ⟨a,0,none⟩=false) (e:w.frozen? ⟨a,1,none⟩=false) :
  Calls Tryz.prog 74 #[.iface 112 (.agg #[.int .i64 x,.int .i64 y]),.iface 115 (.pointer (some ⟨a,0,none⟩))] w fun ev w'=>ev=.returned (.bool true)∧w'=(((((w.alloc (.cells #[.pointer (some ⟨a,0,none⟩)] 115)).alloc (.cells #[.pointer (some ⟨5,115,none⟩),.pointer (some ⟨w.heap.size,0,none⟩),.int .u64 150] 161)).alloc (.cells #[.pointer (some ⟨5,115,none⟩),.pointer (some ⟨w.heap.size,0,none⟩),.int .u64 150] 161)).alloc (.cells #[.int .i64 x,.int .i64 y] 112)).setCell ⟨a,0,none⟩ (.int .i64 x)).setCell ⟨a,1,none⟩ (.int .i64 y):=by
 have I:=@run_callFunc_extern Tryz.prog 121 _ (fun args=>ReflectliteValue.unpack (args.getD 0 (.tuple #[]))) Tryz.func121 (by kernel_rfl) (by kernel_rfl) (by kernel_rfl) (by kernel_rfl)
 have J := @run_callFunc_extern Tryz.prog 122 _ (ReflectliteValue.methodAny (ReflectliteValue.valueError "reflectlite.Value.Type" 0) (fun t _ _ _ => ReflectliteType.toType t)) Tryz.func122 (by kernel_rfl) (by kernel_rfl) (by kernel_rfl) (by kernel_rfl)
 have K := @run_callFunc_extern Tryz.prog 123 _ (ReflectliteValue.method (ReflectliteValue.valueError "reflectlite.Value.IsNil" 0) ReflectliteValue.isNil) Tryz.func123 (by kernel_rfl) (by kernel_rfl) (by kernel_rfl) (by kernel_rfl)
 have s:=@run_callFunc_extern Tryz.prog 232 _ (ReflectliteType.abiMethod fun t=>do pure (.int .u8 (← Rtype.kind t))) Tryz.func232 (by kernel_rfl) (by kernel_rfl) (by kernel_rfl) (by kernel_rfl);have v:=@run_callFunc_extern Tryz.prog 251 _ (ReflectliteType.method ReflectliteType.elem) Tryz.func251 (by kernel_rfl) (by kernel_rfl) (by kernel_rfl) (by kernel_rfl)
 have z := @run_callFunc_extern Tryz.prog 252 _ (ReflectliteType.relation "Implements" ReflectliteType.implements_) Tryz.func252 (by kernel_rfl) (by kernel_rfl) (by kernel_rfl) (by kernel_rfl)
 have p:=@run_callFunc_extern Tryz.prog 169 _ ReflectliteType.typeOf Tryz.func169 (by kernel_rfl) (by kernel_rfl) (by kernel_rfl) (by kernel_rfl)
 have u := @run_callFunc_extern Tryz.prog 249 _ (ReflectliteType.relation "AssignableTo" ReflectliteType.assignableTo) Tryz.func249 (by kernel_rfl) (by kernel_rfl) (by kernel_rfl) (by kernel_rfl)
 have q := @run_callFunc_extern Tryz.prog 170 _ (ReflectliteValue.method (ReflectliteValue.valueError "reflectlite.Value.Elem" 0) ReflectliteValue.elem) Tryz.func170 (by kernel_rfl) (by kernel_rfl) (by kernel_rfl) (by kernel_rfl)
 have r:=@run_callFunc_extern Tryz.prog 171 _ ReflectliteValue.set Tryz.func171 (by kernel_rfl) (by kernel_rfl) (by kernel_rfl) (by kernel_rfl);have R:=Tryz.tE;have m:=Tryz.lN;have E:=Tryz.qS;have G:=Tryz.qT;have H:=Tryz.xC;have D:=Tryz.wW;have C:=Tryz.wT;have n:=Tryz.wH;have B:=Tryz.lS;have L:=Tryz.methodAssignableTo;have O:=Tryz.methodKind;have M:=Tryz.methodElem;have N:=Tryz.methodImplements;have f : 1<w.heap.size:=World.block_lt_of_cell? _ _ j;have c:a<w.heap.size:=World.block_lt_of_cell? _ _ b;have P:=Tryz.uL ⟨w.heap.size,0,none⟩ ⟨a,0,none⟩ ((w.alloc (.cells #[.pointer (some ⟨a,0,none⟩)] 115)).alloc (.cells #[.pointer (some ⟨5,115,none⟩),.pointer (some ⟨w.heap.size,0,none⟩),.int .u64 150] 161)) (by simp)
 have A:((w.alloc (.cells #[.pointer (some ⟨a,0,none⟩)] 115)).alloc (.cells #[.pointer (some ⟨5,115,none⟩),.pointer (some ⟨w.heap.size,0,none⟩),.int .u64 150] 161)).cell? ⟨1,0,none⟩=some (.iface 210 (.agg #[.pointer (some ⟨5,83,none⟩)])):=by
  rw[World.cell?_alloc_lt _ _ ⟨1,0,none⟩ (by simp <;> omega),World.cell?_alloc_lt _ _ ⟨1,0,none⟩ f]; exact j
 have F:=Tryz.elemV ⟨w.heap.size,0,none⟩ ⟨a,0,none⟩ (((w.alloc (.cells #[.pointer (some ⟨a,0,none⟩)] 115)).alloc (.cells #[.pointer (some ⟨5,115,none⟩),.pointer (some ⟨w.heap.size,0,none⟩),.int .u64 150] 161)).alloc (.cells #[.pointer (some ⟨5,115,none⟩),.pointer (some ⟨w.heap.size,0,none⟩),.int .u64 150] 161)) (by rw[World.cell?_alloc_lt _ _ ⟨w.heap.size,0,none⟩ (by simp; omega)]; simp)
 have i:∀o:Nat,((((w.alloc (.cells #[.pointer (some ⟨a,0,none⟩)] 115)).alloc (.cells #[.pointer (some ⟨5,115,none⟩),.pointer (some ⟨w.heap.size,0,none⟩),.int .u64 150] 161)).alloc (.cells #[.pointer (some ⟨5,115,none⟩),.pointer (some ⟨w.heap.size,0,none⟩),.int .u64 150] 161)).alloc (.cells #[.int .i64 x,.int .i64 y] 112)).cell? ⟨a,o,none⟩=w.cell? ⟨a,o,none⟩:=fun o=>by
  rw[World.cell?_alloc_lt _ _ ⟨a,o,none⟩ (by simp; omega),World.cell?_alloc_lt _ _ ⟨a,o,none⟩ (by simp; omega),World.cell?_alloc_lt _ _ ⟨a,o,none⟩ (by simp; omega),World.cell?_alloc_lt _ _ ⟨a,o,none⟩ c]
 have h:∀o:Nat,((((w.alloc (.cells #[.pointer (some ⟨a,0,none⟩)] 115)).alloc (.cells #[.pointer (some ⟨5,115,none⟩),.pointer (some ⟨w.heap.size,0,none⟩),.int .u64 150] 161)).alloc (.cells #[.pointer (some ⟨5,115,none⟩),.pointer (some ⟨w.heap.size,0,none⟩),.int .u64 150] 161)).alloc (.cells #[.int .i64 x,.int .i64 y] 112)).frozen? ⟨a,o,none⟩=w.frozen? ⟨a,o,none⟩:=fun o=>by
  rw[World.frozen?_alloc_old _ _ ⟨a,o,none⟩ (by simp; omega),World.frozen?_alloc_old _ _ ⟨a,o,none⟩ (by simp; omega),World.frozen?_alloc_old _ _ ⟨a,o,none⟩ (by simp; omega),World.frozen?_alloc_old _ _ ⟨a,o,none⟩ (Nat.ne_of_lt c)]
 have Q:=Tryz.AU a (w.heap.size+1+1+1) x y k l ((((w.alloc (.cells #[.pointer (some ⟨a,0,none⟩)] 115)).alloc (.cells #[.pointer (some ⟨5,115,none⟩),.pointer (some ⟨w.heap.size,0,none⟩),.int .u64 150] 161)).alloc (.cells #[.pointer (some ⟨5,115,none⟩),.pointer (some ⟨w.heap.size,0,none⟩),.int .u64 150] 161)).alloc (.cells #[.int .i64 x,.int .i64 y] 112))
  (by rw[World.cell?_alloc_at _ _ _ _ (by simp)]; rfl) (by rw[World.cell?_alloc_at _ _ _ _ (by simp)]; rfl) (by rw[i]; exact b) (by rw[i]; exact g) (by rw[h]; exact d) (by rw[h]; exact e)
 clear i h;go_enter Tryz.func74,Tryz.ntmps74;go_wp2;refine wp_loop_rounds 1 ?_;rw[rounds_succ];go_wp2;go_ret;exact⟨rfl,rfl⟩
end Go.Proofs.YtdhinkgjiapigaaGreatDoor

import Derived.Test.YtclpnafiiobfhaaGreatDoorProg
import Derived.WalkKit
import Derived.Stop.Asserts
import Derived.RowKitTokens
set_option linter.unusedVariables false
set_option linter.unusedSimpArgs false
namespace Go.Proofs.YtclpnafiiobfhaaGreatDoor
open Go.RowKit Go.Extern.Stop Go.Stop Go.Extern
theorem zMR (t:Value) (w:World):
 Calls Tryz.prog 39 #[.nilIface,t] w fun e w'=>e= .returned (.bool false)/\w'=w:=by
 go_enter Tryz.func39,Tryz.ntmps39;go_wp2;go_ret;exact⟨rfl,rfl⟩
theorem Tryz.methodKind (h:Value) (w:World):(Go.method 518 207 (.agg #[h]) "Kind").run Tryz.prog w= .ok (251,h) w:=by kernel_rfl
theorem Tryz.methodElem (h:Value) (w:World):(Go.method 518 207 (.agg #[h]) "Elem").run Tryz.prog w= .ok (266,.agg #[h]) w:=by kernel_rfl
theorem Tryz.methodImplements (h:Value) (w:World):(Go.method 518 207 (.agg #[h]) "Implements").run Tryz.prog w= .ok (267,.agg #[h]) w:=by kernel_rfl
theorem Tryz.methodAssignableTo (h:Value) (w:World):(Go.method 518 207 (.agg #[h]) "AssignableTo").run Tryz.prog w= .ok (264,.agg #[h]) w:=by kernel_rfl
theorem Tryz.valueOfPR (t:Addr) (w:World):(ReflectliteValue.unpack (.iface 93 (.pointer (some t)))).run Tryz.prog w
 = .ok (.agg #[.pointer (some ⟨7,93,none⟩),.pointer (some ⟨w.heap.size,0,none⟩),.int .u64 150]) (w.alloc (.cells #[.pointer (some t)] 93)):=by kernel_rfl
theorem Tryz.typePR (a:Addr) (w:World):(ReflectliteValue.methodAny (ReflectliteValue.valueError "reflectlite.Value.Type" 0) (fun t _ _ _=>ReflectliteType.toType t) #[.agg #[.pointer (some ⟨7,93,none⟩),.pointer (some a),.int .u64 150]]).run Tryz.prog w
 = .ok (.iface 207 (.agg #[.pointer (some ⟨7,93,none⟩)])) w:=by kernel_rfl
theorem Tryz.kindPR (w:World):((ReflectliteType.abiMethod fun t=>Functor.map (fun a:Nat=>Value.int IntKind.u8 (a:Int)) (Rtype.kind t)) #[.pointer (some ⟨7,93,none⟩)]).run Tryz.prog w= .ok (.int .u8 22) w:=by kernel_rfl
theorem Tryz.kindTR (w:World):((ReflectliteType.abiMethod fun t=>Functor.map (fun a:Nat=>Value.int IntKind.u8 (a:Int)) (Rtype.kind t)) #[.pointer (some ⟨7,91,none⟩)]).run Tryz.prog w= .ok (.int .u8 22) w:=by kernel_rfl
theorem Tryz.partsPR (a:Addr) (w:World):(ReflectliteValue.parts (.agg #[.pointer (some ⟨7,93,none⟩),.pointer (some a),.int .u64 150])).run Tryz.prog w= .ok (some (93,a,150)) w:=by kernel_rfl
theorem Tryz.isNilPR (a p:Addr) (W:World) (ha:W.cell? a=some (.pointer (some p))):
 (ReflectliteValue.method (ReflectliteValue.valueError "reflectlite.Value.IsNil" 0) ReflectliteValue.isNil #[.agg #[.pointer (some ⟨7,93,none⟩),.pointer (some a),.int .u64 150]]).run Tryz.prog W= .ok (.bool false) W:=by
 change Sem.run Tryz.prog (ReflectliteValue.parts (.agg #[.pointer (some ⟨7,93,none⟩),.pointer (some a),.int .u64 150])>>=_) W=_
 simp only[Sem.run_bind,Tryz.partsPR,Result.andThen];simp[ReflectliteValue.isNil,loadVar,isAgg,underlying,Tryz.underlying93,ha,Result.andThen]
theorem Tryz.elemPR (w:World):(ReflectliteType.method ReflectliteType.elem #[.agg #[.pointer (some ⟨7,93,none⟩)]]).run Tryz.prog w= .ok (.iface 207 (.agg #[.pointer (some ⟨7,91,none⟩)])) w:=by kernel_rfl
theorem Tryz.implementsTR (w:World):(ReflectliteType.relation "Implements" ReflectliteType.implements_ #[.agg #[.pointer (some ⟨7,91,none⟩)],.iface 207 (.agg #[.pointer (some ⟨7,52,none⟩)])]).run Tryz.prog w= .ok (.bool true) w:=by kernel_rfl
theorem Tryz.typeOfTR (v:Value) (w:World):(ReflectliteType.typeOf #[.iface 91 v]).run Tryz.prog w= .ok (.iface 207 (.agg #[.pointer (some ⟨7,91,none⟩)])) w:=by kernel_rfl
theorem Tryz.assignableR (w:World):(ReflectliteType.relation "AssignableTo" ReflectliteType.assignableTo #[.agg #[.pointer (some ⟨7,91,none⟩)],.iface 207 (.agg #[.pointer (some ⟨7,91,none⟩)])]).run Tryz.prog w= .ok (.bool true) w:=by kernel_rfl
theorem Tryz.valueOfTR (x:Addr) (w:World):(ReflectliteValue.unpack (.iface 91 (.pointer (some x)))).run Tryz.prog w
 = .ok (.agg #[.pointer (some ⟨7,91,none⟩),.pointer (some ⟨w.heap.size,0,none⟩),.int .u64 150]) (w.alloc (.cells #[.pointer (some x)] 91)):=by kernel_rfl
theorem Tryz.elemOfPR (w:World):(Rtype.elem? 93).run Tryz.prog w= .ok (some 91) w:=by kernel_rfl
theorem Tryz.mkTR (p:Addr) (w:World):(ReflectliteValue.mk 91 p ReflectliteValue.flagAddr).run Tryz.prog w= .ok (.agg #[.pointer (some ⟨7,91,none⟩),.pointer (some p),.int .u64 406]) w:=by kernel_rfl
theorem Tryz.elemVR (a p:Addr) (W:World) (ha:W.cell? a=some (.pointer (some p))):
 (ReflectliteValue.method (ReflectliteValue.valueError "reflectlite.Value.Elem" 0) ReflectliteValue.elem #[.agg #[.pointer (some ⟨7,93,none⟩),.pointer (some a),.int .u64 150]]).run Tryz.prog W
   = .ok (.agg #[.pointer (some ⟨7,91,none⟩),.pointer (some p),.int .u64 406]) W:=by
 change Sem.run Tryz.prog (ReflectliteValue.parts (.agg #[.pointer (some ⟨7,93,none⟩),.pointer (some a),.int .u64 150])>>=_) W=_
 simp only[Sem.run_bind,Tryz.partsPR,Result.andThen];simp[ReflectliteValue.elem,loadVar,isAgg,underlying,Tryz.underlying93,ha,Result.andThen,Tryz.elemOfPR,Tryz.mkTR]
theorem Tryz.partsTaR (a:Addr) (w:World):(ReflectliteValue.parts (.agg #[.pointer (some ⟨7,91,none⟩),.pointer (some a),.int .u64 406])).run Tryz.prog w= .ok (some (91,a,406)) w:=by kernel_rfl
theorem Tryz.partsTR (a:Addr) (w:World):(ReflectliteValue.parts (.agg #[.pointer (some ⟨7,91,none⟩),.pointer (some a),.int .u64 150])).run Tryz.prog w= .ok (some (91,a,150)) w:=by kernel_rfl
theorem Tryz.directR (w:World):(Rtype.directlyAssignable 91 91).run Tryz.prog w= .ok true w:=by kernel_rfl
theorem Tryz.setR (ta b:Addr) (x:Addr) (old:Value) (W:World) (hb:W.cell? b=some (.pointer (some x))) (ht:W.cell? ta=some old) (hf:W.frozen? ta=false):
 (ReflectliteValue.set #[.agg #[.pointer (some ⟨7,91,none⟩),.pointer (some ta),.int .u64 406],.agg #[.pointer (some ⟨7,91,none⟩),.pointer (some b),.int .u64 150]]).run Tryz.prog W
   = .ok (.tuple #[]) (W.setCell ta (.pointer (some x))):=by
 change Sem.run Tryz.prog (ReflectliteValue.parts (.agg #[.pointer (some ⟨7,91,none⟩),.pointer (some ta),.int .u64 406])>>=fun p=>ReflectliteValue.parts (.agg #[.pointer (some ⟨7,91,none⟩),.pointer (some b),.int .u64 150])>>=fun q=>_) W=_
 simp only[Sem.run_bind,Tryz.partsTaR,Tryz.partsTR,Result.andThen];simp[ReflectliteValue.flagAddr,loadVar,isAgg,underlying,Tryz.underlying91,hb,Result.andThen,Tryz.directR,storeVar,Value.cells,storeCells,Addr.add];rw[run_store Tryz.prog W ta _ _ (by rfl)];simp[ht,hf]
theorem Tryz.valueOfPC (t:Addr) (w:World):(ReflectliteValue.unpack (.iface 97 (.pointer (some t)))).run Tryz.prog w
 = .ok (.agg #[.pointer (some ⟨7,97,none⟩),.pointer (some ⟨w.heap.size,0,none⟩),.int .u64 150]) (w.alloc (.cells #[.pointer (some t)] 97)):=by kernel_rfl
theorem Tryz.typePC (a:Addr) (w:World):(ReflectliteValue.methodAny (ReflectliteValue.valueError "reflectlite.Value.Type" 0) (fun t _ _ _=>ReflectliteType.toType t) #[.agg #[.pointer (some ⟨7,97,none⟩),.pointer (some a),.int .u64 150]]).run Tryz.prog w
 = .ok (.iface 207 (.agg #[.pointer (some ⟨7,97,none⟩)])) w:=by kernel_rfl
theorem Tryz.kindPC (w:World):((ReflectliteType.abiMethod fun t=>Functor.map (fun a:Nat=>Value.int IntKind.u8 (a:Int)) (Rtype.kind t)) #[.pointer (some ⟨7,97,none⟩)]).run Tryz.prog w= .ok (.int .u8 22) w:=by kernel_rfl
theorem Tryz.kindTC (w:World):((ReflectliteType.abiMethod fun t=>Functor.map (fun a:Nat=>Value.int IntKind.u8 (a:Int)) (Rtype.kind t)) #[.pointer (some ⟨7,96,none⟩)]).run Tryz.prog w= .ok (.int .u8 22) w:=by kernel_rfl
theorem Tryz.partsPC (a:Addr) (w:World):(ReflectliteValue.parts (.agg #[.pointer (some ⟨7,97,none⟩),.pointer (some a),.int .u64 150])).run Tryz.prog w= .ok (some (97,a,150)) w:=by kernel_rfl
theorem Tryz.isNilPC (a p:Addr) (W:World) (ha:W.cell? a=some (.pointer (some p))):
 (ReflectliteValue.method (ReflectliteValue.valueError "reflectlite.Value.IsNil" 0) ReflectliteValue.isNil #[.agg #[.pointer (some ⟨7,97,none⟩),.pointer (some a),.int .u64 150]]).run Tryz.prog W= .ok (.bool false) W:=by
 change Sem.run Tryz.prog (ReflectliteValue.parts (.agg #[.pointer (some ⟨7,97,none⟩),.pointer (some a),.int .u64 150])>>=_) W=_
 simp only[Sem.run_bind,Tryz.partsPC,Result.andThen];simp[ReflectliteValue.isNil,loadVar,isAgg,underlying,Tryz.underlying97,ha,Result.andThen]
theorem Tryz.elemPC (w:World):(ReflectliteType.method ReflectliteType.elem #[.agg #[.pointer (some ⟨7,97,none⟩)]]).run Tryz.prog w= .ok (.iface 207 (.agg #[.pointer (some ⟨7,96,none⟩)])) w:=by kernel_rfl
theorem Tryz.implementsTC (w:World):(ReflectliteType.relation "Implements" ReflectliteType.implements_ #[.agg #[.pointer (some ⟨7,96,none⟩)],.iface 207 (.agg #[.pointer (some ⟨7,52,none⟩)])]).run Tryz.prog w= .ok (.bool true) w:=by kernel_rfl
theorem Tryz.typeOfTC (v:Value) (w:World):(ReflectliteType.typeOf #[.iface 96 v]).run Tryz.prog w= .ok (.iface 207 (.agg #[.pointer (some ⟨7,96,none⟩)])) w:=by kernel_rfl
theorem Tryz.assignableC (w:World):(ReflectliteType.relation "AssignableTo" ReflectliteType.assignableTo #[.agg #[.pointer (some ⟨7,96,none⟩)],.iface 207 (.agg #[.pointer (some ⟨7,96,none⟩)])]).run Tryz.prog w= .ok (.bool true) w:=by kernel_rfl
theorem Tryz.valueOfTC (x:Addr) (w:World):(ReflectliteValue.unpack (.iface 96 (.pointer (some x)))).run Tryz.prog w
 = .ok (.agg #[.pointer (some ⟨7,96,none⟩),.pointer (some ⟨w.heap.size,0,none⟩),.int .u64 150]) (w.alloc (.cells #[.pointer (some x)] 96)):=by kernel_rfl
theorem Tryz.elemOfPC (w:World):(Rtype.elem? 97).run Tryz.prog w= .ok (some 96) w:=by kernel_rfl
theorem Tryz.mkTC (p:Addr) (w:World):(ReflectliteValue.mk 96 p ReflectliteValue.flagAddr).run Tryz.prog w= .ok (.agg #[.pointer (some ⟨7,96,none⟩),.pointer (some p),.int .u64 406]) w:=by kernel_rfl
theorem Tryz.elemVC (a p:Addr) (W:World) (ha:W.cell? a=some (.pointer (some p))):
 (ReflectliteValue.method (ReflectliteValue.valueError "reflectlite.Value.Elem" 0) ReflectliteValue.elem #[.agg #[.pointer (some ⟨7,97,none⟩),.pointer (some a),.int .u64 150]]).run Tryz.prog W
   = .ok (.agg #[.pointer (some ⟨7,96,none⟩),.pointer (some p),.int .u64 406]) W:=by
 change Sem.run Tryz.prog (ReflectliteValue.parts (.agg #[.pointer (some ⟨7,97,none⟩),.pointer (some a),.int .u64 150])>>=_) W=_
 simp only[Sem.run_bind,Tryz.partsPC,Result.andThen];simp[ReflectliteValue.elem,loadVar,isAgg,underlying,Tryz.underlying97,ha,Result.andThen,Tryz.elemOfPC,Tryz.mkTC]
theorem Tryz.partsTaC (a:Addr) (w:World):(ReflectliteValue.parts (.agg #[.pointer (some ⟨7,96,none⟩),.pointer (some a),.int .u64 406])).run Tryz.prog w= .ok (some (96,a,406)) w:=by kernel_rfl
theorem Tryz.partsTC (a:Addr) (w:World):(ReflectliteValue.parts (.agg #[.pointer (some ⟨7,96,none⟩),.pointer (some a),.int .u64 150])).run Tryz.prog w= .ok (some (96,a,150)) w:=by kernel_rfl
theorem Tryz.directC (w:World):(Rtype.directlyAssignable 96 96).run Tryz.prog w= .ok true w:=by kernel_rfl
theorem Tryz.setC (ta b:Addr) (x:Addr) (old:Value) (W:World) (hb:W.cell? b=some (.pointer (some x))) (ht:W.cell? ta=some old) (hf:W.frozen? ta=false):
 (ReflectliteValue.set #[.agg #[.pointer (some ⟨7,96,none⟩),.pointer (some ta),.int .u64 406],.agg #[.pointer (some ⟨7,96,none⟩),.pointer (some b),.int .u64 150]]).run Tryz.prog W
   = .ok (.tuple #[]) (W.setCell ta (.pointer (some x))):=by
 change Sem.run Tryz.prog (ReflectliteValue.parts (.agg #[.pointer (some ⟨7,96,none⟩),.pointer (some ta),.int .u64 406])>>=fun p=>ReflectliteValue.parts (.agg #[.pointer (some ⟨7,96,none⟩),.pointer (some b),.int .u64 150])>>=fun q=>_) W=_
 simp only[Sem.run_bind,Tryz.partsTaC,Tryz.partsTC,Result.andThen];simp[ReflectliteValue.flagAddr,loadVar,isAgg,underlying,Tryz.underlying96,hb,Result.andThen,Tryz.directC,storeVar,Value.cells,storeCells,Addr.add];rw[run_store Tryz.prog W ta _ _ (by rfl)];simp[ht,hf]
theorem Tryz.valueOfPK (t:Addr) (w:World):(ReflectliteValue.unpack (.iface 100 (.pointer (some t)))).run Tryz.prog w
 = .ok (.agg #[.pointer (some ⟨7,100,none⟩),.pointer (some ⟨w.heap.size,0,none⟩),.int .u64 150]) (w.alloc (.cells #[.pointer (some t)] 100)):=by kernel_rfl
theorem Tryz.typePK (a:Addr) (w:World):(ReflectliteValue.methodAny (ReflectliteValue.valueError "reflectlite.Value.Type" 0) (fun t _ _ _=>ReflectliteType.toType t) #[.agg #[.pointer (some ⟨7,100,none⟩),.pointer (some a),.int .u64 150]]).run Tryz.prog w
 = .ok (.iface 207 (.agg #[.pointer (some ⟨7,100,none⟩)])) w:=by kernel_rfl
theorem Tryz.kindPK (w:World):((ReflectliteType.abiMethod fun t=>Functor.map (fun a:Nat=>Value.int IntKind.u8 (a:Int)) (Rtype.kind t)) #[.pointer (some ⟨7,100,none⟩)]).run Tryz.prog w= .ok (.int .u8 22) w:=by kernel_rfl
theorem Tryz.kindTK (w:World):((ReflectliteType.abiMethod fun t=>Functor.map (fun a:Nat=>Value.int IntKind.u8 (a:Int)) (Rtype.kind t)) #[.pointer (some ⟨7,22,none⟩)]).run Tryz.prog w= .ok (.int .u8 2) w:=by kernel_rfl
theorem Tryz.partsPK (a:Addr) (w:World):(ReflectliteValue.parts (.agg #[.pointer (some ⟨7,100,none⟩),.pointer (some a),.int .u64 150])).run Tryz.prog w= .ok (some (100,a,150)) w:=by kernel_rfl
theorem Tryz.isNilPK (a p:Addr) (W:World) (ha:W.cell? a=some (.pointer (some p))):
 (ReflectliteValue.method (ReflectliteValue.valueError "reflectlite.Value.IsNil" 0) ReflectliteValue.isNil #[.agg #[.pointer (some ⟨7,100,none⟩),.pointer (some a),.int .u64 150]]).run Tryz.prog W= .ok (.bool false) W:=by
 change Sem.run Tryz.prog (ReflectliteValue.parts (.agg #[.pointer (some ⟨7,100,none⟩),.pointer (some a),.int .u64 150])>>=_) W=_
 simp only[Sem.run_bind,Tryz.partsPK,Result.andThen];simp[ReflectliteValue.isNil,loadVar,isAgg,underlying,Tryz.underlying100,ha,Result.andThen]
theorem Tryz.elemPK (w:World):(ReflectliteType.method ReflectliteType.elem #[.agg #[.pointer (some ⟨7,100,none⟩)]]).run Tryz.prog w= .ok (.iface 207 (.agg #[.pointer (some ⟨7,22,none⟩)])) w:=by kernel_rfl
theorem Tryz.implementsTK (w:World):(ReflectliteType.relation "Implements" ReflectliteType.implements_ #[.agg #[.pointer (some ⟨7,22,none⟩)],.iface 207 (.agg #[.pointer (some ⟨7,52,none⟩)])]).run Tryz.prog w= .ok (.bool true) w:=by kernel_rfl
theorem Tryz.typeOfTK (v:Value) (w:World):(ReflectliteType.typeOf #[.iface 22 v]).run Tryz.prog w= .ok (.iface 207 (.agg #[.pointer (some ⟨7,22,none⟩)])) w:=by kernel_rfl
theorem Tryz.assignableK (w:World):(ReflectliteType.relation "AssignableTo" ReflectliteType.assignableTo #[.agg #[.pointer (some ⟨7,22,none⟩)],.iface 207 (.agg #[.pointer (some ⟨7,22,none⟩)])]).run Tryz.prog w= .ok (.bool true) w:=by kernel_rfl
theorem Tryz.valueOfTK (x:Int) (w:World):(ReflectliteValue.unpack (.iface 22 (.int .i64 x))).run Tryz.prog w
 = .ok (.agg #[.pointer (some ⟨7,22,none⟩),.pointer (some ⟨w.heap.size,0,none⟩),.int .u64 130]) (w.alloc (.cells #[.int .i64 x] 22)):=by kernel_rfl
theorem Tryz.elemOfPK (w:World):(Rtype.elem? 100).run Tryz.prog w= .ok (some 22) w:=by kernel_rfl
theorem Tryz.mkTK (p:Addr) (w:World):(ReflectliteValue.mk 22 p ReflectliteValue.flagAddr).run Tryz.prog w= .ok (.agg #[.pointer (some ⟨7,22,none⟩),.pointer (some p),.int .u64 386]) w:=by kernel_rfl
theorem Tryz.elemVK (a p:Addr) (W:World) (ha:W.cell? a=some (.pointer (some p))):
 (ReflectliteValue.method (ReflectliteValue.valueError "reflectlite.Value.Elem" 0) ReflectliteValue.elem #[.agg #[.pointer (some ⟨7,100,none⟩),.pointer (some a),.int .u64 150]]).run Tryz.prog W
   = .ok (.agg #[.pointer (some ⟨7,22,none⟩),.pointer (some p),.int .u64 386]) W:=by
 change Sem.run Tryz.prog (ReflectliteValue.parts (.agg #[.pointer (some ⟨7,100,none⟩),.pointer (some a),.int .u64 150])>>=_) W=_
 simp only[Sem.run_bind,Tryz.partsPK,Result.andThen];simp[ReflectliteValue.elem,loadVar,isAgg,underlying,Tryz.underlying100,ha,Result.andThen,Tryz.elemOfPK,Tryz.mkTK]
theorem Tryz.partsTaK (a:Addr) (w:World):(ReflectliteValue.parts (.agg #[.pointer (some ⟨7,22,none⟩),.pointer (some a),.int .u64 386])).run Tryz.prog w= .ok (some (22,a,386)) w:=by kernel_rfl
theorem Tryz.partsTK (a:Addr) (w:World):(ReflectliteValue.parts (.agg #[.pointer (some ⟨7,22,none⟩),.pointer (some a),.int .u64 130])).run Tryz.prog w= .ok (some (22,a,130)) w:=by kernel_rfl
theorem Tryz.directK (w:World):(Rtype.directlyAssignable 22 22).run Tryz.prog w= .ok true w:=by kernel_rfl
theorem Tryz.setK (ta b:Addr) (x:Int) (old:Value) (W:World) (hb:W.cell? b=some (.int .i64 x)) (ht:W.cell? ta=some old) (hf:W.frozen? ta=false):
 (ReflectliteValue.set #[.agg #[.pointer (some ⟨7,22,none⟩),.pointer (some ta),.int .u64 386],.agg #[.pointer (some ⟨7,22,none⟩),.pointer (some b),.int .u64 130]]).run Tryz.prog W
   = .ok (.tuple #[]) (W.setCell ta (.int .i64 x)):=by
 change Sem.run Tryz.prog (ReflectliteValue.parts (.agg #[.pointer (some ⟨7,22,none⟩),.pointer (some ta),.int .u64 386])>>=fun p=>ReflectliteValue.parts (.agg #[.pointer (some ⟨7,22,none⟩),.pointer (some b),.int .u64 130])>>=fun q=>_) W=_
 simp only[Sem.run_bind,Tryz.partsTaK,Tryz.partsTK,Result.andThen];simp[ReflectliteValue.flagAddr,loadVar,isAgg,underlying,Tryz.underlying22,hb,Result.andThen,Tryz.directK,storeVar,Value.cells,storeCells,Addr.add];rw[run_store Tryz.prog W ta _ _ (by rfl)];simp[ht,hf]
theorem Tryz.notAssignableKR (w:World):(ReflectliteType.relation "AssignableTo" ReflectliteType.assignableTo #[.agg #[.pointer (some ⟨7,22,none⟩)],.iface 207 (.agg #[.pointer (some ⟨7,91,none⟩)])]).run Tryz.prog w= .ok (.bool false) w:=by kernel_rfl
theorem Tryz.notAssignableKC (w:World):(ReflectliteType.relation "AssignableTo" ReflectliteType.assignableTo #[.agg #[.pointer (some ⟨7,22,none⟩)],.iface 207 (.agg #[.pointer (some ⟨7,96,none⟩)])]).run Tryz.prog w= .ok (.bool false) w:=by kernel_rfl
theorem Tryz.noAsK (v:Value) (xT:TypeId) (w:World):(Instr.typeAssert (.iface 22 v) xT 212 true).run Tryz.prog w= .ok (.tuple #[.nilIface,.bool false]) w:=run_typeAssert_lacksB Tryz.underlying212 (by kernel_rfl) (by kernel_rfl) v xT w
theorem Tryz.noUnwrapK (v:Value) (xT:TypeId) (w:World):(Instr.typeAssert (.iface 22 v) xT 215 true).run Tryz.prog w= .ok (.tuple #[.nilIface,.bool false]) w:=run_typeAssert_lacksB Tryz.underlying215 (by kernel_rfl) (by kernel_rfl) v xT w
theorem Tryz.noUnwrapsK (v:Value) (xT:TypeId) (w:World):(Instr.typeAssert (.iface 22 v) xT 217 true).run Tryz.prog w= .ok (.tuple #[.nilIface,.bool false]) w:=run_typeAssert_lacksB Tryz.underlying217 (by kernel_rfl) (by kernel_rfl) v xT w
end Go.Proofs.YtclpnafiiobfhaaGreatDoor

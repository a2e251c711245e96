import Derived.Test.YtclpnafiiobfhaaGreatDoorQ11
set_option linter.unusedVariables false
set_option linter.unusedSimpArgs false
set_option maxHeartbeats 2000000
namespace Go.Proofs.YtclpnafiiobfhaaGreatDoor
open Go.RowKit Go.Extern.Stop Go.Stop Go.Extern
def ax0:=PLift.up (@run_callFunc_extern Tryz.prog 99 _ (ReflectliteType.typeOf) Tryz.func99 (by kernel_rfl) (by kernel_rfl) (by kernel_rfl) (by kernel_rfl))
def ax1:=PLift.up (@run_callFunc_extern Tryz.prog 264 _ (ReflectliteType.relation "AssignableTo" ReflectliteType.assignableTo) Tryz.func264 (by kernel_rfl) (by kernel_rfl) (by kernel_rfl) (by kernel_rfl))
def ax2:=PLift.up (@run_callFunc_extern Tryz.prog 100 _ (ReflectliteValue.method (ReflectliteValue.valueError "reflectlite.Value.Elem" 0) ReflectliteValue.elem) Tryz.func100 (by kernel_rfl) (by kernel_rfl) (by kernel_rfl) (by kernel_rfl))
def ax3:=PLift.up (@run_callFunc_extern Tryz.prog 68 _ (fun args=>ReflectliteValue.unpack (args.getD 0 (.tuple #[]))) Tryz.func68 (by kernel_rfl) (by kernel_rfl) (by kernel_rfl) (by kernel_rfl))
def ax4:=PLift.up (@run_callFunc_extern Tryz.prog 101 _ (ReflectliteValue.set) Tryz.func101 (by kernel_rfl) (by kernel_rfl) (by kernel_rfl) (by kernel_rfl))
def ax5:=PLift.up (@run_callFunc_extern Tryz.prog 69 _ (ReflectliteValue.methodAny (ReflectliteValue.valueError "reflectlite.Value.Type" 0) (fun t _ _ _=>ReflectliteType.toType t)) Tryz.func69 (by kernel_rfl) (by kernel_rfl) (by kernel_rfl) (by kernel_rfl))
def ax6:=PLift.up (@run_callFunc_extern Tryz.prog 70 _ (ReflectliteValue.method (ReflectliteValue.valueError "reflectlite.Value.IsNil" 0) ReflectliteValue.isNil) Tryz.func70 (by kernel_rfl) (by kernel_rfl) (by kernel_rfl) (by kernel_rfl))
def ax7:=PLift.up (@run_callFunc_extern Tryz.prog 251 _ (ReflectliteType.abiMethod fun t=>do pure (.int .u8 (<-Rtype.kind t))) Tryz.func251 (by kernel_rfl) (by kernel_rfl) (by kernel_rfl) (by kernel_rfl))
def ax8:=PLift.up (@run_callFunc_extern Tryz.prog 266 _ (ReflectliteType.method ReflectliteType.elem) Tryz.func266 (by kernel_rfl) (by kernel_rfl) (by kernel_rfl) (by kernel_rfl))
def ax9:=PLift.up (@run_callFunc_extern Tryz.prog 267 _ (ReflectliteType.relation "Implements" ReflectliteType.implements_) Tryz.func267 (by kernel_rfl) (by kernel_rfl) (by kernel_rfl) (by kernel_rfl))
theorem zMS (x:Addr) (t a:Addr) (old:Value) (w:World) (ha:w.cell? a=some (.pointer (some t))) (ht0:w.cell? t=some old) (hf0:w.frozen? t=false):
 Calls Tryz.prog 71 #[.iface 91 (.pointer (some x)),.iface 93 (.pointer (some t)),.agg #[.pointer (some ⟨7,93,none⟩),.pointer (some a),.int .u64 150],.iface 207 (.agg #[.pointer (some ⟨7,91,none⟩)])] w fun ev w'=>ev= .returned (.bool true)/\w'=((w.alloc (.cells #[.pointer (some ⟨7,93,none⟩),.pointer (some a),.int .u64 150] 155)).alloc (.cells #[.pointer (some x)] 91)).setCell t (.pointer (some x)):=by
 have h1:=ax0.down;have h2:=ax1.down;have h3:=ax2.down;have h4:=ax3.down;have h5:=ax4.down;have f1:=Tryz.typeOfTR;have f2:=Tryz.methodAssignableTo;have f3:=Tryz.assignableR;have f4:=Tryz.valueOfTR;have hal:a.block<w.heap.size:=by
  rcases Nat.lt_or_ge a.block w.heap.size with h|h
  ·exact h
  ·simp[World.cell?,Array.getElem?_eq_none h] at ha
 have htl:t.block<w.heap.size:=by
  rcases Nat.lt_or_ge t.block w.heap.size with h|h
  ·exact h
  ·simp[World.cell?,Array.getElem?_eq_none h] at ht0
 have el:=Tryz.elemVR a t (w.alloc (.cells #[.pointer (some ⟨7,93,none⟩),.pointer (some a),.int .u64 150] 155)) (by rw[World.cell?_alloc_lt _ _ a hal];exact ha);have st:=Tryz.setR t ⟨w.heap.size+1,0,none⟩ x old ((w.alloc (.cells #[.pointer (some ⟨7,93,none⟩),.pointer (some a),.int .u64 150] 155)).alloc (.cells #[.pointer (some x)] 91))
  (by rw[World.cell?_alloc_at _ _ _ _ (by simp)];rfl)
  (by rw[World.cell?_alloc_lt _ _ t (by simp;omega),World.cell?_alloc_lt _ _ t htl];exact ht0)
  (by rw[World.frozen?_alloc_old _ _ t (by simp;omega),World.frozen?_alloc_old _ _ t (Nat.ne_of_lt htl)];exact hf0)
 clear ha ht0 hf0;go_enter Tryz.func71,Tryz.ntmps71;go_wp2;refine wp_loop_rounds 1 ?_;rw[rounds_succ];go_wp2;go_ret;exact⟨rfl,rfl⟩
theorem zMT (x:Addr) (t a:Addr) (old:Value) (w:World) (ha:w.cell? a=some (.pointer (some t))) (ht0:w.cell? t=some old) (hf0:w.frozen? t=false):
 Calls Tryz.prog 71 #[.iface 96 (.pointer (some x)),.iface 97 (.pointer (some t)),.agg #[.pointer (some ⟨7,97,none⟩),.pointer (some a),.int .u64 150],.iface 207 (.agg #[.pointer (some ⟨7,96,none⟩)])] w fun ev w'=>ev= .returned (.bool true)/\w'=((w.alloc (.cells #[.pointer (some ⟨7,97,none⟩),.pointer (some a),.int .u64 150] 155)).alloc (.cells #[.pointer (some x)] 96)).setCell t (.pointer (some x)):=by
 have h1:=ax0.down;have h2:=ax1.down;have h3:=ax2.down;have h4:=ax3.down;have h5:=ax4.down;have f1:=Tryz.typeOfTC;have f2:=Tryz.methodAssignableTo;have f3:=Tryz.assignableC;have f4:=Tryz.valueOfTC;have hal:a.block<w.heap.size:=by
  rcases Nat.lt_or_ge a.block w.heap.size with h|h
  ·exact h
  ·simp[World.cell?,Array.getElem?_eq_none h] at ha
 have htl:t.block<w.heap.size:=by
  rcases Nat.lt_or_ge t.block w.heap.size with h|h
  ·exact h
  ·simp[World.cell?,Array.getElem?_eq_none h] at ht0
 have el:=Tryz.elemVC a t (w.alloc (.cells #[.pointer (some ⟨7,97,none⟩),.pointer (some a),.int .u64 150] 155)) (by rw[World.cell?_alloc_lt _ _ a hal];exact ha);have st:=Tryz.setC t ⟨w.heap.size+1,0,none⟩ x old ((w.alloc (.cells #[.pointer (some ⟨7,97,none⟩),.pointer (some a),.int .u64 150] 155)).alloc (.cells #[.pointer (some x)] 96))
  (by rw[World.cell?_alloc_at _ _ _ _ (by simp)];rfl)
  (by rw[World.cell?_alloc_lt _ _ t (by simp;omega),World.cell?_alloc_lt _ _ t htl];exact ht0)
  (by rw[World.frozen?_alloc_old _ _ t (by simp;omega),World.frozen?_alloc_old _ _ t (Nat.ne_of_lt htl)];exact hf0)
 clear ha ht0 hf0;go_enter Tryz.func71,Tryz.ntmps71;go_wp2;refine wp_loop_rounds 1 ?_;rw[rounds_succ];go_wp2;go_ret;exact⟨rfl,rfl⟩
theorem zMU (x:Int) (t a:Addr) (old:Value) (w:World) (ha:w.cell? a=some (.pointer (some t))) (ht0:w.cell? t=some old) (hf0:w.frozen? t=false):
 Calls Tryz.prog 71 #[.iface 22 (.int .i64 x),.iface 100 (.pointer (some t)),.agg #[.pointer (some ⟨7,100,none⟩),.pointer (some a),.int .u64 150],.iface 207 (.agg #[.pointer (some ⟨7,22,none⟩)])] w fun ev w'=>ev= .returned (.bool true)/\w'=((w.alloc (.cells #[.pointer (some ⟨7,100,none⟩),.pointer (some a),.int .u64 150] 155)).alloc (.cells #[.int .i64 x] 22)).setCell t (.int .i64 x):=by
 have h1:=ax0.down;have h2:=ax1.down;have h3:=ax2.down;have h4:=ax3.down;have h5:=ax4.down;have f1:=Tryz.typeOfTK;have f2:=Tryz.methodAssignableTo;have f3:=Tryz.assignableK;have f4:=Tryz.valueOfTK;have hal:a.block<w.heap.size:=by
  rcases Nat.lt_or_ge a.block w.heap.size with h|h
  ·exact h
  ·simp[World.cell?,Array.getElem?_eq_none h] at ha
 have htl:t.block<w.heap.size:=by
  rcases Nat.lt_or_ge t.block w.heap.size with h|h
  ·exact h
  ·simp[World.cell?,Array.getElem?_eq_none h] at ht0
 have el:=Tryz.elemVK a t (w.alloc (.cells #[.pointer (some ⟨7,100,none⟩),.pointer (some a),.int .u64 150] 155)) (by rw[World.cell?_alloc_lt _ _ a hal];exact ha);have st:=Tryz.setK t ⟨w.heap.size+1,0,none⟩ x old ((w.alloc (.cells #[.pointer (some ⟨7,100,none⟩),.pointer (some a),.int .u64 150] 155)).alloc (.cells #[.int .i64 x] 22))
  (by rw[World.cell?_alloc_at _ _ _ _ (by simp)];rfl)
  (by rw[World.cell?_alloc_lt _ _ t (by simp;omega),World.cell?_alloc_lt _ _ t htl];exact ht0)
  (by rw[World.frozen?_alloc_old _ _ t (by simp;omega),World.frozen?_alloc_old _ _ t (Nat.ne_of_lt htl)];exact hf0)
 clear ha ht0 hf0;go_enter Tryz.func71,Tryz.ntmps71;go_wp2;refine wp_loop_rounds 1 ?_;rw[rounds_succ];go_wp2;go_ret;exact⟨rfl,rfl⟩
theorem zI1 (x:Int) (t a:Addr) (w:World):
 Calls Tryz.prog 71 #[.iface 22 (.int .i64 x),.iface 93 (.pointer (some t)),.agg #[.pointer (some ⟨7,93,none⟩),.pointer (some a),.int .u64 150],.iface 207 (.agg #[.pointer (some ⟨7,91,none⟩)])] w fun ev w'=>ev= .returned (.bool false)/\w'=w.alloc (.cells #[.pointer (some ⟨7,93,none⟩),.pointer (some a),.int .u64 150] 155):=by
 have h1:=ax0.down;have h2:=ax1.down;have f1:=Tryz.typeOfTK;have f2:=Tryz.methodAssignableTo;have f3:=Tryz.notAssignableKR;have f4:=Tryz.noAsK;have f5:=Tryz.noUnwrapK;have f6:=Tryz.noUnwrapsK;go_enter Tryz.func71,Tryz.ntmps71;go_wp2;refine wp_loop_rounds 1 ?_;rw[rounds_succ];go_wp2;go_ret;exact⟨rfl,rfl⟩
theorem zI2 (x:Int) (t a:Addr) (w:World):
 Calls Tryz.prog 71 #[.iface 22 (.int .i64 x),.iface 97 (.pointer (some t)),.agg #[.pointer (some ⟨7,97,none⟩),.pointer (some a),.int .u64 150],.iface 207 (.agg #[.pointer (some ⟨7,96,none⟩)])] w fun ev w'=>ev= .returned (.bool false)/\w'=w.alloc (.cells #[.pointer (some ⟨7,97,none⟩),.pointer (some a),.int .u64 150] 155):=by
 have h1:=ax0.down;have h2:=ax1.down;have f1:=Tryz.typeOfTK;have f2:=Tryz.methodAssignableTo;have f3:=Tryz.notAssignableKC;have f4:=Tryz.noAsK;have f5:=Tryz.noUnwrapK;have f6:=Tryz.noUnwrapsK;go_enter Tryz.func71,Tryz.ntmps71;go_wp2;refine wp_loop_rounds 1 ?_;rw[rounds_succ];go_wp2;go_ret;exact⟨rfl,rfl⟩
theorem zQE (x:Addr) (t:Addr) (w:World) (hg:w.cell? ⟨0,0,none⟩=some (.iface 207 (.agg #[.pointer (some ⟨7,52,none⟩)]))) (old:Value) (ht0:w.cell? t=some old) (hf0:w.frozen? t=false):
 Calls Tryz.prog 39 #[.iface 91 (.pointer (some x)),.iface 93 (.pointer (some t))] w fun ev w'=>ev= .returned (.bool true)/\w'=((((w.alloc (.cells #[.pointer (some t)] 93)).alloc (.cells #[.pointer (some ⟨7,93,none⟩),.pointer (some ⟨w.heap.size,0,none⟩),.int .u64 150] 155)).alloc (.cells #[.pointer (some ⟨7,93,none⟩),.pointer (some ⟨w.heap.size,0,none⟩),.int .u64 150] 155)).alloc (.cells #[.pointer (some x)] 91)).setCell t (.pointer (some x)):=by
 have h1:=ax3.down;have h2:=ax5.down;have h3:=ax6.down;have h4:=ax7.down;have h5:=ax8.down;have h6:=ax9.down;have f1:=Tryz.valueOfPR;have f2:=Tryz.typePR;have f3:=Tryz.methodKind;have f4:=Tryz.methodElem;have f5:=Tryz.methodImplements;have f6:=Tryz.kindPR;have f7:=Tryz.kindTR;have f8:=Tryz.elemPR;have f9:=Tryz.implementsTR;have n8:=Tryz.isNilPR ⟨w.heap.size,0,none⟩ t ((w.alloc (.cells #[.pointer (some t)] 93)).alloc (.cells #[.pointer (some ⟨7,93,none⟩),.pointer (some ⟨w.heap.size,0,none⟩),.int .u64 150] 155)) (by simp);have hlt:0<w.heap.size:=by
  rcases Nat.lt_or_ge 0 w.heap.size with h|h
  ·exact h
  ·simp[World.cell?,Array.getElem?_eq_none h] at hg
 have hg2:((w.alloc (.cells #[.pointer (some t)] 93)).alloc (.cells #[.pointer (some ⟨7,93,none⟩),.pointer (some ⟨w.heap.size,0,none⟩),.int .u64 150] 155)).cell? ⟨0,0,none⟩=some (.iface 207 (.agg #[.pointer (some ⟨7,52,none⟩)])):=by
  rw[World.cell?_alloc_lt _ _ ⟨0,0,none⟩ (by first|(simp;done)|(simp;omega)),World.cell?_alloc_lt _ _ ⟨0,0,none⟩ hlt];exact hg
 have ha2:((w.alloc (.cells #[.pointer (some t)] 93)).alloc (.cells #[.pointer (some ⟨7,93,none⟩),.pointer (some ⟨w.heap.size,0,none⟩),.int .u64 150] 155)).cell? ⟨w.heap.size,0,none⟩=some (.pointer (some t)):=by simp
 have htl:t.block<w.heap.size:=by
  rcases Nat.lt_or_ge t.block w.heap.size with h|h
  ·exact h
  ·simp[World.cell?,Array.getElem?_eq_none h] at ht0
 have ht2:((w.alloc (.cells #[.pointer (some t)] 93)).alloc (.cells #[.pointer (some ⟨7,93,none⟩),.pointer (some ⟨w.heap.size,0,none⟩),.int .u64 150] 155)).cell? t=some old:=by
  rw[World.cell?_alloc_lt _ _ t (by simp;omega),World.cell?_alloc_lt _ _ t htl];exact ht0
 have hf2:((w.alloc (.cells #[.pointer (some t)] 93)).alloc (.cells #[.pointer (some ⟨7,93,none⟩),.pointer (some ⟨w.heap.size,0,none⟩),.int .u64 150] 155)).frozen? t=false:=by
  rw[World.frozen?_alloc_old _ _ t (by simp;omega),World.frozen?_alloc_old _ _ t (Nat.ne_of_lt htl)];exact hf0
 clear ht0 hf0;clear hg;go_enter Tryz.func39,Tryz.ntmps39;go_wp2_with (go_at_call 71;refine(zMS x t _ old _ ha2 ht2 hf2).mono ?_;rintro e w' ⟨rfl,rfl⟩);go_ret;exact⟨rfl,rfl⟩
theorem zQF (x:Addr) (t:Addr) (w:World) (hg:w.cell? ⟨0,0,none⟩=some (.iface 207 (.agg #[.pointer (some ⟨7,52,none⟩)]))) (old:Value) (ht0:w.cell? t=some old) (hf0:w.frozen? t=false):
 Calls Tryz.prog 39 #[.iface 96 (.pointer (some x)),.iface 97 (.pointer (some t))] w fun ev w'=>ev= .returned (.bool true)/\w'=((((w.alloc (.cells #[.pointer (some t)] 97)).alloc (.cells #[.pointer (some ⟨7,97,none⟩),.pointer (some ⟨w.heap.size,0,none⟩),.int .u64 150] 155)).alloc (.cells #[.pointer (some ⟨7,97,none⟩),.pointer (some ⟨w.heap.size,0,none⟩),.int .u64 150] 155)).alloc (.cells #[.pointer (some x)] 96)).setCell t (.pointer (some x)):=by
 have h1:=ax3.down;have h2:=ax5.down;have h3:=ax6.down;have h4:=ax7.down;have h5:=ax8.down;have h6:=ax9.down;have f1:=Tryz.valueOfPC;have f2:=Tryz.typePC;have f3:=Tryz.methodKind;have f4:=Tryz.methodElem;have f5:=Tryz.methodImplements;have f6:=Tryz.kindPC;have f7:=Tryz.kindTC;have f8:=Tryz.elemPC;have f9:=Tryz.implementsTC;have n8:=Tryz.isNilPC ⟨w.heap.size,0,none⟩ t ((w.alloc (.cells #[.pointer (some t)] 97)).alloc (.cells #[.pointer (some ⟨7,97,none⟩),.pointer (some ⟨w.heap.size,0,none⟩),.int .u64 150] 155)) (by simp);have hlt:0<w.heap.size:=by
  rcases Nat.lt_or_ge 0 w.heap.size with h|h
  ·exact h
  ·simp[World.cell?,Array.getElem?_eq_none h] at hg
 have hg2:((w.alloc (.cells #[.pointer (some t)] 97)).alloc (.cells #[.pointer (some ⟨7,97,none⟩),.pointer (some ⟨w.heap.size,0,none⟩),.int .u64 150] 155)).cell? ⟨0,0,none⟩=some (.iface 207 (.agg #[.pointer (some ⟨7,52,none⟩)])):=by
  rw[World.cell?_alloc_lt _ _ ⟨0,0,none⟩ (by first|(simp;done)|(simp;omega)),World.cell?_alloc_lt _ _ ⟨0,0,none⟩ hlt];exact hg
 have ha2:((w.alloc (.cells #[.pointer (some t)] 97)).alloc (.cells #[.pointer (some ⟨7,97,none⟩),.pointer (some ⟨w.heap.size,0,none⟩),.int .u64 150] 155)).cell? ⟨w.heap.size,0,none⟩=some (.pointer (some t)):=by simp
 have htl:t.block<w.heap.size:=by
  rcases Nat.lt_or_ge t.block w.heap.size with h|h
  ·exact h
  ·simp[World.cell?,Array.getElem?_eq_none h] at ht0
 have ht2:((w.alloc (.cells #[.pointer (some t)] 97)).alloc (.cells #[.pointer (some ⟨7,97,none⟩),.pointer (some ⟨w.heap.size,0,none⟩),.int .u64 150] 155)).cell? t=some old:=by
  rw[World.cell?_alloc_lt _ _ t (by simp;omega),World.cell?_alloc_lt _ _ t htl];exact ht0
 have hf2:((w.alloc (.cells #[.pointer (some t)] 97)).alloc (.cells #[.pointer (some ⟨7,97,none⟩),.pointer (some ⟨w.heap.size,0,none⟩),.int .u64 150] 155)).frozen? t=false:=by
  rw[World.frozen?_alloc_old _ _ t (by simp;omega),World.frozen?_alloc_old _ _ t (Nat.ne_of_lt htl)];exact hf0
 clear ht0 hf0;clear hg;go_enter Tryz.func39,Tryz.ntmps39;go_wp2_with (go_at_call 71;refine(zMT x t _ old _ ha2 ht2 hf2).mono ?_;rintro e w' ⟨rfl,rfl⟩);go_ret;exact⟨rfl,rfl⟩
theorem zMV (x:Int) (t:Addr) (w:World) (hg:w.cell? ⟨0,0,none⟩=some (.iface 207 (.agg #[.pointer (some ⟨7,52,none⟩)]))) (old:Value) (ht0:w.cell? t=some old) (hf0:w.frozen? t=false):
 Calls Tryz.prog 39 #[.iface 22 (.int .i64 x),.iface 100 (.pointer (some t))] w fun ev w'=>ev= .returned (.bool true)/\w'=((((w.alloc (.cells #[.pointer (some t)] 100)).alloc (.cells #[.pointer (some ⟨7,100,none⟩),.pointer (some ⟨w.heap.size,0,none⟩),.int .u64 150] 155)).alloc (.cells #[.pointer (some ⟨7,100,none⟩),.pointer (some ⟨w.heap.size,0,none⟩),.int .u64 150] 155)).alloc (.cells #[.int .i64 x] 22)).setCell t (.int .i64 x):=by
 have h1:=ax3.down;have h2:=ax5.down;have h3:=ax6.down;have h4:=ax7.down;have h5:=ax8.down;have h6:=ax9.down;have f1:=Tryz.valueOfPK;have f2:=Tryz.typePK;have f3:=Tryz.methodKind;have f4:=Tryz.methodElem;have f5:=Tryz.methodImplements;have f6:=Tryz.kindPK;have f7:=Tryz.kindTK;have f8:=Tryz.elemPK;have f9:=Tryz.implementsTK;have n8:=Tryz.isNilPK ⟨w.heap.size,0,none⟩ t ((w.alloc (.cells #[.pointer (some t)] 100)).alloc (.cells #[.pointer (some ⟨7,100,none⟩),.pointer (some ⟨w.heap.size,0,none⟩),.int .u64 150] 155)) (by simp);have hlt:0<w.heap.size:=by
  rcases Nat.lt_or_ge 0 w.heap.size with h|h
  ·exact h
  ·simp[World.cell?,Array.getElem?_eq_none h] at hg
 have hg2:((w.alloc (.cells #[.pointer (some t)] 100)).alloc (.cells #[.pointer (some ⟨7,100,none⟩),.pointer (some ⟨w.heap.size,0,none⟩),.int .u64 150] 155)).cell? ⟨0,0,none⟩=some (.iface 207 (.agg #[.pointer (some ⟨7,52,none⟩)])):=by
  rw[World.cell?_alloc_lt _ _ ⟨0,0,none⟩ (by first|(simp;done)|(simp;omega)),World.cell?_alloc_lt _ _ ⟨0,0,none⟩ hlt];exact hg
 have ha2:((w.alloc (.cells #[.pointer (some t)] 100)).alloc (.cells #[.pointer (some ⟨7,100,none⟩),.pointer (some ⟨w.heap.size,0,none⟩),.int .u64 150] 155)).cell? ⟨w.heap.size,0,none⟩=some (.pointer (some t)):=by simp
 have htl:t.block<w.heap.size:=by
  rcases Nat.lt_or_ge t.block w.heap.size with h|h
  ·exact h
  ·simp[World.cell?,Array.getElem?_eq_none h] at ht0
 have ht2:((w.alloc (.cells #[.pointer (some t)] 100)).alloc (.cells #[.pointer (some ⟨7,100,none⟩),.pointer (some ⟨w.heap.size,0,none⟩),.int .u64 150] 155)).cell? t=some old:=by
  rw[World.cell?_alloc_lt _ _ t (by simp;omega),World.cell?_alloc_lt _ _ t htl];exact ht0
 have hf2:((w.alloc (.cells #[.pointer (some t)] 100)).alloc (.cells #[.pointer (some ⟨7,100,none⟩),.pointer (some ⟨w.heap.size,0,none⟩),.int .u64 150] 155)).frozen? t=false:=by
  rw[World.frozen?_alloc_old _ _ t (by simp;omega),World.frozen?_alloc_old _ _ t (Nat.ne_of_lt htl)];exact hf0
 clear ht0 hf0;clear hg;go_enter Tryz.func39,Tryz.ntmps39;go_wp2_with (go_at_call 71;refine(zMU x t _ old _ ha2 ht2 hf2).mono ?_;rintro e w' ⟨rfl,rfl⟩);go_ret;exact⟨rfl,rfl⟩
theorem zMW (x:Int) (t:Addr) (w:World) (hg:w.cell? ⟨0,0,none⟩=some (.iface 207 (.agg #[.pointer (some ⟨7,52,none⟩)]))):
 Calls Tryz.prog 39 #[.iface 22 (.int .i64 x),.iface 93 (.pointer (some t))] w fun ev w'=>ev= .returned (.bool false)/\w'=((w.alloc (.cells #[.pointer (some t)] 93)).alloc (.cells #[.pointer (some ⟨7,93,none⟩),.pointer (some ⟨w.heap.size,0,none⟩),.int .u64 150] 155)).alloc (.cells #[.pointer (some ⟨7,93,none⟩),.pointer (some ⟨w.heap.size,0,none⟩),.int .u64 150] 155):=by
 have h1:=ax3.down;have h2:=ax5.down;have h3:=ax6.down;have h4:=ax7.down;have h5:=ax8.down;have h6:=ax9.down;have f1:=Tryz.valueOfPR;have f2:=Tryz.typePR;have f3:=Tryz.methodKind;have f4:=Tryz.methodElem;have f5:=Tryz.methodImplements;have f6:=Tryz.kindPR;have f7:=Tryz.kindTR;have f8:=Tryz.elemPR;have f9:=Tryz.implementsTR;have n8:=Tryz.isNilPR ⟨w.heap.size,0,none⟩ t ((w.alloc (.cells #[.pointer (some t)] 93)).alloc (.cells #[.pointer (some ⟨7,93,none⟩),.pointer (some ⟨w.heap.size,0,none⟩),.int .u64 150] 155)) (by simp);have hlt:0<w.heap.size:=by
  rcases Nat.lt_or_ge 0 w.heap.size with h|h
  ·exact h
  ·simp[World.cell?,Array.getElem?_eq_none h] at hg
 have hg2:((w.alloc (.cells #[.pointer (some t)] 93)).alloc (.cells #[.pointer (some ⟨7,93,none⟩),.pointer (some ⟨w.heap.size,0,none⟩),.int .u64 150] 155)).cell? ⟨0,0,none⟩=some (.iface 207 (.agg #[.pointer (some ⟨7,52,none⟩)])):=by
  rw[World.cell?_alloc_lt _ _ ⟨0,0,none⟩ (by first|(simp;done)|(simp;omega)),World.cell?_alloc_lt _ _ ⟨0,0,none⟩ hlt];exact hg
 have ha2:((w.alloc (.cells #[.pointer (some t)] 93)).alloc (.cells #[.pointer (some ⟨7,93,none⟩),.pointer (some ⟨w.heap.size,0,none⟩),.int .u64 150] 155)).cell? ⟨w.heap.size,0,none⟩=some (.pointer (some t)):=by simp
 clear hg;go_enter Tryz.func39,Tryz.ntmps39;go_wp2_with (go_at_call 71;refine(zI1 x t _ _).mono ?_;rintro e w' ⟨rfl,rfl⟩);go_ret;exact⟨rfl,rfl⟩
theorem zMX (x:Int) (t:Addr) (w:World) (hg:w.cell? ⟨0,0,none⟩=some (.iface 207 (.agg #[.pointer (some ⟨7,52,none⟩)]))):
 Calls Tryz.prog 39 #[.iface 22 (.int .i64 x),.iface 97 (.pointer (some t))] w fun ev w'=>ev= .returned (.bool false)/\w'=((w.alloc (.cells #[.pointer (some t)] 97)).alloc (.cells #[.pointer (some ⟨7,97,none⟩),.pointer (some ⟨w.heap.size,0,none⟩),.int .u64 150] 155)).alloc (.cells #[.pointer (some ⟨7,97,none⟩),.pointer (some ⟨w.heap.size,0,none⟩),.int .u64 150] 155):=by
 have h1:=ax3.down;have h2:=ax5.down;have h3:=ax6.down;have h4:=ax7.down;have h5:=ax8.down;have h6:=ax9.down;have f1:=Tryz.valueOfPC;have f2:=Tryz.typePC;have f3:=Tryz.methodKind;have f4:=Tryz.methodElem;have f5:=Tryz.methodImplements;have f6:=Tryz.kindPC;have f7:=Tryz.kindTC;have f8:=Tryz.elemPC;have f9:=Tryz.implementsTC;have n8:=Tryz.isNilPC ⟨w.heap.size,0,none⟩ t ((w.alloc (.cells #[.pointer (some t)] 97)).alloc (.cells #[.pointer (some ⟨7,97,none⟩),.pointer (some ⟨w.heap.size,0,none⟩),.int .u64 150] 155)) (by simp);have hlt:0<w.heap.size:=by
  rcases Nat.lt_or_ge 0 w.heap.size with h|h
  ·exact h
  ·simp[World.cell?,Array.getElem?_eq_none h] at hg
 have hg2:((w.alloc (.cells #[.pointer (some t)] 97)).alloc (.cells #[.pointer (some ⟨7,97,none⟩),.pointer (some ⟨w.heap.size,0,none⟩),.int .u64 150] 155)).cell? ⟨0,0,none⟩=some (.iface 207 (.agg #[.pointer (some ⟨7,52,none⟩)])):=by
  rw[World.cell?_alloc_lt _ _ ⟨0,0,none⟩ (by first|(simp;done)|(simp;omega)),World.cell?_alloc_lt _ _ ⟨0,0,none⟩ hlt];exact hg
 have ha2:((w.alloc (.cells #[.pointer (some t)] 97)).alloc (.cells #[.pointer (some ⟨7,97,none⟩),.pointer (some ⟨w.heap.size,0,none⟩),.int .u64 150] 155)).cell? ⟨w.heap.size,0,none⟩=some (.pointer (some t)):=by simp
 clear hg;go_enter Tryz.func39,Tryz.ntmps39;go_wp2_with (go_at_call 71;refine(zI2 x t _ _).mono ?_;rintro e w' ⟨rfl,rfl⟩);go_ret;exact⟨rfl,rfl⟩
end Go.Proofs.YtclpnafiiobfhaaGreatDoor

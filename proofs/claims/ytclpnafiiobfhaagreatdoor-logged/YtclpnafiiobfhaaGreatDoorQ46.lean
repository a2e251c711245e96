import Derived.Lib.BufferWrite
import Derived.Lib.SlBuf
import Derived.Test.YtclpnafiiobfhaaGreatDoorRows
import Derived.Test.YtclpnafiiobfhaaGreatDoorQ13
import Derived.HandedShaped
import Derived.Lay
import Derived.Shelf.Vars
import Derived.ProofKit
import Derived.OpenShut
import Derived.SevenTiedAt
set_option linter.unusedVariables false
set_option linter.unusedSimpArgs false
set_option maxHeartbeats 400000
namespace Go.Proofs.YtclpnafiiobfhaaGreatDoor
open Go.RowKit
theorem Tryz.info8:(Tryz.prog.info? 5).map (fun i=>(i.zero,i.size,i.bytes))=some (some (.int .u8 0),1,1):=by kernel_rfl
theorem Tryz.size8:(Tryz.prog.info? 5).map (·.size)=some 1:=by kernel_rfl
def zCK (s:ByteArray) (x y:Int):Array Value:=(Lib.byteCells s.data.toList++([.int .u8 x,.int .u8 y]:List Value)).toArray
theorem zAw (s:ByteArray):(Lib.byteCells s.data.toList).length=s.size:=by
 simp[Lib.byteCells]
theorem zPH (s:ByteArray) (x y:Int) (i:Nat) (h:i<s.size):(zCK s x y)[i]? =some (.int .u8 (nth s i)):=by
 have h':i<s.data.toList.length:=by simpa using h
 unfold zCK nth;rw[List.getElem?_toArray,List.getElem?_append_left (by rw[zAw];exact h)];simp only[Lib.byteCells,List.getElem?_map,List.getD_eq_getElem?_getD,List.getElem?_eq_getElem h',Option.map_some,Option.getD_some]
theorem zNb (s:ByteArray) (x y:Int):(zCK s x y)[s.size]? =some (.int .u8 x):=by
 unfold zCK;rw[List.getElem?_toArray,List.getElem?_append_right (by rw[zAw];exact Nat.le_refl _),zAw];simp
theorem zNc (s:ByteArray) (x y:Int):(zCK s x y)[s.size+1]? =some (.int .u8 y):=by
 unfold zCK;rw[List.getElem?_toArray,List.getElem?_append_right (by rw[zAw];omega),zAw];simp
theorem zK8 (s:ByteArray) (x y x':Int):(zCK s x y).setIfInBounds s.size (.int .u8 x')=zCK s x' y:=by
 unfold zCK;rw[List.setIfInBounds_toArray,List.set_append_right _ _ (by rw[zAw];exact Nat.le_refl _),zAw];simp
theorem zK9 (s:ByteArray) (x y y':Int):(zCK s x y).setIfInBounds (s.size+1) (.int .u8 y')=zCK s x y':=by
 unfold zCK;rw[List.setIfInBounds_toArray,List.set_append_right _ _ (by rw[zAw];omega),zAw];simp
theorem zIH (w:World) (c d:Array Value) (t:TypeId):(w.alloc (.cells c t)).setRow w.heap.size d=w.alloc (.cells d t):=by
 unfold World.setRow World.alloc
 congr 1
 apply Array.ext
 ·simp
 ·intro k h1 h2
  simp only[Array.getElem_modify,Array.getElem_push]
  split
  ·rename_i hk;subst hk;simp
  ·rename_i hk
   simp at h1;have:k<w.heap.size:=by omega
   simp[this]
theorem zNd (s:ByteArray) (w:World) (sT ty:TypeId):
 (Builtin.copy_ #[32,sT] ty #[.slice (some ⟨w.heap.size,0,none⟩) (s.size+2) (s.size+2),.string s]).run Tryz.prog (w.alloc (.cells (madeCells #[.int .u8 0] (s.size+2)) 5))=
   .ok (goInt s.size) (w.alloc (.cells (zCK s 0 0) 5)):=by
 rw[Lib.run_copy_row_string (P:=Tryz.prog) _ 32 sT ty 5 w.heap.size 0 (s.size+2) (s.size+2) s (madeCells #[.int .u8 0] (s.size+2)) 5 Tryz.underlying32 Tryz.size8 (by show(w.heap.push _)[w.heap.size]? =_;simp) (by omega) (by rw[size_madeCells];omega)];rw[zIH]
 congr 4
 rw[toList_madeCells_one];simp[List.drop_replicate,zCK]
theorem zII (s:ByteArray) (w:World) (hs:s.size<=262144):
 Calls Tryz.prog 83 #[.string s] w fun e w'=>e= .returned (.slice (some ⟨w.heap.size,0,none⟩) s.size (s.size+2))/\w'=w.alloc (.cells (zCK s 77 88) 5):=by
 have hmk:∀w,(Instr.makeSlice 32 (.int .i64 ((s.size:Int)+2)) (.int .i64 ((s.size:Int)+2))).run Tryz.prog w= .ok (.slice (some ⟨w.heap.size,0,none⟩) (s.size+2) (s.size+2)) (w.alloc (.cells (madeCells #[.int .u8 0] (s.size+2)) 5)):=by
  intro w;have h:=run_make_row' (P:=Tryz.prog) 32 5 (.int .u8 0) 1 Tryz.underlying32 Tryz.info8 rfl .i64 .i64 (s.size+2) (by omega) (by omega) w;rw[show(((s.size+2:Nat)):Int)=(s.size:Int)+2 from by omega] at h;exact h
 have hcp:=zNd s w 9 3;have g1:=zNb s 0 0;have g2:=zNc s 77 0;have k1:=zK8 s 0 0 77;have k2:=zK9 s 77 0 88;go_enter Tryz.func83,Tryz.ntmps83;go_wp2_with (at_builtin;refine Lib.wpList_copy_run _ rfl _ _ 32 9 rfl _ _ rfl rfl hcp ?_);go_ret;exact⟨rfl,rfl⟩
def zCf (w:World) (g:Nat) (s:ByteArray):Prop:=∀i v,(zCK s 77 88)[i]? =some v->w.cell? ⟨g,i,none⟩=some v
theorem zCf.row {w:World} {g:Nat} {s:ByteArray} (h:zCf w g s) (i:Nat) (hi:i<s.size):w.cell? ⟨g,0+i,none⟩=some (.int .u8 (nth s i)):=by
 rw[Nat.zero_add];exact h i _ (zPH s 77 88 i hi)
theorem zCf.made (w:World) (s:ByteArray):zCf (w.alloc (.cells (zCK s 77 88) 5)) w.heap.size s:=fun i v hv=>by
 rw[World.cell?_alloc_at _ _ _ _ rfl];exact hv
theorem zCf.alloc {w:World} {g:Nat} {s:ByteArray} (h:zCf w g s) (hg:g<w.heap.size) (o:Obj):zCf (w.alloc o) g s:=fun i v hv=>by
 rw[World.cell?_alloc_lt _ _ ⟨g,i,none⟩ hg];exact h i v hv
theorem zIJ (s:ByteArray) (g:Nat) (w:World) (hs:s.size<=262144) (hr:zCf w g s):
 Calls Tryz.prog 86 #[.slice (some ⟨g,0,none⟩) s.size (s.size+2),.string s] w fun e w'=>e= .returned (.bool true)/\w'=w:=by
 have hcv:=Lib.run_convert_whole (P:=Tryz.prog) w 32 5 9 Tryz.underlying32 Tryz.underlying5 Tryz.underlying9 g 0 s (fun i hi=>by rw[zA5 s i hi];exact hr.row i hi) (s.size+2);have c0:=hr s.size _ (zNb s 77 88);have c1:=hr (s.size+1) _ (zNc s 77 88);have l0:(s.size:Int)<(s.size:Int)+2:=by omega
 have l1:(s.size:Int)+1<(s.size:Int)+2:=by omega
 clear hr;go_enter Tryz.func86,Tryz.ntmps86;go_wp2;go_ret;exact⟨rfl,rfl⟩
end Go.Proofs.YtclpnafiiobfhaaGreatDoor
namespace Go.Proofs.YtclpnafiiobfhaaGreatDoor
open Go.ChangeShapes Go.WideShapes Go.RowKit
theorem Tryz.own:ownKnob Tryz.prog.godebug=none:=by kernel_rfl
theorem Tryz.et:Tryz.prog.globalNamed "errors.errorType"=some 0:=by kernel_rfl
theorem Tryz.rt:(Tryz.prog.cutTypes.find? (·.1 == "internal/reflectlite.rtype")).map (·.2)=some 207:=by kernel_rfl
theorem Tryz.oneRow:((List.range 418).filter fun t=>Tryz.prog.rowNamed t [101,114,114,111,114])=[52]:=by kernel_rfl
theorem Tryz.size:Tryz.prog.types.size=418:=by kernel_rfl
theorem zQv {W:World} (h:laidMetH Tryz.prog [("errors.errorType",Rows.laid_errors_errorType)] W):zBU W:=by
 have h':laidMet Tryz.prog [] W/\handlesMet Tryz.prog [("errors.errorType",Rows.laid_errors_errorType)] W:=h
 obtain⟨name,u,ty,e1,e2,e3,e4,e5⟩:=h'.2 _ (List.mem_singleton.2 rfl);have en:name=[101,114,114,111,114]:=(Option.some.inj e1).symm;subst en;obtain rfl:=Option.some.inj (Tryz.rt.symm.trans e2);have hm:ty ∈ (List.range 418).filter fun t=>Tryz.prog.rowNamed t [101,114,114,111,114]:=List.mem_filter.2 ⟨List.mem_range.2 (by rw[<-Tryz.size];exact e3),e4⟩
 rw[Tryz.oneRow] at hm;obtain rfl:=List.mem_singleton.1 hm;have hh:typeHandle Tryz.prog 52= .pointer (some ⟨7,52,none⟩):=by kernel_rfl
 rw[hh] at e5
 show W.cell? ⟨0,0,none⟩=_
 simpa using World.var?_cell Tryz.et e5 0
end Go.Proofs.YtclpnafiiobfhaaGreatDoor
namespace Go.Proofs.YtclpnafiiobfhaaGreatDoor
open Go.ChangeShapes Go.WideShapes Go.ChangeAt Go.RowKit
variable {H : Type} {enc : TypeId × Value → H}
theorem zJS {C:Checked} {os:Os} {f:FuncId} {fn:Func} {s:ChangeSpec} {zAy:List PathCond} {apart:Bool} {X:World->Array Value->Prop} (w0:World) (args:Array Value) (fuel:Nat) (hos:w0.os=os)
 (hs:(w0.forCall (fun _ _=>0) ⟨#[],args,[]⟩).Shaped C.prog)
 (hok:Input.okWideB C.prog (w0.forCall (fun _ _=>0) ⟨#[],args,[]⟩) f ⟨#[],args,[]⟩=true)
 (hpre:s.preB enc C.prog fn zAy apart (w0.forCall (fun _ _=>0) ⟨#[],args,[]⟩).memory args fuel=true)
 (hsz:s.sizedB enc C.prog fn apart (w0.forCall (fun _ _=>0) ⟨#[],args,[]⟩).memory args fuel=true)
 (hx:X (w0.forCall (fun _ _=>0) ⟨#[],args,[]⟩).memory args):
 ∃(w:World) (tape:Tape) (i:Input),w.os=os/\(w.forCall tape i).Shaped C.prog/\i.vars=[]/\Input.okWide C.prog (w.forCall tape i) .any w.heap.size f i/\
  ((s.pre enc C.prog fn zAy apart (w.forCall tape i).memory i.args/\X (w.forCall tape i).memory i.args)/\sizedMet enc C.prog fn (OpenSpec.ofChange s) apart (w.forCall tape i).memory i.args)/\({}:Assume).holds C.prog (lone (Frame.enter C.prog f i.args .normal) [] (w.forCall tape i)):=
 ⟨w0,fun _ _=>0,⟨#[],args,[]⟩,hos,hs,(Input.okWide_of_okWideB (base:=0) hok).1,(Input.okWide_of_okWideB hok).2,⟨⟨ChangeSpec.pre_of_preB hpre,hx⟩,sizedMet_of_sizedB hsz⟩,by
   simp only[Assume.holds];exact⟨by simp,by simp,by simp,by simp,by simp⟩⟩
theorem zQw {W:World} (h:W.ShapedOpen Tryz.prog):zBx W:=
 cell_of_shapedOpen_int (g:=1) (t:=3) (k:= .i64) (zero:= #[.int .i64 0]) h (Nat.lt_of_lt_of_eq (by decide:1<7) (by kernel_rfl)) (by kernel_rfl) rfl (by kernel_rfl) (by kernel_rfl) (by kernel_rfl)
end Go.Proofs.YtclpnafiiobfhaaGreatDoor

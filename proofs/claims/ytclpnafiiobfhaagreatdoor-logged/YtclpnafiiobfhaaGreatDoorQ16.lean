import Derived.Test.YtclpnafiiobfhaaGreatDoorQ15
set_option linter.unusedVariables false
set_option linter.unusedSimpArgs false
set_option maxHeartbeats 1600000
namespace Go.Proofs.YtclpnafiiobfhaaGreatDoor
open Go.RowKit
theorem Row.alloc {w:World} {b off:Nat} {s:ByteArray} (h:Row w b off s) (hb:b<w.heap.size) (o:Obj):Row (w.alloc o) b off s:=fun i hi=>by
 rw[World.cell?_alloc_lt _ _ _ (by simpa using hb)];exact h i hi
theorem Row.setCell {w:World} {b off:Nat} {s:ByteArray} (h:Row w b off s) {a:Addr} (ha:a.block≠b) (v:Value):Row (w.setCell a v) b off s:=fun i hi=>by
 rw[World.cell?_setCell_other _ _ _ _ (by intro e;apply ha;rw[e])];exact h i hi
theorem Row.drewN {w:World} {b off:Nat} {s:ByteArray} (h:Row w b off s) (n:Nat):Row (w.drewN n) b off s:=h
theorem Row.drew {w:World} {b off:Nat} {s:ByteArray} (h:Row w b off s):Row w.drew b off s:=h
theorem zCd (w:World) (n:Nat) (o:Obj):(w.drewN n).alloc o=(w.alloc o).drewN n:=rfl
theorem zBw (w:World) (n:Nat) (a:Addr) (v:Value):(w.drewN n).setCell a v=(w.setCell a v).drewN n:=rfl
theorem zHr (s:ByteArray) (b off cap:Nat) (w:World) (hs:s.size<=maxLen) (hr:Row w b off s) (hb:b<w.heap.size) (h:34<=s.size) (q6:(nth s 23 == 6)=true) (hz:54<=s.size):
 Calls Tryz.prog 147 #[.slice (some ⟨b,off,none⟩) s.size cap] w fun e w'=>e= .returned (.agg #[.int .u32 (zAB s 26 4),.int .u32 (zAB s 30 4),.int .u8 (nth s 23),.int .u16 (zAB s 34 2),.int .u16 (zAB s 36 2),.int .u8 (nth s 47 % 64)])/\Below w.heap.size w w':=by
 have hs':=hs;unfold maxLen at hs;have c23:=hr 23 (by omega);have b23:=zAN s 23;have l23:(23:Int)<(s.size:Int):=by omega
 have bn:=Nat.ne_of_lt hb;have bx0:w.heap.size≠b:=by omega
 have bx1:w.heap.size+1≠b:=by omega
 have bn1:b≠w.heap.size+1:=by omega
 have Hr:Hid (Row ((w.alloc (.cells #[.int .u32 0,.int .u32 0,.int .u8 0,.int .u16 0,.int .u16 0,.int .u8 0] 38)).alloc (.cells #[.int .u32 (zAB s 26 4),.int .u32 (zAB s 30 4),.int .u8 (nth s 23),.int .u16 0,.int .u16 0,.int .u8 0] 38)) b off s):=fun i hi=>by
  rw[World.cell?_alloc_lt _ _ _ (by simp;omega),World.cell?_alloc_lt _ _ _ (by simpa using hb)];exact hr i hi
 have Hw:=hid hr;have Hz:Hid (Row (w.alloc (.cells #[.int .u32 0,.int .u32 0,.int .u8 0,.int .u16 0,.int .u16 0,.int .u8 0] 38)) b off s):=fun i hi=>by
  rw[World.cell?_alloc_lt _ _ _ (by simpa using hb)];exact hr i hi
 have c47:=hr 47 (by omega);have b47:=zAN s 47;have a47:=zR8 (nth s 47) b47;have l47:(47:Int)<(s.size:Int):=by omega
 go_enter Tryz.func147,Tryz.ntmps147;go_upto_region 1 with fail
 go_cut [3] from 5 (fun v w'=>v= .pointer (some ⟨w.heap.size+1,0,none⟩)/\∃n,w'=((w.alloc (.cells #[.int .u32 0,.int .u32 0,.int .u8 0,.int .u16 0,.int .u16 0,.int .u8 0] 38)).alloc (.cells #[.int .u32 (zAB s 26 4),.int .u32 (zAB s 30 4),.int .u8 (nth s 23),.int .u16 0,.int .u16 0,.int .u8 0] 38)).drewN n)
 case first=>
  go_region_held3 (fun w'=>w'.cell? ⟨b,off+23,none⟩=some (.int .u8 (nth s 23))) (go_keep) (first|(go_at_call 173;refine(zDu s b off cap _ _ hs' ?hrow (by omega) (by omega)).mono ?_;(case hrow=>repeat (with_reducible first|exact Hw.out|refine Row.drewN ?_ _|refine Row.drew ?_|refine Row.alloc ?_ (by first|omega|(simp;done)|(simp;omega)) _));rintro e w' ⟨rfl,n1,rfl⟩;simp only[zLi,zLj]))
  all_goals
   go_wp2_with fail;go_meet;refine⟨rfl,?_⟩;simp[zCd,zBw,World.setCell_alloc_at,World.drewN_drewN];exact⟨_,rfl⟩
 case rest=>
  obtain⟨rfl,n0,rfl⟩:=hcut;go_wp2_with (first|(go_at_call 169;refine(zAm s b off cap _ _ hs' ?hrow (by omega) (by omega)).mono ?_;(case hrow=>repeat (with_reducible first|exact Hw.out|refine Row.drewN ?_ _|refine Row.drew ?_|refine Row.alloc ?_ (by first|omega|(simp;done)|(simp;omega)) _|refine Row.setCell ?_ (by first|omega|(simp;done)|(simp;omega)) _));rintro e w' ⟨rfl,n1,rfl⟩;simp only[zLk,zLl,zLU]));refine bodyPost_ret (v:= .agg #[.int .u32 (zAB s 26 4),.int .u32 (zAB s 30 4),.int .u8 (nth s 23),.int .u16 (zAB s 34 2),.int .u16 (zAB s 36 2),.int .u8 (nth s 47 % 64)]) (by simp[results,Tryz.results147,go_sem]) rfl ⟨rfl,?_⟩
  repeat (with_reducible first|exact Below.refl _ _|refine below_drewN ?_ _|refine Below.drew ?_|refine Below.alloc ?_ (by simp) _|refine Below.setCell ?_ (by simp) _)
theorem zHs (s:ByteArray) (b off cap:Nat) (w:World) (hs:s.size<=maxLen) (hr:Row w b off s) (hb:b<w.heap.size) (h:34<=s.size) (q6:(nth s 23 == 6)=false) (q17:(nth s 23 == 17)=true) (hz:42<=s.size):
 Calls Tryz.prog 147 #[.slice (some ⟨b,off,none⟩) s.size cap] w fun e w'=>e= .returned (.agg #[.int .u32 (zAB s 26 4),.int .u32 (zAB s 30 4),.int .u8 (nth s 23),.int .u16 (zAB s 34 2),.int .u16 (zAB s 36 2),.int .u8 0])/\Below w.heap.size w w':=by
 have hs':=hs;unfold maxLen at hs;have c23:=hr 23 (by omega);have b23:=zAN s 23;have l23:(23:Int)<(s.size:Int):=by omega
 have bn:=Nat.ne_of_lt hb;have bx0:w.heap.size≠b:=by omega
 have bx1:w.heap.size+1≠b:=by omega
 have bn1:b≠w.heap.size+1:=by omega
 have Hr:Hid (Row ((w.alloc (.cells #[.int .u32 0,.int .u32 0,.int .u8 0,.int .u16 0,.int .u16 0,.int .u8 0] 38)).alloc (.cells #[.int .u32 (zAB s 26 4),.int .u32 (zAB s 30 4),.int .u8 (nth s 23),.int .u16 0,.int .u16 0,.int .u8 0] 38)) b off s):=fun i hi=>by
  rw[World.cell?_alloc_lt _ _ _ (by simp;omega),World.cell?_alloc_lt _ _ _ (by simpa using hb)];exact hr i hi
 have Hw:=hid hr;have Hz:Hid (Row (w.alloc (.cells #[.int .u32 0,.int .u32 0,.int .u8 0,.int .u16 0,.int .u16 0,.int .u8 0] 38)) b off s):=fun i hi=>by
  rw[World.cell?_alloc_lt _ _ _ (by simpa using hb)];exact hr i hi
 skip
 go_enter Tryz.func147,Tryz.ntmps147;go_upto_region 1 with fail
 go_cut [3] from 5 (fun v w'=>v= .pointer (some ⟨w.heap.size+1,0,none⟩)/\∃n,w'=((w.alloc (.cells #[.int .u32 0,.int .u32 0,.int .u8 0,.int .u16 0,.int .u16 0,.int .u8 0] 38)).alloc (.cells #[.int .u32 (zAB s 26 4),.int .u32 (zAB s 30 4),.int .u8 (nth s 23),.int .u16 0,.int .u16 0,.int .u8 0] 38)).drewN n)
 case first=>
  go_region_held3 (fun w'=>w'.cell? ⟨b,off+23,none⟩=some (.int .u8 (nth s 23))) (go_keep) (first|(go_at_call 173;refine(zDu s b off cap _ _ hs' ?hrow (by omega) (by omega)).mono ?_;(case hrow=>repeat (with_reducible first|exact Hw.out|refine Row.drewN ?_ _|refine Row.drew ?_|refine Row.alloc ?_ (by first|omega|(simp;done)|(simp;omega)) _));rintro e w' ⟨rfl,n1,rfl⟩;simp only[zLi,zLj]))
  all_goals
   go_wp2_with fail;go_meet;refine⟨rfl,?_⟩;simp[zCd,zBw,World.setCell_alloc_at,World.drewN_drewN];exact⟨_,rfl⟩
 case rest=>
  obtain⟨rfl,n0,rfl⟩:=hcut;go_wp2_with (first|(go_at_call 169;refine(zAm s b off cap _ _ hs' ?hrow (by omega) (by omega)).mono ?_;(case hrow=>repeat (with_reducible first|exact Hw.out|refine Row.drewN ?_ _|refine Row.drew ?_|refine Row.alloc ?_ (by first|omega|(simp;done)|(simp;omega)) _|refine Row.setCell ?_ (by first|omega|(simp;done)|(simp;omega)) _));rintro e w' ⟨rfl,n1,rfl⟩;simp only[zLk,zLl,zLU]));refine bodyPost_ret (v:= .agg #[.int .u32 (zAB s 26 4),.int .u32 (zAB s 30 4),.int .u8 (nth s 23),.int .u16 (zAB s 34 2),.int .u16 (zAB s 36 2),.int .u8 0]) (by simp[results,Tryz.results147,go_sem]) rfl ⟨rfl,?_⟩
  repeat (with_reducible first|exact Below.refl _ _|refine below_drewN ?_ _|refine Below.drew ?_|refine Below.alloc ?_ (by simp) _|refine Below.setCell ?_ (by simp) _)
theorem zFt (s:ByteArray) (b off cap:Nat) (w:World) (hs:s.size<=maxLen) (hr:Row w b off s) (hb:b<w.heap.size) (h:34<=s.size) (q6:(nth s 23 == 6)=false) (q17:(nth s 23 == 17)=false) (q1:(nth s 23 == 1)=true) (qe:(nth s 34 == 8||nth s 34 == 0)=true) (hz:42<=s.size):
 Calls Tryz.prog 147 #[.slice (some ⟨b,off,none⟩) s.size cap] w fun e w'=>e= .returned (.agg #[.int .u32 (zAB s 26 4),.int .u32 (zAB s 30 4),.int .u8 (nth s 23),.int .u16 (zAB s 38 2),.int .u16 (zAB s 38 2),.int .u8 (nth s 34)])/\Below w.heap.size w w':=by
 have hs':=hs;unfold maxLen at hs;have c23:=hr 23 (by omega);have b23:=zAN s 23;have l23:(23:Int)<(s.size:Int):=by omega
 have bn:=Nat.ne_of_lt hb;have bx0:w.heap.size≠b:=by omega
 have bx1:w.heap.size+1≠b:=by omega
 have bn1:b≠w.heap.size+1:=by omega
 have Hr:Hid (Row ((w.alloc (.cells #[.int .u32 0,.int .u32 0,.int .u8 0,.int .u16 0,.int .u16 0,.int .u8 0] 38)).alloc (.cells #[.int .u32 (zAB s 26 4),.int .u32 (zAB s 30 4),.int .u8 (nth s 23),.int .u16 0,.int .u16 0,.int .u8 0] 38)) b off s):=fun i hi=>by
  rw[World.cell?_alloc_lt _ _ _ (by simp;omega),World.cell?_alloc_lt _ _ _ (by simpa using hb)];exact hr i hi
 have Hw:=hid hr;have Hz:Hid (Row (w.alloc (.cells #[.int .u32 0,.int .u32 0,.int .u8 0,.int .u16 0,.int .u16 0,.int .u8 0] 38)) b off s):=fun i hi=>by
  rw[World.cell?_alloc_lt _ _ _ (by simpa using hb)];exact hr i hi
 have c34:=hr 34 (by omega);have b34:=zAN s 34;have l34:(34:Int)<(s.size:Int):=by omega
 have HQ:=hid qe;clear qe;go_enter Tryz.func147,Tryz.ntmps147;go_upto_region 1 with fail
 go_cut [3] from 5 (fun v w'=>v= .pointer (some ⟨w.heap.size+1,0,none⟩)/\∃n,w'=((w.alloc (.cells #[.int .u32 0,.int .u32 0,.int .u8 0,.int .u16 0,.int .u16 0,.int .u8 0] 38)).alloc (.cells #[.int .u32 (zAB s 26 4),.int .u32 (zAB s 30 4),.int .u8 (nth s 23),.int .u16 0,.int .u16 0,.int .u8 0] 38)).drewN n)
 case first=>
  go_region_held3 (fun w'=>w'.cell? ⟨b,off+23,none⟩=some (.int .u8 (nth s 23))) (go_keep) (first|(go_at_call 173;refine(zDu s b off cap _ _ hs' ?hrow (by omega) (by omega)).mono ?_;(case hrow=>repeat (with_reducible first|exact Hw.out|refine Row.drewN ?_ _|refine Row.drew ?_|refine Row.alloc ?_ (by first|omega|(simp;done)|(simp;omega)) _));rintro e w' ⟨rfl,n1,rfl⟩;simp only[zLi,zLj]))
  all_goals
   go_wp2_with fail;go_meet;refine⟨rfl,?_⟩;simp[zCd,zBw,World.setCell_alloc_at,World.drewN_drewN];exact⟨_,rfl⟩
 case rest=>
  obtain⟨rfl,n0,rfl⟩:=hcut;go_wp2_with (first|(go_at_call 169;refine(zAm s b off cap _ _ hs' ?hrow (by omega) (by omega)).mono ?_;(case hrow=>repeat (with_reducible first|exact Hw.out|refine Row.drewN ?_ _|refine Row.drew ?_|refine Row.alloc ?_ (by first|omega|(simp;done)|(simp;omega)) _|refine Row.setCell ?_ (by first|omega|(simp;done)|(simp;omega)) _));rintro e w' ⟨rfl,n1,rfl⟩;simp only[zLk,zLl,zLU])|(go_at_call 174;refine(zHq _ _ _ HQ.out).mono ?_;rintro e w' ⟨rfl,rfl⟩));refine bodyPost_ret (v:= .agg #[.int .u32 (zAB s 26 4),.int .u32 (zAB s 30 4),.int .u8 (nth s 23),.int .u16 (zAB s 38 2),.int .u16 (zAB s 38 2),.int .u8 (nth s 34)]) (by simp[results,Tryz.results147,go_sem]) rfl ⟨rfl,?_⟩
  repeat (with_reducible first|exact Below.refl _ _|refine below_drewN ?_ _|refine Below.drew ?_|refine Below.alloc ?_ (by simp) _|refine Below.setCell ?_ (by simp) _)
theorem zFu (s:ByteArray) (b off cap:Nat) (w:World) (hs:s.size<=maxLen) (hr:Row w b off s) (hb:b<w.heap.size) (h:34<=s.size) (q6:(nth s 23 == 6)=false) (q17:(nth s 23 == 17)=false) (q1:(nth s 23 == 1)=true) (qe:(nth s 34 == 8||nth s 34 == 0)=false) (hz:42<=s.size):
 Calls Tryz.prog 147 #[.slice (some ⟨b,off,none⟩) s.size cap] w fun e w'=>e= .returned (.agg #[.int .u32 (zAB s 26 4),.int .u32 (zAB s 30 4),.int .u8 (nth s 23),.int .u16 0,.int .u16 0,.int .u8 (nth s 34)])/\Below w.heap.size w w':=by
 have hs':=hs;unfold maxLen at hs;have c23:=hr 23 (by omega);have b23:=zAN s 23;have l23:(23:Int)<(s.size:Int):=by omega
 have bn:=Nat.ne_of_lt hb;have bx0:w.heap.size≠b:=by omega
 have bx1:w.heap.size+1≠b:=by omega
 have bn1:b≠w.heap.size+1:=by omega
 have Hr:Hid (Row ((w.alloc (.cells #[.int .u32 0,.int .u32 0,.int .u8 0,.int .u16 0,.int .u16 0,.int .u8 0] 38)).alloc (.cells #[.int .u32 (zAB s 26 4),.int .u32 (zAB s 30 4),.int .u8 (nth s 23),.int .u16 0,.int .u16 0,.int .u8 0] 38)) b off s):=fun i hi=>by
  rw[World.cell?_alloc_lt _ _ _ (by simp;omega),World.cell?_alloc_lt _ _ _ (by simpa using hb)];exact hr i hi
 have Hw:=hid hr;have Hz:Hid (Row (w.alloc (.cells #[.int .u32 0,.int .u32 0,.int .u8 0,.int .u16 0,.int .u16 0,.int .u8 0] 38)) b off s):=fun i hi=>by
  rw[World.cell?_alloc_lt _ _ _ (by simpa using hb)];exact hr i hi
 have c34:=hr 34 (by omega);have b34:=zAN s 34;have l34:(34:Int)<(s.size:Int):=by omega
 have HQ:=hid qe;clear qe;go_enter Tryz.func147,Tryz.ntmps147;go_upto_region 1 with fail
 go_cut [3] from 5 (fun v w'=>v= .pointer (some ⟨w.heap.size+1,0,none⟩)/\∃n,w'=((w.alloc (.cells #[.int .u32 0,.int .u32 0,.int .u8 0,.int .u16 0,.int .u16 0,.int .u8 0] 38)).alloc (.cells #[.int .u32 (zAB s 26 4),.int .u32 (zAB s 30 4),.int .u8 (nth s 23),.int .u16 0,.int .u16 0,.int .u8 0] 38)).drewN n)
 case first=>
  go_region_held3 (fun w'=>w'.cell? ⟨b,off+23,none⟩=some (.int .u8 (nth s 23))) (go_keep) (first|(go_at_call 173;refine(zDu s b off cap _ _ hs' ?hrow (by omega) (by omega)).mono ?_;(case hrow=>repeat (with_reducible first|exact Hw.out|refine Row.drewN ?_ _|refine Row.drew ?_|refine Row.alloc ?_ (by first|omega|(simp;done)|(simp;omega)) _));rintro e w' ⟨rfl,n1,rfl⟩;simp only[zLi,zLj]))
  all_goals
   go_wp2_with fail;go_meet;refine⟨rfl,?_⟩;simp[zCd,zBw,World.setCell_alloc_at,World.drewN_drewN];exact⟨_,rfl⟩
 case rest=>
  obtain⟨rfl,n0,rfl⟩:=hcut;go_wp2_with (first|(go_at_call 169;refine(zAm s b off cap _ _ hs' ?hrow (by omega) (by omega)).mono ?_;(case hrow=>repeat (with_reducible first|exact Hw.out|refine Row.drewN ?_ _|refine Row.drew ?_|refine Row.alloc ?_ (by first|omega|(simp;done)|(simp;omega)) _|refine Row.setCell ?_ (by first|omega|(simp;done)|(simp;omega)) _));rintro e w' ⟨rfl,n1,rfl⟩;simp only[zLk,zLl,zLU])|(go_at_call 174;refine(zHq _ _ _ HQ.out).mono ?_;rintro e w' ⟨rfl,rfl⟩));refine bodyPost_ret (v:= .agg #[.int .u32 (zAB s 26 4),.int .u32 (zAB s 30 4),.int .u8 (nth s 23),.int .u16 0,.int .u16 0,.int .u8 (nth s 34)]) (by simp[results,Tryz.results147,go_sem]) rfl ⟨rfl,?_⟩
  repeat (with_reducible first|exact Below.refl _ _|refine below_drewN ?_ _|refine Below.drew ?_|refine Below.alloc ?_ (by simp) _|refine Below.setCell ?_ (by simp) _)
theorem zFv (s:ByteArray) (b off cap:Nat) (w:World) (hs:s.size<=maxLen) (hr:Row w b off s) (hb:b<w.heap.size) (h:34<=s.size) (q6:(nth s 23 == 6)=false) (q17:(nth s 23 == 17)=false) (q1:(nth s 23 == 1)=false):
 Calls Tryz.prog 147 #[.slice (some ⟨b,off,none⟩) s.size cap] w fun e w'=>e= .returned (.agg #[.int .u32 (zAB s 26 4),.int .u32 (zAB s 30 4),.int .u8 (nth s 23),.int .u16 0,.int .u16 0,.int .u8 0])/\Below w.heap.size w w':=by
 have hs':=hs;unfold maxLen at hs;have c23:=hr 23 (by omega);have b23:=zAN s 23;have l23:(23:Int)<(s.size:Int):=by omega
 have bn:=Nat.ne_of_lt hb;have bx0:w.heap.size≠b:=by omega
 have bx1:w.heap.size+1≠b:=by omega
 have bn1:b≠w.heap.size+1:=by omega
 have Hr:Hid (Row ((w.alloc (.cells #[.int .u32 0,.int .u32 0,.int .u8 0,.int .u16 0,.int .u16 0,.int .u8 0] 38)).alloc (.cells #[.int .u32 (zAB s 26 4),.int .u32 (zAB s 30 4),.int .u8 (nth s 23),.int .u16 0,.int .u16 0,.int .u8 0] 38)) b off s):=fun i hi=>by
  rw[World.cell?_alloc_lt _ _ _ (by simp;omega),World.cell?_alloc_lt _ _ _ (by simpa using hb)];exact hr i hi
 have Hw:=hid hr;have Hz:Hid (Row (w.alloc (.cells #[.int .u32 0,.int .u32 0,.int .u8 0,.int .u16 0,.int .u16 0,.int .u8 0] 38)) b off s):=fun i hi=>by
  rw[World.cell?_alloc_lt _ _ _ (by simpa using hb)];exact hr i hi
 skip
 go_enter Tryz.func147,Tryz.ntmps147;go_upto_region 1 with fail
 go_cut [3] from 5 (fun v w'=>v= .pointer (some ⟨w.heap.size+1,0,none⟩)/\∃n,w'=((w.alloc (.cells #[.int .u32 0,.int .u32 0,.int .u8 0,.int .u16 0,.int .u16 0,.int .u8 0] 38)).alloc (.cells #[.int .u32 (zAB s 26 4),.int .u32 (zAB s 30 4),.int .u8 (nth s 23),.int .u16 0,.int .u16 0,.int .u8 0] 38)).drewN n)
 case first=>
  go_region_held3 (fun w'=>w'.cell? ⟨b,off+23,none⟩=some (.int .u8 (nth s 23))) (go_keep) (first|(go_at_call 173;refine(zDu s b off cap _ _ hs' ?hrow (by omega) (by omega)).mono ?_;(case hrow=>repeat (with_reducible first|exact Hw.out|refine Row.drewN ?_ _|refine Row.drew ?_|refine Row.alloc ?_ (by first|omega|(simp;done)|(simp;omega)) _));rintro e w' ⟨rfl,n1,rfl⟩;simp only[zLi,zLj]))
  all_goals
   go_wp2_with fail;go_meet;refine⟨rfl,?_⟩;simp[zCd,zBw,World.setCell_alloc_at,World.drewN_drewN];exact⟨_,rfl⟩
 case rest=>
  obtain⟨rfl,n0,rfl⟩:=hcut;go_wp2_with (first|(go_at_call 169;refine(zAm s b off cap _ _ hs' ?hrow (by omega) (by omega)).mono ?_;(case hrow=>repeat (with_reducible first|exact Hw.out|refine Row.drewN ?_ _|refine Row.drew ?_|refine Row.alloc ?_ (by first|omega|(simp;done)|(simp;omega)) _|refine Row.setCell ?_ (by first|omega|(simp;done)|(simp;omega)) _));rintro e w' ⟨rfl,n1,rfl⟩;simp only[zLk,zLl,zLU]));refine bodyPost_ret (v:= .agg #[.int .u32 (zAB s 26 4),.int .u32 (zAB s 30 4),.int .u8 (nth s 23),.int .u16 0,.int .u16 0,.int .u8 0]) (by simp[results,Tryz.results147,go_sem]) rfl ⟨rfl,?_⟩
  repeat (with_reducible first|exact Below.refl _ _|refine below_drewN ?_ _|refine Below.drew ?_|refine Below.alloc ?_ (by simp) _|refine Below.setCell ?_ (by simp) _)
end Go.Proofs.YtclpnafiiobfhaaGreatDoor

import Derived.Test.YtclpnafiiobfhaaGreatDoorQ43
import Derived.Test.YtclpnafiiobfhaaGreatDoorQ17
set_option linter.unusedVariables false
set_option linter.unusedSimpArgs false
set_option maxHeartbeats 1600000
namespace Go.Proofs.YtclpnafiiobfhaaGreatDoor
open Go.RowKit
theorem zID (s:ByteArray) (w:World) (hs:s.size<=maxLen) (hc:(cls s !=0)=true):
 Calls Tryz.prog 12 #[.string s] w fun e w'=>e= .returned (.tuple #[.agg zN8,.int .u8 (cls s)])/\Below w.heap.size w w':=by
 go_enter Tryz.func12,Tryz.ntmps12;go_wp2_with (go_at_call 31;refine(zCJ s _ hs).mono ?_;rintro e w' ⟨rfl,rfl⟩);refine bodyPost_ret (v:= .tuple #[.agg zN8,.int .u8 (cls s)]) (by simp[results,Tryz.results12,go_sem,zN8]) rfl ⟨rfl,?_⟩
 repeat (with_reducible first|exact Below.refl _ _|refine Below.setCell ?_ (by simp) _|refine Below.alloc ?_ (by simp) _)
theorem zIE (s:ByteArray) (w:World) (hs:s.size<=maxLen) (h:34<=s.size) (hc:cls s=0) (q6:(nth s 23 == 6)=true) (hz:54<=s.size):
 Calls Tryz.prog 12 #[.string s] w fun e w'=>e= .returned (.tuple #[.agg #[.int .u32 (zAB s 26 4),.int .u32 (zAB s 30 4),.int .u8 (nth s 23),.int .u16 (zAB s 34 2),.int .u16 (zAB s 36 2),.int .u8 (nth s 47 % 64)],.int .u8 0])/\Below w.heap.size w w':=by
 have hs':=hs;unfold maxLen at hs;have e23:=zA5 s 23 (by omega);have b23:=zAN s 23;have b26:=zAt s 26 4 (by omega);have b30:=zAt s 30 4 (by omega);have b34':=zAD s 34;have b36:=zAD s 36;have b38:=zAD s 38;have HC:Hid (cls s=0):=hc;clear hc;have e47:=zA5 s 47 (by omega);have b47:=zAN s 47;go_enter Tryz.func12,Tryz.ntmps12;go_wp2_with (first|(go_at_call 31;refine(zCJ s _ hs').mono ?_;rintro e w' ⟨rfl,rfl⟩;rw[HC.out])|(go_at_call 32;refine(zBG s _ _ _ hs' (by omega) (by omega) (by omega) (by omega)).mono ?_;rintro e w' ⟨rfl,rfl⟩;simp only[tn2,tn4,zLi,zLj,zLk,zLl,zLU]));refine bodyPost_ret (v:= .tuple #[.agg #[.int .u32 (zAB s 26 4),.int .u32 (zAB s 30 4),.int .u8 (nth s 23),.int .u16 (zAB s 34 2),.int .u16 (zAB s 36 2),.int .u8 (nth s 47 % 64)],.int .u8 0]) (by simp[results,Tryz.results12,go_sem]) rfl ⟨rfl,?_⟩
 repeat (with_reducible first|exact Below.refl _ _|refine Below.setCell ?_ (by simp) _|refine Below.alloc ?_ (by simp) _)
theorem zIF (s:ByteArray) (w:World) (hs:s.size<=maxLen) (h:34<=s.size) (hc:cls s=0) (q6:(nth s 23 == 6)=false) (q17:(nth s 23 == 17)=true) (hz:42<=s.size):
 Calls Tryz.prog 12 #[.string s] w fun e w'=>e= .returned (.tuple #[.agg #[.int .u32 (zAB s 26 4),.int .u32 (zAB s 30 4),.int .u8 (nth s 23),.int .u16 (zAB s 34 2),.int .u16 (zAB s 36 2),.int .u8 0],.int .u8 0])/\Below w.heap.size w w':=by
 have hs':=hs;unfold maxLen at hs;have e23:=zA5 s 23 (by omega);have b23:=zAN s 23;have b26:=zAt s 26 4 (by omega);have b30:=zAt s 30 4 (by omega);have b34':=zAD s 34;have b36:=zAD s 36;have b38:=zAD s 38;have HC:Hid (cls s=0):=hc;clear hc;go_enter Tryz.func12,Tryz.ntmps12;go_wp2_with (first|(go_at_call 31;refine(zCJ s _ hs').mono ?_;rintro e w' ⟨rfl,rfl⟩;rw[HC.out])|(go_at_call 32;refine(zBG s _ _ _ hs' (by omega) (by omega) (by omega) (by omega)).mono ?_;rintro e w' ⟨rfl,rfl⟩;simp only[tn2,tn4,zLi,zLj,zLk,zLl,zLU]));refine bodyPost_ret (v:= .tuple #[.agg #[.int .u32 (zAB s 26 4),.int .u32 (zAB s 30 4),.int .u8 (nth s 23),.int .u16 (zAB s 34 2),.int .u16 (zAB s 36 2),.int .u8 0],.int .u8 0]) (by simp[results,Tryz.results12,go_sem]) rfl ⟨rfl,?_⟩
 repeat (with_reducible first|exact Below.refl _ _|refine Below.setCell ?_ (by simp) _|refine Below.alloc ?_ (by simp) _)
theorem zFw (s:ByteArray) (w:World) (hs:s.size<=maxLen) (h:34<=s.size) (hc:cls s=0) (q6:(nth s 23 == 6)=false) (q17:(nth s 23 == 17)=false) (q1:(nth s 23 == 1)=true) (qe:(nth s 34 == 8)=true) (hz:42<=s.size):
 Calls Tryz.prog 12 #[.string s] w fun e w'=>e= .returned (.tuple #[.agg #[.int .u32 (zAB s 26 4),.int .u32 (zAB s 30 4),.int .u8 (nth s 23),.int .u16 (zAB s 38 2),.int .u16 (zAB s 38 2),.int .u8 (nth s 34)],.int .u8 0])/\Below w.heap.size w w':=by
 have hs':=hs;unfold maxLen at hs;have e23:=zA5 s 23 (by omega);have b23:=zAN s 23;have b26:=zAt s 26 4 (by omega);have b30:=zAt s 30 4 (by omega);have b34':=zAD s 34;have b36:=zAD s 36;have b38:=zAD s 38;have HC:Hid (cls s=0):=hc;clear hc;have e34:=zA5 s 34 (by omega);have b34:=zAN s 34;go_enter Tryz.func12,Tryz.ntmps12;go_wp2_with (first|(go_at_call 31;refine(zCJ s _ hs').mono ?_;rintro e w' ⟨rfl,rfl⟩;rw[HC.out])|(go_at_call 32;refine(zBG s _ _ _ hs' (by omega) (by omega) (by omega) (by omega)).mono ?_;rintro e w' ⟨rfl,rfl⟩;simp only[tn2,tn4,zLi,zLj,zLk,zLl,zLU]));refine bodyPost_ret (v:= .tuple #[.agg #[.int .u32 (zAB s 26 4),.int .u32 (zAB s 30 4),.int .u8 (nth s 23),.int .u16 (zAB s 38 2),.int .u16 (zAB s 38 2),.int .u8 (nth s 34)],.int .u8 0]) (by simp[results,Tryz.results12,go_sem]) rfl ⟨rfl,?_⟩
 repeat (with_reducible first|exact Below.refl _ _|refine Below.setCell ?_ (by simp) _|refine Below.alloc ?_ (by simp) _)
theorem zFx (s:ByteArray) (w:World) (hs:s.size<=maxLen) (h:34<=s.size) (hc:cls s=0) (q6:(nth s 23 == 6)=false) (q17:(nth s 23 == 17)=false) (q1:(nth s 23 == 1)=true) (qe:(nth s 34 == 8)=false) (qf:(nth s 34 == 0)=true) (hz:42<=s.size):
 Calls Tryz.prog 12 #[.string s] w fun e w'=>e= .returned (.tuple #[.agg #[.int .u32 (zAB s 26 4),.int .u32 (zAB s 30 4),.int .u8 (nth s 23),.int .u16 (zAB s 38 2),.int .u16 (zAB s 38 2),.int .u8 (nth s 34)],.int .u8 0])/\Below w.heap.size w w':=by
 have hs':=hs;unfold maxLen at hs;have e23:=zA5 s 23 (by omega);have b23:=zAN s 23;have b26:=zAt s 26 4 (by omega);have b30:=zAt s 30 4 (by omega);have b34':=zAD s 34;have b36:=zAD s 36;have b38:=zAD s 38;have HC:Hid (cls s=0):=hc;clear hc;have e34:=zA5 s 34 (by omega);have b34:=zAN s 34;go_enter Tryz.func12,Tryz.ntmps12;go_wp2_with (first|(go_at_call 31;refine(zCJ s _ hs').mono ?_;rintro e w' ⟨rfl,rfl⟩;rw[HC.out])|(go_at_call 32;refine(zBG s _ _ _ hs' (by omega) (by omega) (by omega) (by omega)).mono ?_;rintro e w' ⟨rfl,rfl⟩;simp only[tn2,tn4,zLi,zLj,zLk,zLl,zLU]));refine bodyPost_ret (v:= .tuple #[.agg #[.int .u32 (zAB s 26 4),.int .u32 (zAB s 30 4),.int .u8 (nth s 23),.int .u16 (zAB s 38 2),.int .u16 (zAB s 38 2),.int .u8 (nth s 34)],.int .u8 0]) (by simp[results,Tryz.results12,go_sem]) rfl ⟨rfl,?_⟩
 repeat (with_reducible first|exact Below.refl _ _|refine Below.setCell ?_ (by simp) _|refine Below.alloc ?_ (by simp) _)
theorem zFy (s:ByteArray) (w:World) (hs:s.size<=maxLen) (h:34<=s.size) (hc:cls s=0) (q6:(nth s 23 == 6)=false) (q17:(nth s 23 == 17)=false) (q1:(nth s 23 == 1)=true) (qe:(nth s 34 == 8)=false) (qf:(nth s 34 == 0)=false) (hz:42<=s.size):
 Calls Tryz.prog 12 #[.string s] w fun e w'=>e= .returned (.tuple #[.agg #[.int .u32 (zAB s 26 4),.int .u32 (zAB s 30 4),.int .u8 (nth s 23),.int .u16 0,.int .u16 0,.int .u8 (nth s 34)],.int .u8 0])/\Below w.heap.size w w':=by
 have hs':=hs;unfold maxLen at hs;have e23:=zA5 s 23 (by omega);have b23:=zAN s 23;have b26:=zAt s 26 4 (by omega);have b30:=zAt s 30 4 (by omega);have b34':=zAD s 34;have b36:=zAD s 36;have b38:=zAD s 38;have HC:Hid (cls s=0):=hc;clear hc;have e34:=zA5 s 34 (by omega);have b34:=zAN s 34;go_enter Tryz.func12,Tryz.ntmps12;go_wp2_with (first|(go_at_call 31;refine(zCJ s _ hs').mono ?_;rintro e w' ⟨rfl,rfl⟩;rw[HC.out])|(go_at_call 32;refine(zBG s _ _ _ hs' (by omega) (by omega) (by omega) (by omega)).mono ?_;rintro e w' ⟨rfl,rfl⟩;simp only[tn2,tn4,zLi,zLj,zLk,zLl,zLU]));refine bodyPost_ret (v:= .tuple #[.agg #[.int .u32 (zAB s 26 4),.int .u32 (zAB s 30 4),.int .u8 (nth s 23),.int .u16 0,.int .u16 0,.int .u8 (nth s 34)],.int .u8 0]) (by simp[results,Tryz.results12,go_sem]) rfl ⟨rfl,?_⟩
 repeat (with_reducible first|exact Below.refl _ _|refine Below.setCell ?_ (by simp) _|refine Below.alloc ?_ (by simp) _)
theorem zFz (s:ByteArray) (w:World) (hs:s.size<=maxLen) (h:34<=s.size) (hc:cls s=0) (q6:(nth s 23 == 6)=false) (q17:(nth s 23 == 17)=false) (q1:(nth s 23 == 1)=false):
 Calls Tryz.prog 12 #[.string s] w fun e w'=>e= .returned (.tuple #[.agg #[.int .u32 (zAB s 26 4),.int .u32 (zAB s 30 4),.int .u8 (nth s 23),.int .u16 0,.int .u16 0,.int .u8 0],.int .u8 0])/\Below w.heap.size w w':=by
 have hs':=hs;unfold maxLen at hs;have e23:=zA5 s 23 (by omega);have b23:=zAN s 23;have b26:=zAt s 26 4 (by omega);have b30:=zAt s 30 4 (by omega);have b34':=zAD s 34;have b36:=zAD s 36;have b38:=zAD s 38;have HC:Hid (cls s=0):=hc;clear hc;go_enter Tryz.func12,Tryz.ntmps12;go_wp2_with (first|(go_at_call 31;refine(zCJ s _ hs').mono ?_;rintro e w' ⟨rfl,rfl⟩;rw[HC.out])|(go_at_call 32;refine(zBG s _ _ _ hs' (by omega) (by omega) (by omega) (by omega)).mono ?_;rintro e w' ⟨rfl,rfl⟩;simp only[tn2,tn4,zLi,zLj,zLk,zLl,zLU]));refine bodyPost_ret (v:= .tuple #[.agg #[.int .u32 (zAB s 26 4),.int .u32 (zAB s 30 4),.int .u8 (nth s 23),.int .u16 0,.int .u16 0,.int .u8 0],.int .u8 0]) (by simp[results,Tryz.results12,go_sem]) rfl ⟨rfl,?_⟩
 repeat (with_reducible first|exact Below.refl _ _|refine Below.setCell ?_ (by simp) _|refine Below.alloc ?_ (by simp) _)
theorem zDA (s:ByteArray) (w:World) (hs:s.size<=maxLen):
 Calls Tryz.prog 12 #[.string s] w fun e w'=>e= .returned (zA4 s)/\Below w.heap.size w w':=by
 by_cases hc:cls s=0
 ·rw[show zA4 s= .tuple #[.agg (hdr s),.int .u8 0] from by simp[zA4,hc]]
  obtain⟨h34,h20,hle,hin⟩:=zGw s hc
  by_cases p6:nth s 23=6
  ·have hz:54<=s.size:=by
    have:¬zAB s 16 2<40:=by intro h;simp[inn,p6,h] at hin
    omega
   have e:hdr s= #[.int .u32 (zAB s 26 4),.int .u32 (zAB s 30 4),.int .u8 (nth s 23),.int .u16 (zAB s 34 2),.int .u16 (zAB s 36 2),.int .u8 (nth s 47 % 64)]:=by simp[hdr,p6]
   rw[e];exact zIE s w hs h34 hc (by simp[p6]) hz
  by_cases p17:nth s 23=17
  ·have hz:42<=s.size:=by
    have:¬zAB s 16 2<28:=by intro h;simp[inn,p17,h] at hin
    omega
   have e:hdr s= #[.int .u32 (zAB s 26 4),.int .u32 (zAB s 30 4),.int .u8 (nth s 23),.int .u16 (zAB s 34 2),.int .u16 (zAB s 36 2),.int .u8 0]:=by simp[hdr,p17]
   rw[e];exact zIF s w hs h34 hc (by simp[p17]) (by simp[p17]) hz
  by_cases p1:nth s 23=1
  ·have hz:42<=s.size:=by
    have:¬zAB s 16 2<28:=by intro h;simp[inn,p1,h] at hin
    omega
   by_cases p8:nth s 34=8
   ·have e:hdr s= #[.int .u32 (zAB s 26 4),.int .u32 (zAB s 30 4),.int .u8 (nth s 23),.int .u16 (zAB s 38 2),.int .u16 (zAB s 38 2),.int .u8 (nth s 34)]:=by simp[hdr,p1,p8]
    rw[e];exact zFw s w hs h34 hc (by simp[p1]) (by simp[p1]) (by simp[p1]) (by simp[p8]) hz
   by_cases p0:nth s 34=0
   ·have e:hdr s= #[.int .u32 (zAB s 26 4),.int .u32 (zAB s 30 4),.int .u8 (nth s 23),.int .u16 (zAB s 38 2),.int .u16 (zAB s 38 2),.int .u8 (nth s 34)]:=by simp[hdr,p1,p0]
    rw[e];exact zFx s w hs h34 hc (by simp[p1]) (by simp[p1]) (by simp[p1]) (by simp[p8]) (by simp[p0]) hz
   ·have e:hdr s= #[.int .u32 (zAB s 26 4),.int .u32 (zAB s 30 4),.int .u8 (nth s 23),.int .u16 0,.int .u16 0,.int .u8 (nth s 34)]:=by simp[hdr,p1,p8,p0]
    rw[e];exact zFy s w hs h34 hc (by simp[p1]) (by simp[p1]) (by simp[p1]) (by simp[p8]) (by simp[p0]) hz
  ·have e:hdr s= #[.int .u32 (zAB s 26 4),.int .u32 (zAB s 30 4),.int .u8 (nth s 23),.int .u16 0,.int .u16 0,.int .u8 0]:=by simp[hdr,p6,p17,p1]
   rw[e];exact zFz s w hs h34 hc (by simp[p6]) (by simp[p17]) (by simp[p1])
 ·rw[show zA4 s= .tuple #[.agg zN8,.int .u8 (cls s)] from by simp[zA4,hc]]
  exact zID s w hs (by simpa using hc)
end Go.Proofs.YtclpnafiiobfhaaGreatDoor

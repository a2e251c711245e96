import Derived.Test.YtclpnafiiobfhaaGreatDoorQ01
set_option linter.unusedVariables false
set_option linter.unusedSimpArgs false
set_option maxHeartbeats 1600000
namespace Go.Proofs.YtclpnafiiobfhaaGreatDoor
open Go.RowKit
theorem zBG (s:ByteArray) (k n:Int) (w:World) (hs:s.size<=maxLen) (hk:0<=k) (hn:0<=n) (hn4:n<=4) (h:k+n<=s.size):
 Calls Tryz.prog 32 #[.string s,.int .i64 k,.int .i64 n] w fun e w'=>e= .returned (.int .i64 (zAB s k.toNat n.toNat))/\w'=w:=by
 unfold maxLen at hs;obtain⟨k,rfl⟩:=Int.eq_ofNat_of_zero_le hk;obtain⟨n,rfl⟩:=Int.eq_ofNat_of_zero_le hn;rw[Int.toNat_natCast,Int.toNat_natCast];go_enter Tryz.func32,Tryz.ntmps32;go_wp2;go_loop [7,8] (fun v i=>∃j:Nat,j<=n/\i= .int .i64 j/\v= .int .i64 (zAB s k j)) (fun _ i=>n-(intOf i).toNat)
 case atStart=>exact⟨0,Nat.zero_le _,rfl,rfl⟩
 case round=>
  obtain⟨j,hj,rfl,rfl⟩:=hrel;have hb:=zAt s k j (by omega)
  by_cases hlt:j<n
  ·have hx:=zA5 s (k+j) (by omega)
   have hy:=zAN s (k+j);go_wp2;go_round
   case rel=>exact⟨j+1,by omega,by go_num,rfl⟩
   case measure=>simp[intOf];omega
  ·have e:j=n:=by omega
   subst e;go_wp2;go_ret;exact⟨rfl,rfl⟩
theorem zDK (s:ByteArray) (w:World) (hs:s.size<=maxLen) (h:34<=s.size):
 Calls Tryz.prog 49 #[.string s] w fun e w'=>e= .returned (.int .i64 (zD7 (zBm s 10)))/\w'=w:=by
 go_enter Tryz.func49,Tryz.ntmps49;go_wp2;go_loop [3,4] (fun v i=>∃j:Nat,j<=10/\i= .int .i64 j/\v= .int .i64 (zBm s j)) (fun _ i=>10-(intOf i).toNat)
 case atStart=>exact⟨0,Nat.zero_le _,rfl,rfl⟩
 case round=>
  obtain⟨j,hj,rfl,rfl⟩:=hrel;have hb:=zGX s j
  by_cases hlt:j<10
  ·have hx:=zAD s (14+2*j)
   go_wp2_with (go_at_call 32;refine(zBG s _ 2 _ hs (by omega) (by omega) (by omega) (by omega)).mono ?_;rintro e w' ⟨rfl,rfl⟩;rw[show((14:Int)+2*(j:Int)).toNat=14+2*j from by omega,show((2:Int)).toNat=2 from rfl]);go_round
   case rel=>exact⟨j+1,by omega,by go_num,rfl⟩
   case measure=>simp[intOf];omega
  ·have e:j=10:=by omega
   subst e;go_wp2;go_loop [3] (fun v=>∃x:Int,0<=x/\x<=655350/\zD7 x=zD7 (zBm s 10)/\v= .int .i64 x) (fun v=>(intOf v).toNat)
   case atStart=>exact⟨_,by omega,by omega,rfl,rfl⟩
   case round=>
    obtain⟨x,hx0,hx1,hx2,rfl⟩:=hrel;have HX:=hid hx2;clear hx2
    by_cases hgt:65535<x
    ·go_wp2
     go_round
     case rel=>exact⟨_,by omega,by omega,by rw[zHI x hgt hx1];exact HX.out,rfl⟩
     case measure=>simp[intOf];omega
    ·go_wp2
     go_ret;exact⟨zDV (by rw[<-HX.out,zHH x (by omega)]),rfl⟩
theorem zIC (s:ByteArray) (t:Int) (w:World) (hs:s.size<=maxLen) (h:34<=s.size) (ht:t+14<=s.size) (ht0:20<=t):
 Calls Tryz.prog 50 #[.string s,.int .i64 t] w fun e w'=>e= .returned (.bool (inn s t))/\w'=w:=by
 have hs':=hs;unfold maxLen at hs;have e23:=zA5 s 23 (by omega);have b23:=zAN s 23
 by_cases p6:nth s 23=6
 ·have q6:(nth s 23 == 6)=true:=by simp[p6]
  by_cases t40:t<40
  ·have r:inn s t=true:=by simp[inn,p6,t40]
   rw[r];clear r p6;go_enter Tryz.func50,Tryz.ntmps50;go_wp2;go_ret;exact⟨rfl,rfl⟩
  ·have e46:=zA5 s 46 (by omega)
   have b46:=zAN s 46;have r:inn s t=(decide (nth s 46 / 16<5)||decide (t-20<4*(nth s 46 / 16))):=by simp[inn,p6,t40]
   rw[r];clear r p6
   by_cases n5:nth s 46 / 16<5
   all_goals
    go_enter Tryz.func50,Tryz.ntmps50;go_wp2;go_ret;exact⟨zAl (by first|(simp[n5];done)|(simp;omega)),rfl⟩
 ·have q6:(nth s 23 == 6)=false:=by simp[p6]
  by_cases p17:nth s 23=17
  ·have q17:(nth s 23 == 17)=true:=by simp[p17]
   by_cases t28:t<28
   ·have r:inn s t=true:=by simp[inn,p17,t28]
    rw[r];clear r p17 p6;go_enter Tryz.func50,Tryz.ntmps50;go_wp2;go_ret;exact⟨rfl,rfl⟩
   ·have r:inn s t=(decide (zAB s 38 2<8)||decide (t-20<zAB s 38 2)):=by simp[inn,p17,t28]
    have b38:=zAD s 38;rw[r];clear r p17 p6
    by_cases n8:zAB s 38 2<8
    all_goals
     go_enter Tryz.func50,Tryz.ntmps50;go_wp2_with (go_at_call 32;refine(zBG s 38 2 _ hs' (by omega) (by omega) (by omega) (by omega)).mono ?_;rintro e w' ⟨rfl,rfl⟩;rw[show((38:Int)).toNat=38 from rfl,show((2:Int)).toNat=2 from rfl]);go_ret;exact⟨zAl (by first|(simp[n8];done)|(simp;omega)),rfl⟩
  ·have q17:(nth s 23 == 17)=false:=by simp[p17]
   by_cases p1:nth s 23=1
   ·have q1:(nth s 23 == 1)=true:=by simp[p1]
    have r:inn s t=decide (t<28):=by simp[inn,p1]
    rw[r];clear r p17 p6 p1;go_enter Tryz.func50,Tryz.ntmps50;go_wp2;go_ret;exact⟨rfl,rfl⟩
   ·have q1:(nth s 23 == 1)=false:=by simp[p1]
    have r:inn s t=false:=by simp[inn,p1,p6,p17]
    rw[r];clear r p17 p6 p1;go_enter Tryz.func50,Tryz.ntmps50;go_wp2;go_ret;exact⟨rfl,rfl⟩
theorem zQh (s:ByteArray) (w:World) (hs:s.size<=maxLen) (c0:s.size<14):
 Calls Tryz.prog 31 #[.string s] w fun e w'=>e= .returned (.int .u8 1)/\w'=w:=by
 have hs':=hs;unfold maxLen at hs;go_enter Tryz.func31,Tryz.ntmps31;go_wp2_with (first|(go_at_call 32;refine(zBG s _ 2 _ hs' (by omega) (by omega) (by omega) (by omega)).mono ?_;rintro e w' ⟨rfl,rfl⟩;simp only[tn2,zEr,zEi,zEs]));go_ret;exact⟨rfl,rfl⟩
theorem zQi (s:ByteArray) (w:World) (hs:s.size<=maxLen) (c0:14<=s.size) (d1:(zAB s 12 2 !=2048)=true):
 Calls Tryz.prog 31 #[.string s] w fun e w'=>e= .returned (.int .u8 2)/\w'=w:=by
 have hs':=hs;unfold maxLen at hs;have b12:=zAD s 12;go_enter Tryz.func31,Tryz.ntmps31;go_wp2_with (first|(go_at_call 32;refine(zBG s _ 2 _ hs' (by omega) (by omega) (by omega) (by omega)).mono ?_;rintro e w' ⟨rfl,rfl⟩;simp only[tn2,zEr,zEi,zEs]));go_ret;exact⟨rfl,rfl⟩
theorem zQj (s:ByteArray) (w:World) (hs:s.size<=maxLen) (c0:14<=s.size) (d1:(zAB s 12 2 !=2048)=false) (c2:s.size<34):
 Calls Tryz.prog 31 #[.string s] w fun e w'=>e= .returned (.int .u8 3)/\w'=w:=by
 have hs':=hs;unfold maxLen at hs;have b12:=zAD s 12;go_enter Tryz.func31,Tryz.ntmps31;go_wp2_with (first|(go_at_call 32;refine(zBG s _ 2 _ hs' (by omega) (by omega) (by omega) (by omega)).mono ?_;rintro e w' ⟨rfl,rfl⟩;simp only[tn2,zEr,zEi,zEs]));go_ret;exact⟨rfl,rfl⟩
theorem zQk (s:ByteArray) (w:World) (hs:s.size<=maxLen) (c0:14<=s.size) (d1:(zAB s 12 2 !=2048)=false) (c2:34<=s.size) (d3:(nth s 14 / 16 !=4)=true):
 Calls Tryz.prog 31 #[.string s] w fun e w'=>e= .returned (.int .u8 4)/\w'=w:=by
 have hs':=hs;unfold maxLen at hs;have b12:=zAD s 12;have e14:=zA5 s 14 (by omega);have b14:=zAN s 14;go_enter Tryz.func31,Tryz.ntmps31;go_wp2_with (first|(go_at_call 32;refine(zBG s _ 2 _ hs' (by omega) (by omega) (by omega) (by omega)).mono ?_;rintro e w' ⟨rfl,rfl⟩;simp only[tn2,zEr,zEi,zEs]));go_ret;exact⟨rfl,rfl⟩
theorem zQl (s:ByteArray) (w:World) (hs:s.size<=maxLen) (c0:14<=s.size) (d1:(zAB s 12 2 !=2048)=false) (c2:34<=s.size) (d3:(nth s 14 / 16 !=4)=false) (d4:(nth s 14 % 16 !=5)=true):
 Calls Tryz.prog 31 #[.string s] w fun e w'=>e= .returned (.int .u8 5)/\w'=w:=by
 have hs':=hs;unfold maxLen at hs;have b12:=zAD s 12;have e14:=zA5 s 14 (by omega);have b14:=zAN s 14;go_enter Tryz.func31,Tryz.ntmps31;go_wp2_with (first|(go_at_call 32;refine(zBG s _ 2 _ hs' (by omega) (by omega) (by omega) (by omega)).mono ?_;rintro e w' ⟨rfl,rfl⟩;simp only[tn2,zEr,zEi,zEs]));go_ret;exact⟨rfl,rfl⟩
theorem zQm (s:ByteArray) (w:World) (hs:s.size<=maxLen) (c0:14<=s.size) (d1:(zAB s 12 2 !=2048)=false) (c2:34<=s.size) (d3:(nth s 14 / 16 !=4)=false) (d4:(nth s 14 % 16 !=5)=false) (c5:zAB s 16 2<20):
 Calls Tryz.prog 31 #[.string s] w fun e w'=>e= .returned (.int .u8 6)/\w'=w:=by
 have hs':=hs;unfold maxLen at hs;have b12:=zAD s 12;have e14:=zA5 s 14 (by omega);have b14:=zAN s 14;have b16:=zAD s 16;go_enter Tryz.func31,Tryz.ntmps31;go_wp2_with (first|(go_at_call 32;refine(zBG s _ 2 _ hs' (by omega) (by omega) (by omega) (by omega)).mono ?_;rintro e w' ⟨rfl,rfl⟩;simp only[tn2,zEr,zEi,zEs]));go_ret;exact⟨rfl,rfl⟩
theorem zQn (s:ByteArray) (w:World) (hs:s.size<=maxLen) (c0:14<=s.size) (d1:(zAB s 12 2 !=2048)=false) (c2:34<=s.size) (d3:(nth s 14 / 16 !=4)=false) (d4:(nth s 14 % 16 !=5)=false) (c5:20<=zAB s 16 2) (c6:(s.size:Int)-14<zAB s 16 2):
 Calls Tryz.prog 31 #[.string s] w fun e w'=>e= .returned (.int .u8 6)/\w'=w:=by
 have hs':=hs;unfold maxLen at hs;have b12:=zAD s 12;have e14:=zA5 s 14 (by omega);have b14:=zAN s 14;have b16:=zAD s 16;go_enter Tryz.func31,Tryz.ntmps31;go_wp2_with (first|(go_at_call 32;refine(zBG s _ 2 _ hs' (by omega) (by omega) (by omega) (by omega)).mono ?_;rintro e w' ⟨rfl,rfl⟩;simp only[tn2,zEr,zEi,zEs]));go_ret;exact⟨rfl,rfl⟩
theorem zQo (s:ByteArray) (w:World) (hs:s.size<=maxLen) (c0:14<=s.size) (d1:(zAB s 12 2 !=2048)=false) (c2:34<=s.size) (d3:(nth s 14 / 16 !=4)=false) (d4:(nth s 14 % 16 !=5)=false) (c5:20<=zAB s 16 2) (c6:zAB s 16 2<=(s.size:Int)-14) (d7:(zD7 (zBm s 10) !=65535)=true):
 Calls Tryz.prog 31 #[.string s] w fun e w'=>e= .returned (.int .u8 7)/\w'=w:=by
 have hs':=hs;unfold maxLen at hs;have b12:=zAD s 12;have e14:=zA5 s 14 (by omega);have b14:=zAN s 14;have b16:=zAD s 16;have bf:=zCw s;go_enter Tryz.func31,Tryz.ntmps31;go_wp2_with (first|(go_at_call 32;refine(zBG s _ 2 _ hs' (by omega) (by omega) (by omega) (by omega)).mono ?_;rintro e w' ⟨rfl,rfl⟩;simp only[tn2,zEr,zEi,zEs])|(go_at_call 49;refine(zDK s _ hs' (by omega)).mono ?_;rintro e w' ⟨rfl,rfl⟩));go_ret;exact⟨rfl,rfl⟩
theorem zQp (s:ByteArray) (w:World) (hs:s.size<=maxLen) (c0:14<=s.size) (d1:(zAB s 12 2 !=2048)=false) (c2:34<=s.size) (d3:(nth s 14 / 16 !=4)=false) (d4:(nth s 14 % 16 !=5)=false) (c5:20<=zAB s 16 2) (c6:zAB s 16 2<=(s.size:Int)-14) (d7:(zD7 (zBm s 10) !=65535)=false) (d8:(zAB s 20 2 % 16384 !=0)=true):
 Calls Tryz.prog 31 #[.string s] w fun e w'=>e= .returned (.int .u8 8)/\w'=w:=by
 have hs':=hs;unfold maxLen at hs;have b12:=zAD s 12;have e14:=zA5 s 14 (by omega);have b14:=zAN s 14;have b16:=zAD s 16;have bf:=zCw s;have b20:=zAD s 20;go_enter Tryz.func31,Tryz.ntmps31;go_wp2_with (first|(go_at_call 32;refine(zBG s _ 2 _ hs' (by omega) (by omega) (by omega) (by omega)).mono ?_;rintro e w' ⟨rfl,rfl⟩;simp only[tn2,zEr,zEi,zEs])|(go_at_call 49;refine(zDK s _ hs' (by omega)).mono ?_;rintro e w' ⟨rfl,rfl⟩));go_ret;exact⟨rfl,rfl⟩
theorem zQq (s:ByteArray) (w:World) (hs:s.size<=maxLen) (c0:14<=s.size) (d1:(zAB s 12 2 !=2048)=false) (c2:34<=s.size) (d3:(nth s 14 / 16 !=4)=false) (d4:(nth s 14 % 16 !=5)=false) (c5:20<=zAB s 16 2) (c6:zAB s 16 2<=(s.size:Int)-14) (d7:(zD7 (zBm s 10) !=65535)=false) (d8:(zAB s 20 2 % 16384 !=0)=false) (d9:inn s (zAB s 16 2)=true):
 Calls Tryz.prog 31 #[.string s] w fun e w'=>e= .returned (.int .u8 9)/\w'=w:=by
 have hs':=hs;unfold maxLen at hs;have b12:=zAD s 12;have e14:=zA5 s 14 (by omega);have b14:=zAN s 14;have b16:=zAD s 16;have bf:=zCw s;have b20:=zAD s 20;go_enter Tryz.func31,Tryz.ntmps31;go_wp2_with (first|(go_at_call 32;refine(zBG s _ 2 _ hs' (by omega) (by omega) (by omega) (by omega)).mono ?_;rintro e w' ⟨rfl,rfl⟩;simp only[tn2,zEr,zEi,zEs])|(go_at_call 49;refine(zDK s _ hs' (by omega)).mono ?_;rintro e w' ⟨rfl,rfl⟩)|(go_at_call 50;refine(zIC s _ _ hs' (by omega) (by omega) (by omega)).mono ?_;rintro e w' ⟨rfl,rfl⟩));go_ret;exact⟨rfl,rfl⟩
theorem zO8 (s:ByteArray) (w:World) (hs:s.size<=maxLen) (c0:14<=s.size) (d1:(zAB s 12 2 !=2048)=false) (c2:34<=s.size) (d3:(nth s 14 / 16 !=4)=false) (d4:(nth s 14 % 16 !=5)=false) (c5:20<=zAB s 16 2) (c6:zAB s 16 2<=(s.size:Int)-14) (d7:(zD7 (zBm s 10) !=65535)=false) (d8:(zAB s 20 2 % 16384 !=0)=false) (d9:inn s (zAB s 16 2)=false):
 Calls Tryz.prog 31 #[.string s] w fun e w'=>e= .returned (.int .u8 0)/\w'=w:=by
 have hs':=hs;unfold maxLen at hs;have b12:=zAD s 12;have e14:=zA5 s 14 (by omega);have b14:=zAN s 14;have b16:=zAD s 16;have bf:=zCw s;have b20:=zAD s 20;go_enter Tryz.func31,Tryz.ntmps31;go_wp2_with (first|(go_at_call 32;refine(zBG s _ 2 _ hs' (by omega) (by omega) (by omega) (by omega)).mono ?_;rintro e w' ⟨rfl,rfl⟩;simp only[tn2,zEr,zEi,zEs])|(go_at_call 49;refine(zDK s _ hs' (by omega)).mono ?_;rintro e w' ⟨rfl,rfl⟩)|(go_at_call 50;refine(zIC s _ _ hs' (by omega) (by omega) (by omega)).mono ?_;rintro e w' ⟨rfl,rfl⟩));go_ret;exact⟨rfl,rfl⟩
theorem zCJ (s:ByteArray) (w:World) (hs:s.size<=maxLen):
 Calls Tryz.prog 31 #[.string s] w fun e w'=>e= .returned (.int .u8 (cls s))/\w'=w:=by
 by_cases c0:s.size<14
 ·rw[show cls s=1 from by simp[cls,c0]];exact zQh s w hs c0
 by_cases c1:¬zAB s 12 2=2048
 ·rw[show cls s=2 from by simp[cls,c0,c1]];exact zQi s w hs (by omega) (by simp[c1])
 have d1:(zAB s 12 2 !=2048)=false:=by simpa using c1
 by_cases c2:s.size<34
 ·rw[show cls s=3 from by simp[cls,c0,c1,c2]];exact zQj s w hs (by omega) d1 c2
 by_cases c3:¬nth s 14 / 16=4
 ·rw[show cls s=4 from by simp[cls,c0,c1,c2,c3]];exact zQk s w hs (by omega) d1 (by omega) (by simp[c3])
 have d3:(nth s 14 / 16 !=4)=false:=by simpa using c3
 by_cases c4:¬nth s 14 % 16=5
 ·rw[show cls s=5 from by simp[cls,c0,c1,c2,c3,c4]];exact zQl s w hs (by omega) d1 (by omega) d3 (by simp[c4])
 have d4:(nth s 14 % 16 !=5)=false:=by simpa using c4
 by_cases c5:zAB s 16 2<20
 ·rw[show cls s=6 from by simp[cls,c0,c1,c2,c3,c4,c5]];exact zQm s w hs (by omega) d1 (by omega) d3 d4 c5
 by_cases c6:(s.size:Int)-14<zAB s 16 2
 ·rw[show cls s=6 from by simp[cls,c0,c1,c2,c3,c4,c5,c6]];exact zQn s w hs (by omega) d1 (by omega) d3 d4 (by omega) c6
 by_cases c7:¬zD7 (zBm s 10)=65535
 ·rw[show cls s=7 from by simp[cls,c0,c1,c2,c3,c4,c5,c6,c7]];exact zQo s w hs (by omega) d1 (by omega) d3 d4 (by omega) (by omega) (by simp[c7])
 have d7:(zD7 (zBm s 10) !=65535)=false:=by simpa using c7
 by_cases c8:¬zAB s 20 2 % 16384=0
 ·rw[show cls s=8 from by simp[cls,c0,c1,c2,c3,c4,c5,c6,c7,c8]];exact zQp s w hs (by omega) d1 (by omega) d3 d4 (by omega) (by omega) d7 (by simp[c8])
 have d8:(zAB s 20 2 % 16384 !=0)=false:=by simpa using c8
 by_cases c9:inn s (zAB s 16 2)=true
 ·rw[show cls s=9 from by simp[cls,c0,c1,c2,c3,c4,c5,c6,c7,c8,c9]];exact zQq s w hs (by omega) d1 (by omega) d3 d4 (by omega) (by omega) d7 d8 c9
 rw[show cls s=0 from by simp[cls,c0,c1,c2,c3,c4,c5,c6,c7,c8,c9]];exact zO8 s w hs (by omega) d1 (by omega) d3 d4 (by omega) (by omega) d7 d8 (by simpa using c9)
end Go.Proofs.YtclpnafiiobfhaaGreatDoor

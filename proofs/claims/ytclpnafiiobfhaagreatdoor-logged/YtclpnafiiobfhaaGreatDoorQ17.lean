import Derived.Test.YtclpnafiiobfhaaGreatDoorQ16
set_option linter.unusedVariables false
set_option linter.unusedSimpArgs false
set_option maxHeartbeats 800000
namespace Go.Proofs.YtclpnafiiobfhaaGreatDoor
open Go.RowKit
theorem zGw (s:ByteArray) (h:cls s=0):34<=s.size/\20<=zAB s 16 2/\zAB s 16 2<=(s.size:Int)-14/\inn s (zAB s 16 2)=false:=by
 unfold cls at h
 repeat' split at h
 all_goals first|omega|skip
 rename_i c1 c2 c3 c4 c5 c6 c7 c8 c9
 refine⟨by omega,by omega,by omega,by simpa using c9⟩
def zA4 (s:ByteArray):Value:= .tuple #[.agg (if cls s=0 then hdr s else zN8),.int .u8 (cls s)]
theorem zHt (s:ByteArray) (b off cap:Nat) (w:World) (hs:s.size<=maxLen) (hr:Row w b off s) (hb:b<w.heap.size) (hc:cls s=0):
 Calls Tryz.prog 147 #[.slice (some ⟨b,off,none⟩) s.size cap] w fun e w'=>e= .returned (.agg (hdr s))/\Below w.heap.size w w':=by
 obtain⟨h34,h20,hle,hin⟩:=zGw s hc
 by_cases p6:nth s 23=6
 ·have hz:54<=s.size:=by
   have:¬zAB s 16 2<40:=by intro h;simp[inn,p6,h] at hin
   omega
  have e:hdr s= #[.int .u32 (zAB s 26 4),.int .u32 (zAB s 30 4),.int .u8 (nth s 23),.int .u16 (zAB s 34 2),.int .u16 (zAB s 36 2),.int .u8 (nth s 47 % 64)]:=by simp[hdr,p6]
  rw[e];exact zHr s b off cap w hs hr hb h34 (by simp[p6]) hz
 by_cases p17:nth s 23=17
 ·have hz:42<=s.size:=by
   have:¬zAB s 16 2<28:=by intro h;simp[inn,p17,h] at hin
   omega
  have e:hdr s= #[.int .u32 (zAB s 26 4),.int .u32 (zAB s 30 4),.int .u8 (nth s 23),.int .u16 (zAB s 34 2),.int .u16 (zAB s 36 2),.int .u8 0]:=by simp[hdr,p17]
  rw[e];exact zHs s b off cap w hs hr hb h34 (by simp[p17]) (by simp[p17]) hz
 by_cases p1:nth s 23=1
 ·have hz:42<=s.size:=by
   have:¬zAB s 16 2<28:=by intro h;simp[inn,p1,h] at hin
   omega
  by_cases pe:nth s 34=8\/nth s 34=0
  ·have e:hdr s= #[.int .u32 (zAB s 26 4),.int .u32 (zAB s 30 4),.int .u8 (nth s 23),.int .u16 (zAB s 38 2),.int .u16 (zAB s 38 2),.int .u8 (nth s 34)]:=by simp[hdr,p1,pe]
   rw[e];exact zFt s b off cap w hs hr hb h34 (by simp[p1]) (by simp[p1]) (by simp[p1]) (by simpa using pe) hz
  ·have e:hdr s= #[.int .u32 (zAB s 26 4),.int .u32 (zAB s 30 4),.int .u8 (nth s 23),.int .u16 0,.int .u16 0,.int .u8 (nth s 34)]:=by simp[hdr,p1,pe]
   rw[e];exact zFu s b off cap w hs hr hb h34 (by simp[p1]) (by simp[p1]) (by simp[p1]) (by simpa using pe) hz
 ·have e:hdr s= #[.int .u32 (zAB s 26 4),.int .u32 (zAB s 30 4),.int .u8 (nth s 23),.int .u16 0,.int .u16 0,.int .u8 0]:=by simp[hdr,p6,p17,p1]
  rw[e];exact zFv s b off cap w hs hr hb h34 (by simp[p6]) (by simp[p17]) (by simp[p1])
theorem zJE (s:ByteArray) (b off cap:Nat) (w:World) (hs:s.size<=maxLen) (hr:Row w b off s) (hb:b<w.heap.size) (hc:(cls s !=0)=true):
 Calls Tryz.prog 127 #[.slice (some ⟨b,off,none⟩) s.size cap] w fun e w'=>e= .returned (.tuple #[.agg zN8,.int .u8 (cls s)])/\Below w.heap.size w w':=by
 have Hr:=hid hr;clear hr;go_enter Tryz.func127,Tryz.ntmps127;go_wp2_with fail;refine(zFS s b off cap _ hs (Hr.out.alloc hb _)).mono ?_;rintro e w1 ⟨rfl,n,rfl⟩;go_wp2;refine bodyPost_ret (v:= .tuple #[.agg zN8,.int .u8 (cls s)]) (by simp[results,Tryz.results127,go_sem,zN8]) rfl ⟨rfl,?_⟩
 repeat (with_reducible first|exact Below.refl _ _|refine below_drewN ?_ _|refine Below.setCell ?_ (by simp) _|refine Below.alloc ?_ (by simp) _)
theorem zHu (s:ByteArray) (b off cap:Nat) (w:World) (hs:s.size<=maxLen) (hr:Row w b off s) (hb:b<w.heap.size) (hc:cls s=0):
 Calls Tryz.prog 127 #[.slice (some ⟨b,off,none⟩) s.size cap] w fun e w'=>e= .returned (.tuple #[.agg (hdr s),.int .u8 0])/\Below w.heap.size w w':=by
 have Hr:=hid hr;have Hc:Hid (cls s=0):=hc;have hq:(cls s !=0)=false:=by simp[hc]
 obtain⟨x0,x1,x2,x3,x4,x5,hx⟩:∃x0 x1 x2 x3 x4 x5:Int,hdr s= #[.int .u32 x0,.int .u32 x1,.int .u8 x2,.int .u16 x3,.int .u16 x4,.int .u8 x5]:=⟨_,_,_,_,_,_,rfl⟩;have HX:=Hid.out (p:=True) trivial;clear hr hc HX;rw[hx];have HX:=hid hx;clear hx;go_enter Tryz.func127,Tryz.ntmps127;go_wp2_with fail;refine(zFS s b off cap _ hs (Hr.out.alloc hb _)).mono ?_;rintro e w1 ⟨rfl,n,rfl⟩;go_wp2_with fail;refine(zHt s b off cap _ hs ((Hr.out.alloc hb _).drewN _) (by simp;omega) Hc.out).mono ?_;rintro e w1 ⟨rfl,hb1⟩;rw[HX.out];have hsz:=hb1.size;have q0:=hb1.cell (p:=⟨w.heap.size,0,none⟩) (by simp);have q1:=hb1.cell (p:=⟨w.heap.size,1,none⟩) (by simp);have q2:=hb1.cell (p:=⟨w.heap.size,2,none⟩) (by simp);have q3:=hb1.cell (p:=⟨w.heap.size,3,none⟩) (by simp);have q4:=hb1.cell (p:=⟨w.heap.size,4,none⟩) (by simp);have q5:=hb1.cell (p:=⟨w.heap.size,5,none⟩) (by simp);have f0:=hb1.frozen (p:=⟨w.heap.size,0,none⟩) (by simp);have f1:=hb1.frozen (p:=⟨w.heap.size,1,none⟩) (by simp);have f2:=hb1.frozen (p:=⟨w.heap.size,2,none⟩) (by simp);have f3:=hb1.frozen (p:=⟨w.heap.size,3,none⟩) (by simp);have f4:=hb1.frozen (p:=⟨w.heap.size,4,none⟩) (by simp);have f5:=hb1.frozen (p:=⟨w.heap.size,5,none⟩) (by simp);simp at q0 q1 q2 q3 q4 q5 f0 f1 f2 f3 f4 f5 hsz;have HB:Hid (Below w.heap.size w w1):=by
  refine Below.trans ?_ (hb1.mono (by simp))
  repeat (with_reducible first|exact Below.refl _ _|refine below_drewN ?_ _|refine Below.alloc ?_ (by simp) _)
 clear hb1;go_wp2;refine bodyPost_ret (v:= .tuple #[.agg #[.int .u32 x0,.int .u32 x1,.int .u8 x2,.int .u16 x3,.int .u16 x4,.int .u8 x5],.int .u8 0]) (by simp[results,Tryz.results127,go_sem, *]) rfl ⟨rfl,?_⟩
 repeat (with_reducible first|exact HB.out|refine below_drewN ?_ _|refine Below.setCell ?_ (by simp) _)
theorem zFT (s:ByteArray) (b off cap:Nat) (w:World) (hs:s.size<=maxLen) (hr:Row w b off s) (hb:b<w.heap.size):
 Calls Tryz.prog 127 #[.slice (some ⟨b,off,none⟩) s.size cap] w fun e w'=>e= .returned (zA4 s)/\Below w.heap.size w w':=by
 by_cases hc:cls s=0
 ·rw[show zA4 s= .tuple #[.agg (hdr s),.int .u8 0] from by simp[zA4,hc]]
  exact zHu s b off cap w hs hr hb hc
 ·rw[show zA4 s= .tuple #[.agg zN8,.int .u8 (cls s)] from by simp[zA4,hc]]
  exact zJE s b off cap w hs hr hb (by simpa using hc)
def zCL (x:Ins):Value:= .agg #[.int .u8 x.op,.int .u8 x.r,.int .u8 x.t,.int .u8 x.f,.int .u32 x.k]
def zEE (x:Ins):Obj:= .cells #[.int .u8 x.op,.int .u8 x.r,.int .u8 x.t,.int .u8 x.f,.int .u32 x.k] 250
theorem zEa (x:Ins) (w:World):
 Calls Tryz.prog 219 #[zCL x] w fun e w'=>e= .returned (.bool x.branch)/\w'=w.alloc (zEE x):=by
 obtain⟨op,r,t,f,k⟩:=x;unfold zCL zEE Ins.branch;cases h8:op == 8
 ·cases h9:op == 9
  all_goals
   go_enter Tryz.func219,Tryz.ntmps219;go_wp2;go_ret;exact⟨zAl (by simp[h8,h9]),rfl⟩
 ·go_enter Tryz.func219,Tryz.ntmps219
  go_wp2;go_ret;exact⟨zAl (by simp[h8]),rfl⟩
theorem zCo (x:Ins) (b:Bool) (w:World) (h:x.branch=b):
 Calls Tryz.prog 219 #[zCL x] w fun e w'=>e= .returned (.bool b)/\w'=w.alloc (zEE x):=by
 rw[<-h];exact zEa x w
theorem zKq (x:Ins) (w:World):
 Calls Tryz.prog 203 #[zCL x] w fun e w'=>e= .returned (.bool x.load)/\w'=w.alloc (zEE x):=by
 obtain⟨op,r,t,f,k⟩:=x;unfold zCL zEE Ins.load;cases h8:op == 1
 ·cases h9:op == 2
  all_goals
   go_enter Tryz.func203,Tryz.ntmps203;go_wp2;go_ret;exact⟨zAl (by simp[h8,h9]),rfl⟩
 ·go_enter Tryz.func203,Tryz.ntmps203
  go_wp2;go_ret;exact⟨zAl (by simp[h8]),rfl⟩
theorem zFU (x:Ins) (b:Bool) (w:World) (h:x.load=b):
 Calls Tryz.prog 203 #[zCL x] w fun e w'=>e= .returned (.bool b)/\w'=w.alloc (zEE x):=by
 rw[<-h];exact zKq x w
theorem zOd (x:Ins) (w:World):
 Calls Tryz.prog 202 #[zCL x] w fun e w'=>e= .returned (.bool x.uses)/\Below w.heap.size w w':=by
 unfold Ins.uses;have hB:=zEa x;obtain⟨op,r,t,f,k⟩:=x;unfold zCL zEE at*;cases h8:op == 6
 ·cases h9:op == 7
  ·go_enter Tryz.func202,Tryz.ntmps202
   go_wp2_with fail;refine(hB _).mono ?_;rintro e w' ⟨rfl,rfl⟩;go_wp2;go_ret;exact⟨rfl,(bal _ _).alloc (by simp) _⟩
  ·go_enter Tryz.func202,Tryz.ntmps202
   go_wp2;go_ret;exact⟨rfl,bal _ _⟩
 ·go_enter Tryz.func202,Tryz.ntmps202
  go_wp2;go_ret;exact⟨rfl,bal _ _⟩
theorem zGx (x:Ins) (b:Bool) (w:World) (h:x.uses=b):
 Calls Tryz.prog 202 #[zCL x] w fun e w'=>e= .returned (.bool b)/\Below w.heap.size w w':=by
 rw[<-h];exact zOd x w
theorem zCp (x:Ins) (hb:x.Bd) (w:World) (hl:x.load=true):
 Calls Tryz.prog 204 #[zCL x] w fun e w'=>e= .returned (.int .u64 x.wide)/\w'=w.alloc (zEE x):=by
 have bk:=hb.k;obtain⟨op,r,t,f,k⟩:=x;unfold zCL zEE Ins.wide;dsimp only at*;have:op=1\/op=2\/op=3:=by unfold Ins.load at hl;simpa[or_assoc] using hl
 clear hl hb;rcases this with rfl|rfl|rfl
 all_goals
  go_enter Tryz.func204,Tryz.ntmps204;go_wp2;go_ret;exact⟨zDV (by simp),rfl⟩
theorem zEF (x:Ins) (b:Bool) (hb:x.Bd) (w:World):
 Calls Tryz.prog 207 #[zCL x,.bool b] w fun e w'=>e= .returned (.int .u32 (if b then x.t else x.f))/\w'=w.alloc (zEE x):=by
 have bt:=hb.t;have bf:=hb.f;obtain⟨op,r,t,f,k⟩:=x;unfold zCL zEE;dsimp only at*;clear hb;cases b
 all_goals
  go_enter Tryz.func207,Tryz.ntmps207;go_wp2;go_ret;exact⟨zDV (by simp),rfl⟩
theorem zRi (x:Ins) (w:World) (hr:4<=x.r):
 Calls Tryz.prog 201 #[zCL x] w fun e w'=>e= .returned (.bool false)/\Below w.heap.size w w':=by
 obtain⟨op,r,t,f,k⟩:=x;unfold zCL;dsimp only at hr;go_enter Tryz.func201,Tryz.ntmps201;go_wp2;go_ret;exact⟨rfl,bal _ _⟩
theorem zRj (x:Ins) (w:World) (hr:x.r<4) (hb:x.branch=false) (ht:(x.t !=0)=true):
 Calls Tryz.prog 201 #[zCL x] w fun e w'=>e= .returned (.bool false)/\Below w.heap.size w w':=by
 have hB:=fun w=>zCo x _ w hb
 obtain⟨op,r,t,f,k⟩:=x;unfold zCL zEE at*;dsimp only at*;clear hb;go_enter Tryz.func201,Tryz.ntmps201;go_wp2_with fail;refine(hB _).mono ?_;rintro e w' ⟨rfl,rfl⟩;go_wp2;go_ret;exact⟨rfl,(bal _ _).alloc (by simp) _⟩
theorem zRk (x:Ins) (w:World) (hr:x.r<4) (hb:x.branch=false) (ht:x.t=0) (hf:(x.f !=0)=true):
 Calls Tryz.prog 201 #[zCL x] w fun e w'=>e= .returned (.bool false)/\Below w.heap.size w w':=by
 have hB:=fun w=>zCo x _ w hb
 obtain⟨op,r,t,f,k⟩:=x;unfold zCL zEE at*;dsimp only at*;clear hb;subst ht;go_enter Tryz.func201,Tryz.ntmps201;go_wp2_with fail;refine(hB _).mono ?_;rintro e w' ⟨rfl,rfl⟩;go_wp2;go_ret;exact⟨rfl,(bal _ _).alloc (by simp) _⟩
def Ins.tail (x:Ins):Bool:=
 if x.op=0 then x.r == 0&&decide (x.k<3) else if x.op=4 then decide (x.k<2) else if x.op=5 then x.k == 0 else if x.op=7 then decide (x.k<32) else if x.op=11 then x.r == 0 else decide (x.op<11)
theorem zRl (x:Ins) (w:World) (hr:x.r<4) (hb:x.branch=true):
 Calls Tryz.prog 201 #[zCL x] w fun e w'=>e= .returned (.bool true)/\Below w.heap.size w w':=by
 have hB:=fun w=>zCo x _ w hb
 obtain⟨op,r,t,f,k⟩:=x;unfold zCL zEE Ins.branch at*;dsimp only at*;have:op=8\/op=9\/op=10:=by simpa[or_assoc] using hb
 clear hb;rcases this with rfl|rfl|rfl
 all_goals
  go_enter Tryz.func201,Tryz.ntmps201;go_wp2_with fail;refine(hB _).mono ?_;rintro e w' ⟨rfl,rfl⟩;go_wp2;go_ret;exact⟨rfl,(bal _ _).alloc (by simp) _⟩
theorem zRm (x:Ins) (w:World) (hr:x.r<4) (hb:x.branch=false) (ht:x.t=0) (hf:x.f=0):
 Calls Tryz.prog 201 #[zCL x] w fun e w'=>e= .returned (.bool x.tail)/\Below w.heap.size w w':=by
 have hB:=fun w=>zCo x _ w hb
 obtain⟨b,hbt⟩:∃b,x.tail=b:=⟨_,rfl⟩;rw[hbt];have HT:Hid (x.tail=b):=hbt;clear hbt;obtain⟨op,r,t,f,k⟩:=x;unfold zCL zEE at*;dsimp only at*;clear hb;subst ht;subst hf;cases h0:op == 0
 ·cases h4:op == 4
  ·cases h5:op == 5
   ·cases h7:op == 7
    ·cases h11:op == 11
     ·go_enter Tryz.func201,Tryz.ntmps201
      go_wp2_with fail;refine(hB _).mono ?_;rintro e w' ⟨rfl,rfl⟩;go_wp2;go_ret;exact⟨zAl (by rw[<-HT.out];unfold Ins.tail;rw[beq_eq_false_iff_ne] at*;simp[h0,h4,h5,h7,h11]),(bal _ _).alloc (by simp) _⟩
     ·have e11:op=11:=by simpa using h11
      subst e11;clear h0 h4 h5 h7 h11;go_enter Tryz.func201,Tryz.ntmps201;go_wp2_with fail;refine(hB _).mono ?_;rintro e w' ⟨rfl,rfl⟩;go_wp2;go_ret;exact⟨zAl (by rw[<-HT.out];unfold Ins.tail;simp),(bal _ _).alloc (by simp) _⟩
    ·have e11:op=7:=by simpa using h7
     subst e11;clear h0 h4 h5 h7;go_enter Tryz.func201,Tryz.ntmps201;go_wp2_with fail;refine(hB _).mono ?_;rintro e w' ⟨rfl,rfl⟩;go_wp2;go_ret;exact⟨zAl (by rw[<-HT.out];unfold Ins.tail;simp),(bal _ _).alloc (by simp) _⟩
   ·have e11:op=5:=by simpa using h5
    subst e11;clear h0 h4 h5;go_enter Tryz.func201,Tryz.ntmps201;go_wp2_with fail;refine(hB _).mono ?_;rintro e w' ⟨rfl,rfl⟩;go_wp2;go_ret;exact⟨zAl (by rw[<-HT.out];unfold Ins.tail;simp),(bal _ _).alloc (by simp) _⟩
  ·have e11:op=4:=by simpa using h4
   subst e11;clear h0 h4;go_enter Tryz.func201,Tryz.ntmps201;go_wp2_with fail;refine(hB _).mono ?_;rintro e w' ⟨rfl,rfl⟩;go_wp2;go_ret;exact⟨zAl (by rw[<-HT.out];unfold Ins.tail;simp),(bal _ _).alloc (by simp) _⟩
 ·have e11:op=0:=by simpa using h0
  subst e11;clear h0;cases hq:r == 0
  all_goals
   go_enter Tryz.func201,Tryz.ntmps201;go_wp2_with fail;refine(hB _).mono ?_;rintro e w' ⟨rfl,rfl⟩;go_wp2;go_ret;exact⟨zAl (by rw[<-HT.out];unfold Ins.tail;first|(simp[hq];done)|(simp[hq];omega)),(bal _ _).alloc (by simp) _⟩
theorem zJ9 (x:Ins) (w:World):
 Calls Tryz.prog 201 #[zCL x] w fun e w'=>e= .returned (.bool x.fits)/\Below w.heap.size w w':=by
 by_cases hr:4<=x.r
 ·rw[show x.fits=false by unfold Ins.fits;rw[show decide (x.r<4)=false by simpa using hr];simp]
  exact zRi x w hr
 have hr:x.r<4:=by omega
 cases hb:x.branch with
 |true=>
  have e:x.fits=true:=by
   unfold Ins.fits;rw[hb];have:x.op=8\/x.op=9\/x.op=10:=by unfold Ins.branch at hb;simpa[or_assoc] using hb
   rcases this with h|h|h<;>simp[h,hr]
  rw[e];exact zRl x w hr hb
 |false=>
  cases ht:x.t == 0 with
  |false=>
   rw[show x.fits=false by unfold Ins.fits;rw[hb,ht];simp];exact zRj x w hr hb (by simpa using ht)
  |true=>
   cases hf:x.f == 0 with
   |false=>
    rw[show x.fits=false by unfold Ins.fits;rw[hb,ht,hf];simp];exact zRk x w hr hb (by simpa using ht) (by simpa using hf)
   |true=>
    have e:x.fits=x.tail:=by
     unfold Ins.fits Ins.tail;rw[hb,ht,hf,show decide (x.r<4)=true by simpa using hr]
     by_cases h0:x.op=0
     ·simp[h0]
     by_cases h4:x.op=4
     ·simp[h4]
     by_cases h5:x.op=5
     ·simp[h5]
     by_cases h7:x.op=7
     ·simp[h7]
     by_cases h11:x.op=11
     ·simp[h11]
     simp[h0,h4,h5,h7,h11];omega
    rw[e];exact zRm x w hr hb (by simpa using ht) (by simpa using hf)
end Go.Proofs.YtclpnafiiobfhaaGreatDoor

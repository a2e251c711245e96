import Derived.Test.YtclpnafiiobfhaaGreatDoorQ22
import Derived.Test.YtclpnafiiobfhaaGreatDoorQ01
set_option linter.unusedVariables false
set_option linter.unusedSimpArgs false
set_option maxHeartbeats 1600000
namespace Go.Proofs.YtclpnafiiobfhaaGreatDoor
open Go.RowKit
abbrev Hd.cells (h:Hd):Array Value:= #[.int .u32 h.a,.int .u32 h.b,.int .u8 h.p,.int .u16 h.s,.int .u16 h.d,.int .u8 h.f]
abbrev Fl.cells (f:Fl):Array Value:= #[.int .u32 f.a,.int .u32 f.b,.int .u8 f.p,.int .u16 f.s,.int .u16 f.d,.bool f.rep,.bool f.clo,.int .u64 (f.u:Int)]
abbrev Ky.cells (k:Ky):Array Value:= #[.int .u32 k.la,.int .u16 k.lp,.int .u32 k.ha,.int .u16 k.hp,.int .u8 k.p]
theorem zOi (a s b d:Int) (w:World):
 Calls Tryz.prog 175 #[.agg #[.int .u32 a,.int .u16 s],.agg #[.int .u32 b,.int .u16 d]] w fun e w'=>e= .returned (.bool (zDO a s b d))/\Below w.heap.size w w':=by
 by_cases h:a=b
 ·have e:zDO a s b d=decide (s<d):=by unfold zDO;rw[if_pos h]
  rw[e];have h1:(a !=b)=false:=by simpa using h
  clear h e;go_enter Tryz.func175,Tryz.ntmps175;go_wp2_with fail;go_ret;exact⟨rfl,(bal _ _).alloc (by simp) _⟩
 ·have e:zDO a s b d=decide (a<b):=by unfold zDO;rw[if_neg h]
  rw[e];have h1:(a !=b)=true:=by simpa using h
  clear h e;go_enter Tryz.func175,Tryz.ntmps175;go_wp2_with fail;go_ret;exact⟨rfl,(bal _ _).alloc (by simp) _⟩
theorem zFY (a b:Nat) (w:World) (ha:a<=zCr) (hb:b<=zCr):
 Calls Tryz.prog 115 #[.int .u64 (a:Int),.int .u64 (b:Int)] w fun e w'=>e= .returned (.int .u64 (zBO a b:Int))/\w'=w:=by
 unfold zCr at ha hb;have h1:IntKind.u64.wrap (18446744073709551615-(a:Int))=18446744073709551615-(a:Int):=by rw[IntKind.wrap_u64];omega
 by_cases h:18446744073709551615<a+b
 ·have e:((zBO a b:Nat):Int)=18446744073709551615:=by unfold zBO zCr;rw[if_pos h];rfl
  rw[e];have h2:18446744073709551615-(a:Int)<(b:Int):=by omega
  clear h e ha hb;go_enter Tryz.func115,Tryz.ntmps115;go_wp2_with fail;go_ret;exact⟨rfl,rfl⟩
 ·have e:((zBO a b:Nat):Int)=(a:Int)+(b:Int):=by unfold zBO zCr;rw[if_neg h];omega
  rw[e];have h2:¬18446744073709551615-(a:Int)<(b:Int):=by omega
  have h3:IntKind.u64.wrap ((a:Int)+(b:Int))=(a:Int)+(b:Int):=by rw[IntKind.wrap_u64];omega
  clear h e ha hb;go_enter Tryz.func115,Tryz.ntmps115;go_wp2_with fail;go_ret;exact⟨rfl,rfl⟩
theorem zM8 (h:Hd) (w:World):
 Calls Tryz.prog 154 #[.agg h.cells] w fun e w'=>e= .returned (.agg (Fl.mk h.a h.b h.p h.s h.d false false 0).cells)/\Below w.heap.size w w':=by
 obtain⟨a,b,p,s,d,f⟩:=h;go_enter Tryz.func154,Tryz.ntmps154;go_wp2_with fail;refine bodyPost_ret (v:= .agg #[.int .u32 a,.int .u32 b,.int .u8 p,.int .u16 s,.int .u16 d,.bool false,.bool false,.int .u64 0]) (by simp[results,Tryz.results154,go_sem]) rfl ⟨rfl,?_⟩
 repeat (with_reducible first|exact Below.refl _ _|refine Below.setCell ?_ (by first|(simp;done)|(simp;omega)) _|refine Below.alloc ?_ (by first|(simp;done)|(simp;omega)) _)
theorem zKA (A B:Nat) (ha:A<=255) (hb:B<=255):bits BinOp.and IntKind.u8 (A:Int) (B:Int)=((A&&& B:Nat):Int):=by
 have hx:A&&& B<2 ^ 8:=Nat.and_lt_two_pow _ (by omega)
 show IntKind.u8.wrap ((BitVec.ofInt 8 (A:Int)&&& BitVec.ofInt 8 (B:Int)).toNat:Int)=_
 rw[BitVec.toNat_and,show(BitVec.ofInt 8 (A:Int)).toNat=A from by simp;omega,show(BitVec.ofInt 8 (B:Int)).toNat=B from by simp;omega,IntKind.wrap_u8];omega
theorem zCW (h:Hd) (w:World) (hf:0<=h.f/\h.f<=255):
 Calls Tryz.prog 151 #[.agg h.cells] w fun e w'=>e= .returned (.int .u8 (zBR none h:Int))/\Below w.heap.size w w':=by
 obtain⟨a,b,p,s,d,f⟩:=h;dsimp only at hf;obtain⟨F,rfl⟩:∃F:Nat,f=(F:Int):=⟨f.toNat,by omega⟩;have i1:bits BinOp.and IntKind.u8 (F:Int) 23=((F&&& 23:Nat):Int):=zKA F 23 (by omega) (by decide);have HE:Hid (zBR none ⟨a,b,p,s,d,(F:Int)⟩=if p=6/\F&&& 23≠2 then 2 else 0):=show zBR none ⟨a,b,p,s,d,(F:Int)⟩=_ by
  unfold zBR zDw;simp only[Int.toNat_natCast]
  by_cases h1:p=6<;>by_cases h2:F&&& 23=2<;>simp[h1,h2]
 by_cases h1:p=6
 ·have q1:(p == 6)=true:=by simpa using h1
  by_cases h2:F&&& 23=2
  ·have q2:((((F&&& 23:Nat):Int)) !=2)=false:=by rw[h2];rfl
   rw[if_neg (fun q=>q.2 h2)] at HE;generalize ((F&&& 23:Nat):Int)=x at i1 q2;clear h1 h2 hf;go_enter Tryz.func151,Tryz.ntmps151;go_wp2_with fail;go_ret;exact⟨by rw[HE.out];rfl,bal _ _⟩
  ·have q2:((((F&&& 23:Nat):Int)) !=2)=true:=by simp;omega
   rw[if_pos ⟨h1,h2⟩] at HE;generalize ((F&&& 23:Nat):Int)=x at i1 q2;clear h1 h2 hf;go_enter Tryz.func151,Tryz.ntmps151;go_wp2_with fail;go_ret;exact⟨by rw[HE.out];rfl,bal _ _⟩
 ·have q1:(p == 6)=false:=by simpa using h1
  rw[if_neg (fun q=>h1 q.1)] at HE;clear h1 hf;go_enter Tryz.func151,Tryz.ntmps151;go_wp2_with fail;go_ret;exact⟨by rw[HE.out];rfl,bal _ _⟩
theorem zKB (x:Fl) (w:World):
 Calls Tryz.prog 155 #[.agg x.cells] w fun e w'=>e= .returned (.int .u64 (zCV x:Int))/\Below w.heap.size w w':=by
 obtain⟨a,b,p,s,d,rep,clo,u⟩:=x;have HE:Hid (zCV ⟨a,b,p,s,d,rep,clo,u⟩=if p=6 then(if clo=true then 10 else if rep=true then 300 else 30) else if p=17 then(if rep=true then 120 else 60) else if p=1 then 20 else 60):=rfl
 by_cases h6:p=6
 ·have q6:(p == 6)=true:=by simpa using h6
  rw[if_pos h6] at HE;clear h6;cases clo
  ·cases rep
   all_goals
    go_enter Tryz.func155,Tryz.ntmps155;go_wp2_with fail;go_ret;exact⟨by rw[HE.out];rfl,bal _ _⟩
  ·go_enter Tryz.func155,Tryz.ntmps155
   go_wp2_with fail;go_ret;exact⟨by rw[HE.out];rfl,bal _ _⟩
 ·have q6:(p == 6)=false:=by simpa using h6
  rw[if_neg h6] at HE;clear h6
  by_cases h17:p=17
  ·have q17:(p == 17)=true:=by simpa using h17
   rw[if_pos h17] at HE;clear h17;cases rep
   all_goals
    go_enter Tryz.func155,Tryz.ntmps155;go_wp2_with fail;go_ret;exact⟨by rw[HE.out];rfl,bal _ _⟩
  ·have q17:(p == 17)=false:=by simpa using h17
   rw[if_neg h17] at HE;clear h17
   by_cases h1:p=1
   ·have q1:(p == 1)=true:=by simpa using h1
    rw[if_pos h1] at HE;clear h1;go_enter Tryz.func155,Tryz.ntmps155;go_wp2_with fail;go_ret;exact⟨by rw[HE.out];rfl,bal _ _⟩
   ·have q1:(p == 1)=false:=by simpa using h1
    rw[if_neg h1] at HE;clear h1;go_enter Tryz.func155,Tryz.ntmps155;go_wp2_with fail;go_ret;exact⟨by rw[HE.out];rfl,bal _ _⟩
end Go.Proofs.YtclpnafiiobfhaaGreatDoor

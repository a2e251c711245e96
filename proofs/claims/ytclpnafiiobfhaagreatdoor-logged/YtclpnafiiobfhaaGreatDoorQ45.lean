import Derived.Test.YtclpnafiiobfhaaGreatDoorQ15
import Derived.Test.YtclpnafiiobfhaaGreatDoorQ06
set_option linter.unusedVariables false
set_option linter.unusedSimpArgs false
set_option maxHeartbeats 3200000
set_option maxRecDepth 20000
namespace Go.Proofs.YtclpnafiiobfhaaGreatDoor
open Go.RowKit
def zKI (s:ByteArray):Int:=if nth s 23=6\/nth s 23=17 then zAB s 34 2 else if nth s 23=1/\(nth s 34=8\/nth s 34=0) then zAB s 38 2 else 0
def zKJ (s:ByteArray):Int:=if nth s 23=6\/nth s 23=17 then zAB s 36 2 else if nth s 23=1/\(nth s 34=8\/nth s 34=0) then zAB s 38 2 else 0
def zKK (s:ByteArray):Int:=if nth s 23=6 then nth s 47 % 64 else if nth s 23=1 then nth s 34 else 0
def zDd (i:Nat) (v:List Nat) (a b p sp dp f:Int) (m:Int×Int):Bool:=
 if i=0 then m.1 == n0 v 0
 else if i=1 then a.toNat / 2 ^ (32-v.getD 1 0) == v.getD 0 0 / 2 ^ (32-v.getD 1 0)
 else if i=2 then b.toNat / 2 ^ (32-v.getD 1 0) == v.getD 0 0 / 2 ^ (32-v.getD 1 0)
 else if i=3 then p == n0 v 0
 else if i=4 then decide (n0 v 0<=sp)&&decide (sp<=n0 v 1)
 else if i=5 then decide (n0 v 0<=dp)&&decide (dp<=n0 v 1)
 else if i=6 then((f.toNat&&& v.getD 0 0:Nat):Int) == n0 v 1
 else v.getD m.2.toNat 0 == 1
def zEp (cs:Cs) (i:Nat) (a b p sp dp f:Int) (m:Int×Int):Bool:=match cs.getD i none with|none=>true|some v=>zDd i v a b p sp dp f m
def zD4 (cs:Cs) (a b p sp dp f:Int) (m:Int×Int):Nat->Nat->Bool
 |0,_=>true
 |n+1,i=>zEp cs i a b p sp dp f m&&zD4 cs a b p sp dp f m n (i+1)
def zJR (pol:Nat) (a b p sp dp f:Int) (m:Int×Int):List Rl->Nat
 |[]=>pol
 |r::l=>if zD4 r.cs a b p sp dp f m 8 0=true then r.v else zJR pol a b p sp dp f m l
def zGM (cs:Cs) (i:Nat) (d:ByteArray) (m:Int×Int):Bool:=match cs.getD i none with|none=>true|some v=>zCQ i v d m
structure zQr (s:ByteArray):Prop where
 len:34<=s.size
 tcp:nth s 23=6->54<=s.size
 udp:nth s 23=17->42<=s.size
theorem zQs {s:ByteArray} (h:cls s=0):zQr s:=by
 unfold cls at h
 repeat' split at h
 all_goals (try omega)
 rename_i h1 h2 h3 h4 h5 h6 h7 h8 h9
 refine⟨by omega,fun e=> ?_,fun e=> ?_⟩
 ·unfold inn at h9
  rw[if_pos e] at h9;simp at h9;omega
 ·unfold inn at h9
  rw[if_neg (by omega),if_pos e] at h9;simp at h9;omega
theorem zKL (s:ByteArray) (k:Nat):zAB s k 1=nth s k:=by
 rw[zEy,zPa,Nat.add_zero];omega
theorem zQt (x m:Nat) (h:m<=63):x % 64&&& m=x&&& m:=by
 have e:x % 64=x&&& 63:=(Nat.and_two_pow_sub_one_eq_mod x 6).symm;have e2:63&&& m=m:=by
  rw[Nat.and_comm];exact(Nat.and_two_pow_sub_one_eq_mod m 6).trans (Nat.mod_eq_of_lt (by omega))
 rw[e,Nat.and_assoc,e2]
section
variable {s : ByteArray} {cs : Cs} (hF : zQr s) (hG : zCB cs) (hM : zBP cs = false) (m : Int × Int)
theorem zSE:zGM cs 0 s m=zEp cs 0 (zAB s 26 4) (zAB s 30 4) (nth s 23) (zKI s) (zKJ s) (zKK s) m:=by
 unfold zGM zEp;cases cs.getD 0 none with
 |none=>rfl
 |some v=>simp[zCQ,zHE,zGq,zDd]
include hF hG in
theorem zPn (i:Nat) (hi:i=1\/i=2):zGM cs i s m=zEp cs i (zAB s 26 4) (zAB s 30 4) (nth s 23) (zKI s) (zKJ s) (zKK s) m:=by
 have hl:=hF.len;have n1:=zAt s 26 4 (by omega);have n2:=zAt s 30 4 (by omega);unfold zGM zEp;cases hc:cs.getD i none with
 |none=>rfl
 |some v=>
  have hg:=hG.2 i v hc;unfold zJj at hg;rw[if_neg (by omega),if_pos hi] at hg;obtain⟨a,n,rfl,ha,hn,hz⟩:=hg;rcases hi with rfl|rfl
  ·have:=zMK (zAB s 26 4).toNat a n (by omega) hn hz
   simp only[zCQ,zHE,zGq,zDd,n0]
   by_cases q:(zAB s 26 4).toNat&&& zAb n=a
   ·have q2:=this.1 q
    simp[q,q2];omega
   ·have q2:=fun h=>q (this.2 h)
    have q3:¬(((zAB s 26 4).toNat&&& zAb n:Nat):Int)=(a:Int):=fun h=>q (Int.ofNat.inj h)
    have r1:((((zAB s 26 4).toNat&&& zAb n:Nat):Int) == (a:Int))=false:=by simpa using q3
    have r2:((zAB s 26 4).toNat / 2 ^ (32-n) == a / 2 ^ (32-n))=false:=by simpa using q2
    show(_&&((((zAB s 26 4).toNat&&& zAb n:Nat):Int) == (a:Int)))=((zAB s 26 4).toNat / 2 ^ (32-n) == a / 2 ^ (32-n))
    rw[r1,r2,Bool.and_false]
  ·have:=zMK (zAB s 30 4).toNat a n (by omega) hn hz
   simp only[zCQ,zHE,zGq,zDd,n0]
   by_cases q:(zAB s 30 4).toNat&&& zAb n=a
   ·have q2:=this.1 q
    simp[q,q2];omega
   ·have q2:=fun h=>q (this.2 h)
    have q3:¬(((zAB s 30 4).toNat&&& zAb n:Nat):Int)=(a:Int):=fun h=>q (Int.ofNat.inj h)
    have r1:((((zAB s 30 4).toNat&&& zAb n:Nat):Int) == (a:Int))=false:=by simpa using q3
    have r2:((zAB s 30 4).toNat / 2 ^ (32-n) == a / 2 ^ (32-n))=false:=by simpa using q2
    show(_&&((((zAB s 30 4).toNat&&& zAb n:Nat):Int) == (a:Int)))=((zAB s 30 4).toNat / 2 ^ (32-n) == a / 2 ^ (32-n))
    rw[r1,r2,Bool.and_false]
include hF in
theorem zSF:zGM cs 3 s m=zEp cs 3 (zAB s 26 4) (zAB s 30 4) (nth s 23) (zKI s) (zKJ s) (zKK s) m:=by
 have hl:=hF.len;unfold zGM zEp;cases cs.getD 3 none with
 |none=>rfl
 |some v=>
  simp only[zCQ,zHE,zGq,zDd,zKL];have:24<=s.size:=by omega
  simp[this]
include hG in
theorem zSG (hm:0<=m.2/\m.2<=2):zGM cs 7 s m=zEp cs 7 (zAB s 26 4) (zAB s 30 4) (nth s 23) (zKI s) (zKJ s) (zKK s) m:=by
 unfold zGM zEp;cases hc:cs.getD 7 none with
 |none=>rfl
 |some v=>
  have hg:=hG.2 7 v hc;unfold zJj at hg;simp only[show ¬(7:Nat)=0 by decide,show ¬((7:Nat)=1\/(7:Nat)=2) by decide,show ¬(7:Nat)=3 by decide,show ¬((7:Nat)=4\/(7:Nat)=5) by decide,show ¬(7:Nat)=6 by decide,if_false] at hg;obtain⟨x,y,z,rfl⟩:=hg;obtain⟨i,t⟩:=m;dsimp only at hm;have h3:t=0\/t=1\/t=2:=by omega
  rcases h3 with rfl|rfl|rfl<;>cases x<;>cases y<;>cases z<;>rfl
theorem zKM (v:List Nat) (h:cs.getD 3 none=some v) (hp:zEp cs 3 (zAB s 26 4) (zAB s 30 4) (nth s 23) (zKI s) (zKJ s) (zKK s) m=true):nth s 23=(zAM cs:Int):=by
 unfold zEp at hp;rw[h] at hp;unfold zAM;rw[h]
 simpa[zDd,n0] using hp
theorem zGN (h:zAM cs≠0):∃v,cs.getD 3 none=some v:=by
 cases e:cs.getD 3 none with
 |none=>exact absurd (by unfold zAM;rw[e];rfl) h
 |some v=>exact⟨v,rfl⟩
include hF hM in
theorem zRu (i:Nat) (hi:i=4\/i=5) (hp:zEp cs 3 (zAB s 26 4) (zAB s 30 4) (nth s 23) (zKI s) (zKJ s) (zKK s) m=true):zGM cs i s m=zEp cs i (zAB s 26 4) (zAB s 30 4) (nth s 23) (zKI s) (zKJ s) (zKK s) m:=by
 unfold zGM zEp;cases hc:cs.getD i none with
 |none=>rfl
 |some v=>
  have hpr:zAM cs=6\/zAM cs=17:=by
   unfold zBP at hM;rcases hi with rfl|rfl<;>rw[hc] at hM<;>simp at hM<;>omega
  obtain⟨u,hu⟩:=zGN (cs:=cs) (by omega);have e:=zKM m u hu hp;have h67:nth s 23=6\/nth s 23=17:=by omega
  have hz:38<=s.size:=by
   rcases h67 with h|h
   ·have:=hF.tcp h;omega
   ·have:=hF.udp h;omega
  have es:zKI s=zAB s 34 2:=by unfold zKI;rw[if_pos h67]
  have ed:zKJ s=zAB s 36 2:=by unfold zKJ;rw[if_pos h67]
  rw[es,ed];rcases hi with rfl|rfl
  ·have z1:36<=s.size:=by omega
   simp only[zCQ,zHE,zGq,zDd];simp[z1]
   congr 1
   by_cases q:zAB s 34 2<=n0 v 1
   ·simp[q];omega
   ·simp[q];omega
  ·simp only[zCQ,zHE,zGq,zDd]
   simp[hz]
   congr 1
   by_cases q:zAB s 36 2<=n0 v 1
   ·simp[q];omega
   ·simp[q];omega
include hF hG hM in
theorem zSH (hp:zEp cs 3 (zAB s 26 4) (zAB s 30 4) (nth s 23) (zKI s) (zKJ s) (zKK s) m=true):zGM cs 6 s m=zEp cs 6 (zAB s 26 4) (zAB s 30 4) (nth s 23) (zKI s) (zKJ s) (zKK s) m:=by
 unfold zGM zEp;cases hc:cs.getD 6 none with
 |none=>rfl
 |some v=>
  have hpr:zAM cs=6:=by
   unfold zBP at hM;rw[hc] at hM;simp at hM;exact hM.2
  obtain⟨u,hu⟩:=zGN (cs:=cs) (by omega);have e:=zKM m u hu hp;have h6:nth s 23=6:=by omega
  have hz:48<=s.size:=by have:=hF.tcp h6;omega
  have ef:zKK s=nth s 47 % 64:=by unfold zKK;rw[if_pos h6]
  have hg:=hG.2 6 v hc;unfold zJj at hg;simp only[show ¬(6:Nat)=0 by decide,show ¬((6:Nat)=1\/(6:Nat)=2) by decide,show ¬(6:Nat)=3 by decide,show ¬((6:Nat)=4\/(6:Nat)=5) by decide,if_false,if_true] at hg;obtain⟨k,t,rfl,hk,_⟩:=hg;have hb:=zAN s 47;have en:(nth s 47 % 64).toNat=(nth s 47).toNat % 64:=by omega
  rw[ef];simp only[zCQ,zHE,zGq,zDd,zKL];rw[en]
  show(decide (48<=s.size)&&((((nth s 47).toNat&&& k:Nat):Int) == n0 [k,t] 1))=((((nth s 47).toNat % 64&&& k:Nat):Int) == n0 [k,t] 1)
  rw[zQt _ _ hk];simp[hz]
include hF hG hM in
theorem zNZ (hm:0<=m.2/\m.2<=2):zDt cs s m 8 0=zD4 cs (zAB s 26 4) (zAB s 30 4) (nth s 23) (zKI s) (zKJ s) (zKK s) m 8 0:=by
 have e1:zDt cs s m 8 0=(zGM cs 0 s m&&(zGM cs 1 s m&&(zGM cs 2 s m&&(zGM cs 3 s m&&(zGM cs 4 s m&&(zGM cs 5 s m&&(zGM cs 6 s m&&(zGM cs 7 s m&&true)))))))):=rfl;have h3:=zRu hF hM m;have h6:=zSH hF hG hM m;rw[e1,zSE m,zPn hF hG m 1 (.inl rfl),zPn hF hG m 2 (.inr rfl),zSF hF m,zSG hG m hm];simp only[zD4];cases hp:zEp cs 3 (zAB s 26 4) (zAB s 30 4) (nth s 23) (zKI s) (zKJ s) (zKK s) m with
 |false=>simp
 |true=>rw[h3 4 (.inl rfl) hp,h3 5 (.inr rfl) hp,h6 hp]
end
theorem zKN {s:ByteArray} (hF:zQr s) (m:Int×Int) (hm:0<=m.2/\m.2<=2) (pol:Nat):∀(l:List Rl),(∀r ∈ l,zGa r)->zFs pol s m l=zJR pol (zAB s 26 4) (zAB s 30 4) (nth s 23) (zKI s) (zKJ s) (zKK s) m l
 |[],_=>rfl
 |r::l,h=>by
  have hr:=h r (List.mem_cons_self ..);rw[zFs,zJR,zKN hF m hm pol l (fun x hx=>h x (List.mem_cons_of_mem _ hx))];unfold zOY;rw[zNZ hF hr.cs hr.all m hm]
theorem zFf (a:Int) (net n:Nat) (w:World) (ha:0<=a/\a<=4294967295) (hn:n<=32) (ht:net<4294967296):
 Calls Tryz.prog 51 #[.int .u32 a,.int .i64 (net:Int),.int .i64 (n:Int)] w fun e w'=>e= .returned (.bool (a.toNat / 2 ^ (32-n) == net / 2 ^ (32-n)))/\∃q,w'=w.drewN q:=by
 obtain⟨k,hk⟩:∃k:Int,32-(n:Int)=k:=⟨_,rfl⟩;have i1:IntKind.i64.wrap (32-(n:Int))=k:=by rw[IntKind.wrap_i64];omega
 have i2:(0:Int)<=k:=by omega
 have i3:k<=32:=by omega
 have i4:IntKind.i64.wrap a=a:=by rw[IntKind.wrap_i64];omega
 go_enter Tryz.func51,Tryz.ntmps51;go_upto_region 1 with fail
 go_quiet (fail);go_wp2_with fail;go_ret;refine⟨?_,_,rfl⟩;have e1:k.toNat=32-n:=by omega
 have e2:a=((a.toNat:Nat):Int):=by omega
 show Ending.returned (.bool (a / 2 ^ k.toNat == (net:Int) / 2 ^ k.toNat))=_
 rw[e1,e2]
 congr 2
 generalize a.toNat=x;generalize 32-n=y;rw[Bool.eq_iff_iff,beq_iff_eq,beq_iff_eq];have h2:(2:Int) ^ y=((2 ^ y:Nat):Int):=by simp
 rw[h2,Int.toNat_natCast]
 constructor
 ·intro q;exact Int.ofNat.inj (by simpa using q)
 ·intro q
  have:((x / 2 ^ y:Nat):Int)=((net / 2 ^ y:Nat):Int):=by rw[q]
  simpa using this
theorem zQu (A B:Nat) (ha:A<=255) (hb:B<=255):bits BinOp.and IntKind.i64 (A:Int) (B:Int)=((A&&& B:Nat):Int):=by
 have hx:A&&& B<2 ^ 32:=Nat.and_lt_two_pow _ (by omega)
 show IntKind.i64.wrap ((BitVec.ofInt 64 (A:Int)&&& BitVec.ofInt 64 (B:Int)).toNat:Int)=_
 rw[BitVec.toNat_and,ofInt_u64 A (by omega),ofInt_u64 B (by omega),IntKind.wrap_i64];omega
def At (w:World) (g off:Nat) (L:List Value):Prop:=∀i x,L[i]? =some x->w.cell? ⟨g,off+i,none⟩=some x
theorem At.below {w w':World} {g off B:Nat} {L:List Value} (h:At w g off L) (hb:Below B w w') (hg:g<B):At w' g off L:=fun i x hx=>(hb.cell (p:=⟨g,off+i,none⟩) hg).trans (h i x hx)
theorem zO9 (g off:Nat) (v:Int) (cs:Cs) (u:List Nat) (a b p sp dp f:Int) (m:Int×Int) (w:World) (hA:At w g off (zAC v cs)) (hg:g<w.heap.size) (hu:cs.getD 0 none=some u):Calls Tryz.prog 33 #[.pointer (some ⟨g,off,none⟩),.int .i64 0,.agg #[.int .u32 a,.int .u32 b,.int .u8 p,.int .u16 sp,.int .u16 dp,.int .u8 f],.int .i64 m.1,.int .i64 m.2] w fun e w'=>e= .returned (.bool (zDd 0 u a b p sp dp f m))/\Below w.heap.size w w':=by
 have c:=hA 9 (.int .i64 (n0 u 0)) (by show some (cvO (cs.getD 0 none) 0)=_;rw[hu];rfl);have hgn:g≠w.heap.size:=by omega
 have HE:Hid (zDd 0 u a b p sp dp f m=(m.1 == n0 u 0)):=rfl;generalize n0 u 0=x at c HE;obtain⟨m1,m2⟩:=m;dsimp only at HE ⊢;clear hA hu;go_enter Tryz.func33,Tryz.ntmps33;go_wp2_with fail;go_ret;exact⟨by rw[HE.out];rfl,bal _ _⟩
theorem zPA (g off:Nat) (v:Int) (cs:Cs) (u:List Nat) (a b p sp dp f:Int) (m:Int×Int) (w:World) (hA:At w g off (zAC v cs)) (hg:g<w.heap.size) (hgood:zCB cs) (hx:0<=a/\a<=4294967295) (hu:cs.getD 1 none=some u):Calls Tryz.prog 33 #[.pointer (some ⟨g,off,none⟩),.int .i64 1,.agg #[.int .u32 a,.int .u32 b,.int .u8 p,.int .u16 sp,.int .u16 dp,.int .u8 f],.int .i64 m.1,.int .i64 m.2] w fun e w'=>e= .returned (.bool (zDd 1 u a b p sp dp f m))/\Below w.heap.size w w':=by
 obtain⟨net,n,hn⟩:∃net n:Nat,u=[net,n]/\net<4294967296/\n<=32:=by
  have:=hgood.2 1 u hu;unfold zJj at this;simp at this;obtain⟨x,y,rfl,h1,h2,_⟩:=this;exact⟨x,y,rfl,h1,h2⟩
 obtain⟨rfl,hnet,hn32⟩:=hn;have c1:=hA 10 (.int .i64 (net:Int)) (by show some (cvO (cs.getD 1 none) 0)=_;rw[hu];rfl);have c2:=hA 12 (.int .i64 (n:Int)) (by show some (cvO (cs.getD 1 none) 1)=_;rw[hu];rfl);have hgn:g≠w.heap.size:=by omega
 have HW:Hid (∀W:World,Calls Tryz.prog 51 #[.int .u32 a,.int .i64 (net:Int),.int .i64 (n:Int)] W fun e w'=>e= .returned (.bool (zDd 1 [net,n] a b p sp dp f m))/\∃q,w'=W.drewN q):=fun W=>zFf a net n W hx hn32 hnet
 obtain⟨m1,m2⟩:=m;generalize zDd 1 [net,n] a b p sp dp f (m1,m2)=r at HW ⊢;dsimp only;clear hA hu hgood hnet hn32;go_enter Tryz.func33,Tryz.ntmps33;go_upto_region 5 with fail
 go_quiet (first|(go_at_call 51;refine Calls.quiet_of (HW.out _)));go_wp2_with fail;go_ret;exact⟨rfl,zAs (bal _ _) _⟩
theorem zPB (g off:Nat) (v:Int) (cs:Cs) (u:List Nat) (a b p sp dp f:Int) (m:Int×Int) (w:World) (hA:At w g off (zAC v cs)) (hg:g<w.heap.size) (hgood:zCB cs) (hx:0<=b/\b<=4294967295) (hu:cs.getD 2 none=some u):Calls Tryz.prog 33 #[.pointer (some ⟨g,off,none⟩),.int .i64 2,.agg #[.int .u32 a,.int .u32 b,.int .u8 p,.int .u16 sp,.int .u16 dp,.int .u8 f],.int .i64 m.1,.int .i64 m.2] w fun e w'=>e= .returned (.bool (zDd 2 u a b p sp dp f m))/\Below w.heap.size w w':=by
 obtain⟨net,n,hn⟩:∃net n:Nat,u=[net,n]/\net<4294967296/\n<=32:=by
  have:=hgood.2 2 u hu;unfold zJj at this;simp at this;obtain⟨x,y,rfl,h1,h2,_⟩:=this;exact⟨x,y,rfl,h1,h2⟩
 obtain⟨rfl,hnet,hn32⟩:=hn;have c1:=hA 11 (.int .i64 (net:Int)) (by show some (cvO (cs.getD 2 none) 0)=_;rw[hu];rfl);have c2:=hA 13 (.int .i64 (n:Int)) (by show some (cvO (cs.getD 2 none) 1)=_;rw[hu];rfl);have hgn:g≠w.heap.size:=by omega
 have HW:Hid (∀W:World,Calls Tryz.prog 51 #[.int .u32 b,.int .i64 (net:Int),.int .i64 (n:Int)] W fun e w'=>e= .returned (.bool (zDd 2 [net,n] a b p sp dp f m))/\∃q,w'=W.drewN q):=fun W=>zFf b net n W hx hn32 hnet
 obtain⟨m1,m2⟩:=m;generalize zDd 2 [net,n] a b p sp dp f (m1,m2)=r at HW ⊢;dsimp only;clear hA hu hgood hnet hn32;go_enter Tryz.func33,Tryz.ntmps33;go_upto_region 7 with fail
 go_quiet (first|(go_at_call 51;refine Calls.quiet_of (HW.out _)));go_wp2_with fail;go_ret;exact⟨rfl,zAs (bal _ _) _⟩
theorem zPC (g off:Nat) (v:Int) (cs:Cs) (u:List Nat) (a b p sp dp f:Int) (m:Int×Int) (w:World) (hA:At w g off (zAC v cs)) (hg:g<w.heap.size) (hx:0<=p/\p<=255) (hu:cs.getD 3 none=some u):Calls Tryz.prog 33 #[.pointer (some ⟨g,off,none⟩),.int .i64 3,.agg #[.int .u32 a,.int .u32 b,.int .u8 p,.int .u16 sp,.int .u16 dp,.int .u8 f],.int .i64 m.1,.int .i64 m.2] w fun e w'=>e= .returned (.bool (zDd 3 u a b p sp dp f m))/\Below w.heap.size w w':=by
 have c:=hA 14 (.int .i64 (n0 u 0)) (by show some (cvO (cs.getD 3 none) 0)=_;rw[hu];rfl);have hgn:g≠w.heap.size:=by omega
 have HE:Hid (zDd 3 u a b p sp dp f m=(p == n0 u 0)):=rfl;have i1:IntKind.i64.wrap p=p:=by rw[IntKind.wrap_i64];omega
 generalize n0 u 0=x at c HE;obtain⟨m1,m2⟩:=m;dsimp only at HE ⊢;clear hA hu hx;go_enter Tryz.func33,Tryz.ntmps33;go_upto_region 9 with fail
 go_quiet (fail);go_wp2_with fail;go_ret;exact⟨by rw[HE.out];rfl,zAs (bal _ _) _⟩
theorem zPD (g off:Nat) (v:Int) (cs:Cs) (u:List Nat) (a b p sp dp f:Int) (m:Int×Int) (w:World) (hA:At w g off (zAC v cs)) (hg:g<w.heap.size) (hx:0<=sp/\sp<=65535) (hu:cs.getD 4 none=some u):Calls Tryz.prog 33 #[.pointer (some ⟨g,off,none⟩),.int .i64 4,.agg #[.int .u32 a,.int .u32 b,.int .u8 p,.int .u16 sp,.int .u16 dp,.int .u8 f],.int .i64 m.1,.int .i64 m.2] w fun e w'=>e= .returned (.bool (zDd 4 u a b p sp dp f m))/\Below w.heap.size w w':=by
 have c1:=hA 15 (.int .i64 (n0 u 0)) (by show some (cvO (cs.getD 4 none) 0)=_;rw[hu];rfl);have c2:=hA 17 (.int .i64 (n0 u 1)) (by show some (cvO (cs.getD 4 none) 1)=_;rw[hu];rfl);have hgn:g≠w.heap.size:=by omega
 have HE:Hid (zDd 4 u a b p sp dp f m=(decide (n0 u 0<=sp)&&decide (sp<=n0 u 1))):=rfl;have i1:IntKind.i64.wrap sp=sp:=by rw[IntKind.wrap_i64];omega
 generalize n0 u 0=x at c1 HE;generalize n0 u 1=y at c2 HE;obtain⟨m1,m2⟩:=m;dsimp only at HE ⊢;clear hA hu hx
 by_cases hq:x<=sp
 ·have d1:decide (x<=sp)=true:=by simpa using hq
  rw[d1] at HE;go_enter Tryz.func33,Tryz.ntmps33;go_upto_region 11 with fail
  go_quiet (fail);go_wp2_with fail;go_ret;exact⟨by rw[HE.out];rfl,zAs (bal _ _) _⟩
 ·have d1:decide (x<=sp)=false:=by simpa using hq
  rw[d1] at HE;go_enter Tryz.func33,Tryz.ntmps33;go_upto_region 11 with fail
  go_quiet (fail);go_wp2_with fail;go_ret;exact⟨by rw[HE.out];rfl,zAs (bal _ _) _⟩
theorem zPE (g off:Nat) (v:Int) (cs:Cs) (u:List Nat) (a b p sp dp f:Int) (m:Int×Int) (w:World) (hA:At w g off (zAC v cs)) (hg:g<w.heap.size) (hx:0<=dp/\dp<=65535) (hu:cs.getD 5 none=some u):Calls Tryz.prog 33 #[.pointer (some ⟨g,off,none⟩),.int .i64 5,.agg #[.int .u32 a,.int .u32 b,.int .u8 p,.int .u16 sp,.int .u16 dp,.int .u8 f],.int .i64 m.1,.int .i64 m.2] w fun e w'=>e= .returned (.bool (zDd 5 u a b p sp dp f m))/\Below w.heap.size w w':=by
 have c1:=hA 16 (.int .i64 (n0 u 0)) (by show some (cvO (cs.getD 5 none) 0)=_;rw[hu];rfl);have c2:=hA 18 (.int .i64 (n0 u 1)) (by show some (cvO (cs.getD 5 none) 1)=_;rw[hu];rfl);have hgn:g≠w.heap.size:=by omega
 have HE:Hid (zDd 5 u a b p sp dp f m=(decide (n0 u 0<=dp)&&decide (dp<=n0 u 1))):=rfl;have i1:IntKind.i64.wrap dp=dp:=by rw[IntKind.wrap_i64];omega
 generalize n0 u 0=x at c1 HE;generalize n0 u 1=y at c2 HE;obtain⟨m1,m2⟩:=m;dsimp only at HE ⊢;clear hA hu hx
 by_cases hq:x<=dp
 ·have d1:decide (x<=dp)=true:=by simpa using hq
  rw[d1] at HE;go_enter Tryz.func33,Tryz.ntmps33;go_upto_region 13 with fail
  go_quiet (fail);go_wp2_with fail;go_ret;exact⟨by rw[HE.out];rfl,zAs (bal _ _) _⟩
 ·have d1:decide (x<=dp)=false:=by simpa using hq
  rw[d1] at HE;go_enter Tryz.func33,Tryz.ntmps33;go_upto_region 13 with fail
  go_quiet (fail);go_wp2_with fail;go_ret;exact⟨by rw[HE.out];rfl,zAs (bal _ _) _⟩
theorem zPF (g off:Nat) (v:Int) (cs:Cs) (u:List Nat) (a b p sp dp f:Int) (m:Int×Int) (w:World) (hA:At w g off (zAC v cs)) (hg:g<w.heap.size) (hgood:zCB cs) (hx:0<=f/\f<=255) (hu:cs.getD 6 none=some u):Calls Tryz.prog 33 #[.pointer (some ⟨g,off,none⟩),.int .i64 6,.agg #[.int .u32 a,.int .u32 b,.int .u8 p,.int .u16 sp,.int .u16 dp,.int .u8 f],.int .i64 m.1,.int .i64 m.2] w fun e w'=>e= .returned (.bool (zDd 6 u a b p sp dp f m))/\Below w.heap.size w w':=by
 obtain⟨mk,wt,rfl,hmk⟩:∃mk wt:Nat,u=[mk,wt]/\mk<=63:=by
  have:=hgood.2 6 u hu;unfold zJj at this;simp at this;obtain⟨x,y,rfl,h1,_⟩:=this;exact⟨x,y,rfl,h1⟩
 have c1:=hA 19 (.int .i64 (mk:Int)) (by show some (cvO (cs.getD 6 none) 0)=_;rw[hu];rfl);have c2:=hA 20 (.int .i64 (wt:Int)) (by show some (cvO (cs.getD 6 none) 1)=_;rw[hu];rfl);have hgn:g≠w.heap.size:=by omega
 obtain⟨F,hF⟩:∃F:Nat,f=(F:Int):=⟨f.toNat,by omega⟩;subst hF;have hF:F<=255:=by omega
 have HE:Hid (zDd 6 [mk,wt] a b p sp dp (F:Int) m=(((F&&& mk:Nat):Int) == (wt:Int))):=rfl;have i1:IntKind.i64.wrap (F:Int)=(F:Int):=by rw[IntKind.wrap_i64];omega
 have i2:bits BinOp.and IntKind.i64 (F:Int) (mk:Int)=((F&&& mk:Nat):Int):=zQu F mk hF (by omega);obtain⟨m1,m2⟩:=m;dsimp only at HE ⊢;generalize ((F&&& mk:Nat):Int)=r at HE i2;clear hA hu hx hgood;go_enter Tryz.func33,Tryz.ntmps33;go_upto_region 15 with fail
 go_quiet (fail);go_wp2_with fail;go_ret;exact⟨by rw[HE.out];rfl,zAs (bal _ _) _⟩
theorem zPG (g off:Nat) (v:Int) (cs:Cs) (u:List Nat) (a b p sp dp f:Int) (m:Int×Int) (w:World) (hA:At w g off (zAC v cs)) (hg:g<w.heap.size) (hm:0<=m.2/\m.2<=2) (hu:cs.getD 7 none=some u):Calls Tryz.prog 33 #[.pointer (some ⟨g,off,none⟩),.int .i64 7,.agg #[.int .u32 a,.int .u32 b,.int .u8 p,.int .u16 sp,.int .u16 dp,.int .u8 f],.int .i64 m.1,.int .i64 m.2] w fun e w'=>e= .returned (.bool (zDd 7 u a b p sp dp f m))/\Below w.heap.size w w':=by
 obtain⟨m1,m2⟩:=m;obtain⟨t,ht⟩:∃t:Nat,m2=(t:Int):=⟨m2.toNat,by dsimp only at hm;omega⟩;subst ht;dsimp only at hm ⊢;have ht3:t<=2:=by omega
 have c:=hA (21+t) (.bool (u.getD t 0 == 1)) (by
  have:t=0\/t=1\/t=2:=by omega
  rcases this with rfl|rfl|rfl
  ·show some (stO (cs.getD 7 none) 0)=_;rw[hu];rfl
  ·show some (stO (cs.getD 7 none) 1)=_;rw[hu];rfl
  ·show some (stO (cs.getD 7 none) 2)=_;rw[hu];rfl)
 rw[<-Nat.add_assoc] at c;have hgn:g≠w.heap.size:=by omega
 have HE:Hid (zDd 7 u a b p sp dp f (m1,(t:Int))=(u.getD t 0 == 1)):=rfl;generalize (u.getD t 0 == 1)=x at c HE;have i1:(0:Int)<=(t:Int):=by omega
 have i2:(t:Int)<3:=by omega
 clear hA hu hm;go_enter Tryz.func33,Tryz.ntmps33;go_wp2_with fail;go_ret;exact⟨by rw[HE.out];rfl,bal _ _⟩
theorem zK7 (c g off:Nat) (v:Int) (cs:Cs) (u:List Nat) (a b p sp dp f:Int) (m:Int×Int) (w:World) (hc:c<8) (hA:At w g off (zAC v cs)) (hg:g<w.heap.size) (hgood:zCB cs) (ha:0<=a/\a<=4294967295) (hb:0<=b/\b<=4294967295) (hp:0<=p/\p<=255) (hsp:0<=sp/\sp<=65535) (hdp:0<=dp/\dp<=65535) (hf:0<=f/\f<=255) (hm:0<=m.2/\m.2<=2) (hu:cs.getD c none=some u):
 Calls Tryz.prog 33 #[.pointer (some ⟨g,off,none⟩),.int .i64 (c:Int),.agg #[.int .u32 a,.int .u32 b,.int .u8 p,.int .u16 sp,.int .u16 dp,.int .u8 f],.int .i64 m.1,.int .i64 m.2] w fun e w'=>e= .returned (.bool (zDd c u a b p sp dp f m))/\Below w.heap.size w w':=by
 have h8:c=0\/c=1\/c=2\/c=3\/c=4\/c=5\/c=6\/c=7:=by omega
 rcases h8 with rfl|rfl|rfl|rfl|rfl|rfl|rfl|rfl
 ·exact zO9 g off v cs u a b p sp dp f m w hA hg hu
 ·exact zPA g off v cs u a b p sp dp f m w hA hg hgood ha hu
 ·exact zPB g off v cs u a b p sp dp f m w hA hg hgood hb hu
 ·exact zPC g off v cs u a b p sp dp f m w hA hg hp hu
 ·exact zPD g off v cs u a b p sp dp f m w hA hg hsp hu
 ·exact zPE g off v cs u a b p sp dp f m w hA hg hdp hu
 ·exact zPF g off v cs u a b p sp dp f m w hA hg hgood hf hu
 ·exact zPG g off v cs u a b p sp dp f m w hA hg hm hu
theorem zFg:∀(rs:List Rl) (i k:Nat) (r:Rl),rs[i]? =some r->k<24->(zBE rs)[i*24+k]? =(zAC (r.v:Int) r.cs)[k]?
 |[],i,k,r,h,_=>by simp at h
 |x::rs,0,k,r,h,hk=>by
  simp only[List.getElem?_cons_zero,Option.some.injEq] at h;subst h
  show(zAC (x.v:Int) x.cs++zBE rs)[0*24+k]? =_
  rw[List.getElem?_append_left (by rw[zBd];omega),Nat.zero_mul,Nat.zero_add]
 |x::rs,i+1,k,r,h,hk=>by
  simp only[List.getElem?_cons_succ] at h
  show(zAC (x.v:Int) x.cs++zBE rs)[(i+1)*24+k]? =_
  rw[List.getElem?_append_right (by rw[zBd];omega),zBd,show(i+1)*24+k-24=i*24+k by omega];exact zFg rs i k r h hk
theorem zRv {w:World} {B g n c:Nat} {rs:List Rl} (h:w.ownsRow B 65 24 (.slice (some ⟨g,0,none⟩) n c) n (zBE rs)) (hn:n=rs.length) (i:Nat) (r:Rl) (hr:rs[i]? =some r):At w g (i*24) (zAC (r.v:Int) r.cs):=by
 intro k x hx;have hk:k<24:=by
  have:=(List.getElem?_eq_some_iff.1 hx).1;rw[zBd] at this;exact this
 have hi:i<rs.length:=(List.getElem?_eq_some_iff.1 hr).1;rw[h.cellAt (i*24+k) (by subst hn;omega),zFg rs i k r hr hk,hx]
theorem zGO (cs:Cs) (a b p sp dp f:Int) (m:Int×Int) (c:Nat) (q:Bool) (hc:c<8) (h:zD4 cs a b p sp dp f m 8 0=(q&&zD4 cs a b p sp dp f m (8-c) c)):zD4 cs a b p sp dp f m 8 0=((q&&zEp cs c a b p sp dp f m)&&zD4 cs a b p sp dp f m (8-(c+1)) (c+1)):=by
 rw[h,show 8-c=(8-(c+1))+1 by omega,zD4,Bool.and_assoc]
theorem zNa (pol:Nat) (a b p sp dp f:Int) (m:Int×Int) (rs:List Rl) (i:Nat) (r:Rl) (hr:rs[i]? =some r):zJR pol a b p sp dp f m (rs.drop i)=if zD4 r.cs a b p sp dp f m 8 0=true then r.v else zJR pol a b p sp dp f m (rs.drop (i+1)):=by
 obtain⟨hi,e⟩:=List.getElem?_eq_some_iff.1 hr;rw[List.drop_eq_getElem_cons hi,e,zJR]
theorem zIG (pol:Nat) (rs:List Rl) (rp:Option Addr) (rl rc B:Nat) (a b p sp dp f:Int) (m:Int×Int) (w:World) (hO:w.ownsRow B 65 24 (.slice rp rl rc) rs.length (zBE rs)) (hl48:rs.length<=48) (hgood:∀r ∈ rs,zGa r)
 (ha:0<=a/\a<=4294967295) (hb:0<=b/\b<=4294967295) (hp:0<=p/\p<=255) (hsp:0<=sp/\sp<=65535) (hdp:0<=dp/\dp<=65535) (hf:0<=f/\f<=255) (hm:0<=m.2/\m.2<=2):
 Calls Tryz.prog 14 #[.agg #[.int .i64 (pol:Int),.slice rp rl rc],.agg #[.int .u32 a,.int .u32 b,.int .u8 p,.int .u16 sp,.int .u16 dp,.int .u8 f],.int .i64 m.1,.int .i64 m.2] w fun e w'=>e= .returned (.int .i64 (zJR pol a b p sp dp f m rs:Int))/\Below w.heap.size w w':=by
 obtain⟨p',c',hf'⟩:=zMH hO;cases hf';have HAT:Hid (∀i r,rs[i]? =some r->∃g,rp=some ⟨g,0,none⟩/\g<w.heap.size/\At w g (i*24) (zAC (r.v:Int) r.cs)):=fun i r hr=>by
  have hi:i<rs.length:=(List.getElem?_eq_some_iff.1 hr).1;rcases hO.2 with⟨e,e'⟩|⟨g,cap,cur,e,hg,hh,hn,hm,_⟩
  ·omega
  ·cases e
   exact⟨g,rfl,(Array.getElem?_eq_some_iff.1 hh).1,zRv hO rfl i r hr⟩
 have HG:=hid hgood;have HX:Hid ((0<=a/\a<=4294967295)/\(0<=b/\b<=4294967295)/\(0<=p/\p<=255)/\(0<=sp/\sp<=65535)/\(0<=dp/\dp<=65535)/\(0<=f/\f<=255)/\(0<=m.2/\m.2<=2)):=⟨ha,hb,hp,hsp,hdp,hf,hm⟩;obtain⟨m1,m2⟩:=m;dsimp only at HX ⊢;clear hO hgood ha hb hp hsp hdp hf hm;go_enter Tryz.func14,Tryz.ntmps14;go_wp2_with fail;have HB0:Hid (Below w.heap.size w ((w.alloc (.cells #[.int .i64 (pol:Int),.slice rp rs.length rc] 27)).alloc (.cells #[.int .u32 a,.int .u32 b,.int .u8 p,.int .u16 sp,.int .u16 dp,.int .u8 f] 38))):=(bal _ _).alloc (by simp) _;have hz2:((w.alloc (.cells #[.int .i64 (pol:Int),.slice rp rs.length rc] 27)).alloc (.cells #[.int .u32 a,.int .u32 b,.int .u8 p,.int .u16 sp,.int .u16 dp,.int .u8 f] 38)).heap.size=w.heap.size+2:=by simp
 have HK:Hid (∀i x,(#[.int .i64 (pol:Int),.slice rp rs.length rc]:Array Value)[i]? =some x->((w.alloc (.cells #[.int .i64 (pol:Int),.slice rp rs.length rc] 27)).alloc (.cells #[.int .u32 a,.int .u32 b,.int .u8 p,.int .u16 sp,.int .u16 dp,.int .u8 f] 38)).cell? ⟨w.heap.size,i,none⟩=some x):=fun i x hx=>by
  rw[World.cell?_alloc_lt _ _ _ (by simp),World.cell?_alloc_at _ _ _ _ rfl];exact hx
 have HH:Hid (∀i x,(#[.int .u32 a,.int .u32 b,.int .u8 p,.int .u16 sp,.int .u16 dp,.int .u8 f]:Array Value)[i]? =some x->((w.alloc (.cells #[.int .i64 (pol:Int),.slice rp rs.length rc] 27)).alloc (.cells #[.int .u32 a,.int .u32 b,.int .u8 p,.int .u16 sp,.int .u16 dp,.int .u8 f] 38)).cell? ⟨w.heap.size+1,i,none⟩=some x):=fun i x hx=>by
  rw[World.cell?_alloc_at _ _ _ _ (by simp)];exact hx
 generalize (w.alloc (.cells #[.int .i64 (pol:Int),.slice rp rs.length rc] 27)).alloc (.cells #[.int .u32 a,.int .u32 b,.int .u8 p,.int .u16 sp,.int .u16 dp,.int .u8 f] 38)=W2 at HB0 hz2 HK HH ⊢;go_loopw [9] (fun i wr=>∃j:Nat,j<=rs.length/\i= .int .i64 j/\zJR pol a b p sp dp f (m1,m2) rs=zJR pol a b p sp dp f (m1,m2) (rs.drop j)/\Below W2.heap.size W2 wr) (fun i _=>rs.length-(intOf i).toNat)
 case atStart=>exact⟨0,Nat.zero_le _,rfl,by rw[List.drop_zero],Below.refl _ _⟩
 case round=>
  obtain⟨j,hj,rfl,hdv,hbr⟩:=hrel;have HDV:=hid hdv;have HBr:=hid hbr;have k0:=(hbr.cell (p:=⟨w.heap.size,0,none⟩) (by show w.heap.size<_;omega)).trans (HK.out 0 _ rfl);have k1:=(hbr.cell (p:=⟨w.heap.size,1,none⟩) (by show w.heap.size<_;omega)).trans (HK.out 1 _ rfl);have hz3:=hbr.size;clear hdv hbr
  by_cases hlt:j<rs.length
  ·obtain⟨r,hr⟩:∃r,rs[j]? =some r:=⟨_,List.getElem?_eq_getElem hlt⟩
   have HGR:Hid (zGa r):=HG.out r (List.mem_of_getElem? hr);have HST:Hid (zJR pol a b p sp dp f (m1,m2) rs=if zD4 r.cs a b p sp dp f (m1,m2) 8 0=true then r.v else zJR pol a b p sp dp f (m1,m2) (rs.drop (j+1))):=show _=_ by rw[HDV.out];exact zNa pol a b p sp dp f (m1,m2) rs j r hr
   obtain⟨g,rfl,hgl,hat⟩:=HAT.out j r hr;have HA:Hid (At W2 g (j*24) (zAC (r.v:Int) r.cs)):=hat.below HB0.out hgl;have i1:(0:Int)<=(j:Int):=by omega
   have i2:(j:Int)<(rs.length:Int):=by omega
   have i3:IntKind.i64.wrap ((j:Int)+1)=(j:Int)+1:=by rw[IntKind.wrap_i64];omega
   clear hat hr;go_wp2_with fail;go_loopw [10,11] (fun q c wi=>∃(k:Nat) (qb:Bool),k<=8/\c= .int .i64 k/\q= .bool qb/\zD4 r.cs a b p sp dp f (m1,m2) 8 0=(qb&&zD4 r.cs a b p sp dp f (m1,m2) (8-k) k)/\Below W2.heap.size W2 wi) (fun _ c _=>8-(intOf c).toNat)
   case atStart=>exact⟨0,true,by omega,rfl,rfl,by rw[Bool.true_and],HBr.out⟩
   case round=>
    obtain⟨k,qb,hk,rfl,rfl,hcs,hbi⟩:=hrel;have HCS:=hid hcs;have HBi:=hid hbi;have q0:=(hbi.cell (p:=⟨w.heap.size,0,none⟩) (by show w.heap.size<_;omega)).trans (HK.out 0 _ rfl);have q1:=(hbi.cell (p:=⟨w.heap.size,1,none⟩) (by show w.heap.size<_;omega)).trans (HK.out 1 _ rfl);have g0:=(hbi.cell (p:=⟨w.heap.size+1,0,none⟩) (by show w.heap.size+1<_;omega)).trans (HH.out 0 _ rfl);have g1:=(hbi.cell (p:=⟨w.heap.size+1,1,none⟩) (by show w.heap.size+1<_;omega)).trans (HH.out 1 _ rfl);have g2:=(hbi.cell (p:=⟨w.heap.size+1,2,none⟩) (by show w.heap.size+1<_;omega)).trans (HH.out 2 _ rfl);have g3:=(hbi.cell (p:=⟨w.heap.size+1,3,none⟩) (by show w.heap.size+1<_;omega)).trans (HH.out 3 _ rfl);have g4:=(hbi.cell (p:=⟨w.heap.size+1,4,none⟩) (by show w.heap.size+1<_;omega)).trans (HH.out 4 _ rfl);have g5:=(hbi.cell (p:=⟨w.heap.size+1,5,none⟩) (by show w.heap.size+1<_;omega)).trans (HH.out 5 _ rfl);have HAi:Hid (At wr g (j*24) (zAC (r.v:Int) r.cs)):=HA.out.below hbi (by omega);have hz4:=hbi.size;clear hcs hbi
    by_cases hk8:k<8
    ·obtain⟨bh,hbh⟩:∃q,(r.cs.getD k none).isSome=q:=⟨_,rfl⟩
     have c1:=HAi.out (1+k) (.bool bh) (by rw[zEV _ _ k hk8,hbh]);rw[<-Nat.add_assoc] at c1;have l1:(0:Int)<=(k:Int):=by omega
     have l2:(k:Int)<8:=by omega
     have l3:IntKind.i64.wrap ((k:Int)+1)=(k:Int)+1:=by rw[IntKind.wrap_i64];omega
     cases bh with
     |false=>
      have HO:Hid (zEp r.cs k a b p sp dp f (m1,m2)=true):=show zEp r.cs k a b p sp dp f (m1,m2)=true by
       unfold zEp;cases hq:r.cs.getD k none with
       |none=>rfl
       |some x=>rw[hq] at hbh;cases hbh
      clear hbh;go_wp2_with fail;go_roundw
      case rel=>exact⟨k+1,qb,by omega,by go_num,rfl,by rw[zGO r.cs a b p sp dp f (m1,m2) k qb hk8 HCS.out,HO.out,Bool.and_true],HBi.out⟩
      case measure=>simp[intOf];omega
     |true=>
      obtain⟨u,hu⟩:∃u,r.cs.getD k none=some u:=Option.isSome_iff_exists.1 hbh;have HO:Hid (zEp r.cs k a b p sp dp f (m1,m2)=zDd k u a b p sp dp f (m1,m2)):=show zEp r.cs k a b p sp dp f (m1,m2)=_ by unfold zEp;rw[hu]
      have HHd:Hid (∀W:World,W.heap=wr.heap->Calls Tryz.prog 33 #[.pointer (some ⟨g,j*24,none⟩),.int .i64 (k:Int),.agg #[.int .u32 a,.int .u32 b,.int .u8 p,.int .u16 sp,.int .u16 dp,.int .u8 f],.int .i64 m1,.int .i64 m2] W fun e w'=>e= .returned (.bool (zDd k u a b p sp dp f (m1,m2)))/\Below W.heap.size W w'):=fun W hW=>zK7 k g (j*24) (r.v:Int) r.cs u a b p sp dp f (m1,m2) W hk8 (fun i x hx=>by have:=HAi.out i x hx;simp only[World.cell?,hW] at this ⊢;exact this) (by rw[hW];omega) HGR.out.cs HX.out.1 HX.out.2.1 HX.out.2.2.1 HX.out.2.2.2.1 HX.out.2.2.2.2.1 HX.out.2.2.2.2.2.1 HX.out.2.2.2.2.2.2 hu
      obtain⟨t,ht⟩:∃t,zDd k u a b p sp dp f (m1,m2)=t:=⟨_,rfl⟩;rw[ht] at HO HHd;clear hbh hu ht;go_upto_region 9 with fail
      go_cut [12] from 32 to 40 (fun x w'=>x= .bool t/\Below W2.heap.size W2 w')
      case first=>
       go_region_with (go_at_call 33;refine(HHd.out _ (by rfl)).mono ?_;rintro e w' ⟨rfl,hb'⟩)
       all_goals
        go_wp2_with fail;go_meet;exact⟨rfl,HBi.out.drew.trans (hb'.mono (show W2.heap.size<=wr.heap.size from hz4))⟩
      obtain⟨rfl,hb3⟩:=hcut;have HB3:=hid hb3;clear hb3;cases qb
      all_goals
       go_wp2_with fail;go_roundw
       case rel=>exact⟨k+1,_,by omega,by go_num,rfl,by rw[zGO r.cs a b p sp dp f (m1,m2) k _ hk8 HCS.out,HO.out];simp,HB3.out⟩
       case measure=>simp[intOf];omega
    ·obtain rfl:k=8:=by omega
     have HC8:Hid (zD4 r.cs a b p sp dp f (m1,m2) 8 0=qb):=show _=_ by rw[HCS.out];exact Bool.and_true _
     have cv:=HAi.out 0 (.int .i64 (r.v:Int)) rfl;rw[Nat.add_zero] at cv;cases qb with
     |true=>
      go_wp2_with fail;go_ret;refine⟨?_,HB0.out.trans (HBi.out.mono (by omega))⟩;rw[HST.out,if_pos HC8.out];rfl
     |false=>
      go_wp2_with fail;go_roundw
      case rel=>exact⟨j+1,by omega,by go_num,by rw[HST.out,if_neg (by rw[HC8.out];decide)],HBi.out⟩
      case measure=>simp[intOf];omega
  ·have hjl:decide ((j:Int)<(rs.length:Int))=false:=by simp;omega
   have HE:Hid (zJR pol a b p sp dp f (m1,m2) rs=pol):=show _=_ by rw[HDV.out,List.drop_eq_nil_of_le (by omega)];rfl
   go_wp2_with fail;go_ret;refine⟨?_,HB0.out.trans (HBr.out.mono (by omega))⟩;rw[HE.out];rfl
end Go.Proofs.YtclpnafiiobfhaaGreatDoor

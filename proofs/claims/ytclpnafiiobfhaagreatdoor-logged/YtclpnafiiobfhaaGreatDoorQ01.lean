import Derived.Lib.SlicesS
import Derived.Lib.ItoaNum
import Derived.Lib.Join
import Derived.WalkSpells
import Derived.WalkLawsBesides
import Derived.BigQuiet
import Derived.Shelf.Strings.Cut
import Derived.Shelf.Strings.Split
import Derived.Test.YtclpnafiiobfhaaGreatDoorProg
import Derived.Deep.RegionHeld3
import Derived.Deep.CutRange
import Derived.Deep.AppendLies
set_option linter.unusedVariables false
set_option linter.unusedSimpArgs false
set_option maxHeartbeats 1600000
namespace Go.Proofs.YtclpnafiiobfhaaGreatDoor
open Go.RowKit
theorem hid {p:Prop} (h:p):Go.RowKit.Hid p:=h
theorem bal (w:World) (o:Obj):Below w.heap.size w (w.alloc o):=(Below.refl _ _).alloc (Nat.le_refl _) _
def nth (s:ByteArray) (i:Nat):Int:=((s.data.toList.getD i 0).toNat:Int)
theorem zAN (s:ByteArray) (i:Nat):0<=nth s i/\nth s i<=255:=by
 unfold nth;have:=(s.data.toList.getD i 0).toNat_lt;omega
theorem zA5 (s:ByteArray) (i:Nat) (h:i<s.size):((s[i]).toNat:Int)=nth s i:=by
 unfold nth;have h':i<s.data.toList.length:=by simpa using h
 rw[List.getD_eq_getElem?_getD,List.getElem?_eq_getElem h'];rfl
def zAB (s:ByteArray) (k:Nat):Nat->Int
 |0=>0
 |n+1=>256*zAB s k n+nth s (k+n)
theorem zPa (s:ByteArray) (k:Nat):zAB s k 0=0:=rfl
theorem zEy (s:ByteArray) (k n:Nat):zAB s k (n+1)=256*zAB s k n+nth s (k+n):=rfl
theorem zLg (s:ByteArray) (k n:Nat):0<=zAB s k n/\zAB s k n<(256:Int) ^ n:=by
 induction n with
 |zero=>simp[zAB]
 |succ n ih=>
  have:=zAN s (k+n);rw[zEy];have e:(256:Int) ^ (n+1)=256 ^ n*256:=Int.pow_succ _ _;omega
theorem zAt (s:ByteArray) (k n:Nat) (h:n<=4):0<=zAB s k n/\zAB s k n<=4294967295:=by
 have hb:=zLg s k n;rcases n with _|_|_|_|_|n
 ·simp at hb ⊢;omega
 ·simp at hb ⊢;omega
 ·simp at hb ⊢;omega
 ·simp at hb ⊢;omega
 ·simp at hb ⊢;omega
 ·omega
theorem zPb (s:ByteArray) (k:Nat):zAB s k 2=256*nth s k+nth s (k+1):=by simp[zAB]
theorem zQ6 (s:ByteArray) (k:Nat):zAB s k 4=65536*zAB s k 2+zAB s (k+2) 2:=by
 have e:k+2+1=k+3:=rfl;simp only[zAB,Nat.add_zero,e];omega
theorem zAD (s:ByteArray) (k:Nat):0<=zAB s k 2/\zAB s k 2<=65535:=by
 have h1:=zAN s k;have h2:=zAN s (k+1);rw[zPb];omega
def zBm (s:ByteArray):Nat->Int
 |0=>0
 |j+1=>zBm s j+zAB s (14+2*j) 2
theorem zGX (s:ByteArray) (j:Nat):0<=zBm s j/\zBm s j<=65535*j:=by
 induction j with
 |zero=>simp[zBm]
 |succ j ih=>have:=zAD s (14+2*j);simp only[zBm];omega
def zLh (v:Int):Int:=if 65535<v then v % 65536+v / 65536 else v
def zD7 (v:Int):Int:=zLh (zLh v)
theorem zHH (v:Int) (h:v<=65535):zD7 v=v:=by unfold zD7 zLh;split<;>(try split)<;>omega
theorem zHI (v:Int) (h:65535<v) (h1:v<=655350):zD7 (v % 65536+v / 65536)=zD7 v:=by
 unfold zD7 zLh;repeat' split
 all_goals omega
def inn (s:ByteArray) (t:Int):Bool:=
 if nth s 23=6 then decide (t<40)||(decide (nth s 46 / 16<5)||decide (t-20<4*(nth s 46 / 16)))
 else if nth s 23=17 then decide (t<28)||(decide (zAB s 38 2<8)||decide (t-20<zAB s 38 2))
 else if nth s 23=1 then decide (t<28)
 else false
def cls (s:ByteArray):Int:=
 if s.size<14 then 1
 else if zAB s 12 2≠2048 then 2
 else if s.size<34 then 3
 else if nth s 14 / 16≠4 then 4
 else if nth s 14 % 16≠5 then 5
 else if zAB s 16 2<20\/(s.size:Int)-14<zAB s 16 2 then 6
 else if zD7 (zBm s 10)≠65535 then 7
 else if zAB s 20 2 % 16384≠0 then 8
 else if inn s (zAB s 16 2) then 9 else 0
theorem tn2:(2:Int).toNat=2:=rfl
theorem tn4:(4:Int).toNat=4:=rfl
theorem zEr:(12:Int).toNat=12:=rfl
theorem zEi:(16:Int).toNat=16:=rfl
theorem zEs:(20:Int).toNat=20:=rfl
theorem zLi:(26:Int).toNat=26:=rfl
theorem zLj:(30:Int).toNat=30:=rfl
theorem zLk:(34:Int).toNat=34:=rfl
theorem zLl:(36:Int).toNat=36:=rfl
theorem zLU:(38:Int).toNat=38:=rfl
def hdr (s:ByteArray):Array Value:=
 let p:=nth s 23
 let sp:Int:=if p=6\/p=17 then zAB s 34 2 else if p=1/\(nth s 34=8\/nth s 34=0) then zAB s 38 2 else 0
 let dp:Int:=if p=6\/p=17 then zAB s 36 2 else if p=1/\(nth s 34=8\/nth s 34=0) then zAB s 38 2 else 0
 let fl:Int:=if p=6 then nth s 47 % 64 else if p=1 then nth s 34 else 0
 #[.int .u32 (zAB s 26 4),.int .u32 (zAB s 30 4),.int .u8 p,.int .u16 sp,.int .u16 dp,.int .u8 fl]
def zN8:Array Value:= #[.int .u32 0,.int .u32 0,.int .u8 0,.int .u16 0,.int .u16 0,.int .u8 0]
theorem zCw (s:ByteArray):0<=zD7 (zBm s 10)/\zD7 (zBm s 10)<=65535:=by
 have h:=zGX s 10;generalize zBm s 10=v at*;unfold zD7 zLh;repeat' split
 all_goals omega
theorem zDV {k:IntKind} {a b:Int} (h:a=b):Ending.returned (.int k a)= .returned (.int k b):=by rw[h]
theorem zAl {a b:Bool} (h:a=b):Ending.returned (.bool a)= .returned (.bool b):=by rw[h]
def ba (l:List UInt8):ByteArray:=⟨l.toArray⟩
def bl (s:ByteArray):List UInt8:=s.data.toList
theorem zHJ (s:ByteArray):ba (bl s)=s:=by simp[ba,bl]
theorem zLm (l:List UInt8):bl (ba l)=l:=by simp[ba,bl]
theorem zGY (l:List UInt8):(ba l).size=l.length:=by simp[ba,ByteArray.size]
theorem zCx (s:ByteArray):(bl s).length=s.size:=Array.length_toList
theorem zQ7 {a b:ByteArray} (h:bl a=bl b):a=b:=by rw[<-zHJ a,h,zHJ]
def zB0 (c:UInt8):List UInt8->List (List UInt8)
 |[]=>[[]]
 |x::l=>if x=c then[]::zB0 c l else(x::(zB0 c l).headD [])::(zB0 c l).tail
theorem zD8 (c:UInt8) (l:List UInt8):∃p r,zB0 c l=p::r:=by
 cases l with
 |nil=>exact⟨_,_,rfl⟩
 |cons x l=>unfold zB0;split<;>exact⟨_,_,rfl⟩
theorem zB6 (c:UInt8):∀(p:List UInt8),(∀x ∈ p,x≠c)->zB0 c p=[p]
 |[],_=>rfl
 |x::p,h=>by
  have h1:=zB6 c p (fun y hy=>h y (List.mem_cons_of_mem _ hy));rw[zB0,if_neg (h x (List.mem_cons_self ..)),h1];rfl
theorem zDe (c:UInt8) (r:List UInt8):∀(p:List UInt8),(∀x ∈ p,x≠c)->zB0 c (p++c::r)=p::zB0 c r
 |[],_=>by rw[List.nil_append,zB0,if_pos rfl]
 |x::p,h=>by
  have h1:=zDe c r p (fun y hy=>h y (List.mem_cons_of_mem _ hy));rw[List.cons_append,zB0,if_neg (h x (List.mem_cons_self ..)),h1];rfl
theorem zHK (c:UInt8):∀(l:List UInt8),(zB0 c l).length<=l.length+1
 |[]=>Nat.le_refl _
 |x::l=>by
  have h:=zHK c l;unfold zB0
  split
  ·simp only[List.length_cons];omega
  ·simp only[List.length_cons,List.length_tail];omega
theorem zDf (c:UInt8):∀(l p:List UInt8),p ∈ zB0 c l->(∀x ∈ p,x≠c)/\p.length<=l.length
 |[],p,h=>by
  rw[zB0,List.mem_singleton] at h;subst h;exact⟨fun x hx=>by simp at hx,Nat.le_refl _⟩
 |x::l,p,h=>by
  unfold zB0 at h
  split at h
  ·rcases List.mem_cons.1 h with rfl|h
   ·exact⟨fun x hx=>by simp at hx,Nat.zero_le _⟩
   ·have:=zDf c l p h
    exact⟨this.1,by simp only[List.length_cons];omega⟩
  ·rename_i hx
   obtain⟨q,r,e⟩:=zD8 c l;have hq:=zDf c l q (by rw[e];exact List.mem_cons_self ..);rcases List.mem_cons.1 h with rfl|h
   ·rw[e,List.headD_cons]
    refine⟨fun y hy=> ?_,by simp only[List.length_cons];omega⟩;rcases List.mem_cons.1 hy with rfl|hy
    ·exact hx
    ·exact hq.1 y hy
   ·have hm:=zDf c l p (List.mem_of_mem_tail h)
    exact⟨hm.1,by simp only[List.length_cons];omega⟩
open Go.Lib in
theorem zDP (c:UInt8) (l:List UInt8) (h:index l [c]= -1):∀x ∈ l,x≠c:=by
 rcases index_spec l [c] with⟨_,h2⟩|⟨i,h1,_⟩
 ·intro x hx e
  obtain⟨j,hj,rfl⟩:=List.getElem_of_mem hx;have:=h2 j (Nat.le_of_lt hj);rw[occAt,List.drop_eq_getElem_cons hj,e] at this;simp at this
 ·omega
open Go.Lib in
theorem zDQ (c:UInt8) (l:List UInt8) (i:Nat) (h:index l [c]=i):l=l.take i++c::l.drop (i+1)/\(∀x ∈ l.take i,x≠c)/\i<l.length:=by
 rcases index_spec l [c] with⟨h1,_⟩|⟨j,h1,h2,h3,h4⟩
 ·omega
 ·have e:i=j:=by omega
  subst e;have hlt:i<l.length:=by
   rcases Nat.lt_or_ge i l.length with g|g
   ·exact g
   ·rw[occAt,List.drop_eq_nil_of_le g] at h3
    simp at h3
  refine⟨?_,fun x hx e=> ?_,hlt⟩
  ·have hc:l[i]=c:=by
    rw[occAt,List.drop_eq_getElem_cons hlt,List.isPrefixOf_cons_cons,Bool.and_eq_true] at h3;exact(beq_iff_eq.1 h3.1).symm
   conv=>lhs;rw[<-List.take_append_drop i l]
   rw[List.drop_eq_getElem_cons hlt,hc]
  ·obtain⟨j,hj,rfl⟩:=List.getElem_of_mem hx
   have hj':j<i:=by simp at hj;omega
   have:=h4 j hj';rw[List.getElem_take] at e;rw[occAt,List.drop_eq_getElem_cons (by omega:j<l.length),e] at this;simp at this
open Go.Lib in
theorem zEO (c:UInt8):∀(fuel:Nat) (l:List UInt8),l.length<fuel->splitK [c] 0 (countFrom [c] fuel l) l=zB0 c l
 |0,l,h=>by omega
 |fuel+1,l,h=>by
  rw[countFrom]
  by_cases hi:index l [c]= -1
  ·rw[if_pos (by rw[hi];rfl),splitK,zB6 c l (zDP c l hi)]
  ·rw[if_neg (by simpa using hi)]
   rcases index_spec l [c] with⟨h1,_⟩|⟨i,h1,h2,h3,h4⟩
   ·exact absurd h1 hi
   ·obtain⟨e,hn,hlt⟩:=zDQ c l i h1
    rw[Nat.add_comm 1,splitK,if_neg (by simpa using hi),h1,Int.toNat_natCast,Nat.add_zero];have ih:=zEO c fuel (l.drop (i+1)) (by rw[List.length_drop];omega)
    show _::splitK [c] 0 _ (l.drop (i+[c].length))=_
    rw[show[c].length=1 from rfl,ih]
    conv=>rhs;rw[e,zDe c _ _ hn]
theorem zEP (c:UInt8) (s:ByteArray):Lib.splitB (ba [c]) 0 (Lib.countB s (ba [c])) s=(zB0 c (bl s)).map ba:=by
 have h1:=Lib.splitB_data (ba [c]) 0 (Lib.countB s (ba [c])) s;have h2:Lib.splitK [c] 0 (Lib.countB s (ba [c])) (bl s)=zB0 c (bl s):=zEO c _ _ (by simp);have h3:(Lib.splitB (ba [c]) 0 (Lib.countB s (ba [c])) s).map bl=zB0 c (bl s):=by rw[<-h2];exact h1
 have h4:=congrArg (List.map ba) h3;rw[List.map_map] at h4;have e:ba ∘ bl=id:=funext zHJ;rw[e,List.map_id] at h4;exact h4
theorem zHL (c:UInt8) (s:ByteArray):Lib.countB s (ba [c])+1=(zB0 c (bl s)).length:=by
 have:=Lib.splitB_all (ba [c]) (by simp[zGY]) 0 _ s rfl;rw[zEP,List.length_map] at this;exact this.symm
def zKX (x:UInt8):Bool:=decide (48<=x.toNat)&&decide (x.toNat<=57)
def val (l:List UInt8):Nat:=l.foldl (fun v x=>10*v+(x.toNat-48)) 0
def zAv (s:ByteArray):Option Nat:=if s.size≠0/\(bl s).all zKX=true then some (val (bl s)) else none
def zBJ:List ByteArray->Option (List Nat)
 |[]=>some []
 |p::r=>(zAv p).bind fun v=>(zBJ r).map fun vs=>v::vs
def zAj (c:UInt8) (s:ByteArray):List ByteArray:=(zB0 c (bl s)).map ba
def zAh (s:ByteArray):List ByteArray:=(zAj 32 s).filter fun p=>p.size !=0
abbrev plc (ws:List ByteArray) (s:ByteArray):Int:=Lib.idxOfS ws s
def vws:List ByteArray:=[⟨#[100,114,111,112]⟩,⟨#[97,99,99,101,112,116]⟩,⟨#[114,101,106,101,99,116]⟩]
def nws:List ByteArray:=[⟨#[105,110]⟩,⟨#[102,114,111,109]⟩,⟨#[116,111]⟩,⟨#[112,114,111,116,111]⟩,⟨#[115,112,111,114,116]⟩,⟨#[100,112,111,114,116]⟩,⟨#[102,108,97,103,115]⟩,⟨#[115,116,97,116,101]⟩]
def sws:List ByteArray:=[⟨#[110,101,119]⟩,⟨#[101,115,116,97,98,108,105,115,104,101,100]⟩,⟨#[105,110,118,97,108,105,100]⟩]
def pws:List ByteArray:=[⟨#[105,99,109,112]⟩,⟨#[116,99,112]⟩,⟨#[117,100,112]⟩]
def zRy:ByteArray:=⟨#[112,111,108,105,99,121]⟩
def zCA (p:ByteArray):Nat×List Nat:=match zAv p with
 |none=>(3,[])
 |some n=>if n<=255 then(0,[n]) else(5,[])
def zCS (q:List Nat) (n:Nat):Nat×List Nat:=match q with
 |[a,b,c,d]=>if a<=255/\b<=255/\c<=255/\d<=255/\n<=32/\(((a*256+b)*256+c)*256+d) % 2 ^ (32-n)=0 then(0,[((a*256+b)*256+c)*256+d,n]) else(5,[])
 |_=>(3,[])
def zAX (p:ByteArray):Nat×List Nat:=match zAj 47 p with
 |[a,b]=>match zBJ (zAj 46 a),zAv b with
  |some q,some n=>zCS q n
  |_,_=>(3,[])
 |_=>(3,[])
def zAu (p:ByteArray):Nat×List Nat:=if plc pws p<0 then(3,[]) else(0,[[1,6,17].getD (plc pws p).toNat 0])
def zAI (p:ByteArray):Nat×List Nat:=match zBJ (zAj 45 p) with
 |some [a]=>if a<=65535 then(0,[a,a]) else(5,[])
 |some [a,b]=>if b<=65535/\a<=b then(0,[a,b]) else(5,[])
 |_=>(3,[])
def zAk (p:ByteArray):Nat×List Nat:=match zBJ (zAj 47 p) with
 |some [m,s]=>if m<=63/\s&&& m=s then(0,[m,s]) else(5,[])
 |_=>(3,[])
def zAz:List ByteArray->List Bool->Bool->List Bool×Bool
 |[],l,t=>(l,t)
 |p::r,l,t=>zAz r (l.set (plc sws p).toNat true) (t||l.getD (plc sws p).toNat false)
def bn (b:Bool):Nat:=if b then 1 else 0
def zAc (p:ByteArray):Nat×List Nat:=
 if(zAj 44 p).any (fun q=>decide (plc sws q<0)) then(3,[])
 else if(zAz (zAj 44 p) [false,false,false] false).2 then(5,[])
 else(0,(zAz (zAj 44 p) [false,false,false] false).1.map bn)
def zAf (c:Nat) (p:ByteArray):Nat×List Nat:=
 if c=0 then zCA p else if c=1\/c=2 then zAX p else if c=3 then zAu p else if c=4\/c=5 then zAI p else if c=6 then zAk p else zAc p
abbrev Cs:=List (Option (List Nat))
def zAq:Cs:=[none,none,none,none,none,none,none,none]
def zAy:List ByteArray->Cs->Nat×Cs
 |[],cs=>(0,cs)
 |[_],cs=>(3,cs)
 |n::p::r,cs=>
  if plc nws n<0 then(3,cs)
  else if(cs.getD (plc nws n).toNat none).isSome then(6,cs)
  else if(zAf (plc nws n).toNat p).1≠0 then((zAf (plc nws n).toNat p).1,cs)
  else zAy r (cs.set (plc nws n).toNat (some (zAf (plc nws n).toNat p).2))
def zAM (cs:Cs):Nat:=((cs.getD 3 none).getD []).getD 0 0
def zBP (cs:Cs):Bool:=
 (((cs.getD 4 none).isSome||(cs.getD 5 none).isSome)&& !(zAM cs == 6||zAM cs == 17))||((cs.getD 6 none).isSome&& !(zAM cs == 6))
structure Rl where
 v:Nat
 cs:Cs
def zAT (ps:List ByteArray) (ahead:Nat):Nat×Rl:=
 if plc vws (ps.getD 0 ByteArray.empty)<0 then(3,⟨0,zAq⟩)
 else if 48<=ahead then(4,⟨0,zAq⟩)
 else if(zAy ps.tail zAq).1≠0 then((zAy ps.tail zAq).1,⟨0,zAq⟩)
 else if zBP (zAy ps.tail zAq).2 then(7,⟨0,zAq⟩)
 else(0,⟨(plc vws (ps.getD 0 ByteArray.empty)).toNat,(zAy ps.tail zAq).2⟩)
structure Bk where
 has:Bool
 pol:Nat
 rs:List Rl
def bk0:Bk:=⟨false,0,[]⟩
def zAW (ps:List ByteArray):Int:=if ps.length=2/\ps.getD 0 ByteArray.empty=zRy then plc vws (ps.getD 1 ByteArray.empty) else-1
def zAY (b:Bk) (ps:List ByteArray):Nat×Bk:=
 if b.has then(if(zAT ps b.rs.length).1=0 then(0,⟨true,b.pol,b.rs++[(zAT ps b.rs.length).2]⟩) else((zAT ps b.rs.length).1,bk0))
 else if zAW ps<0 then(3,bk0) else(0,⟨true,(zAW ps).toNat,[]⟩)
def zAO:List ByteArray->Nat->Bk->Nat×Nat×Bk
 |[],_,b=>if b.has then(0,0,b) else(3,0,bk0)
 |l::r,n,b=>
  if zAh l=[] then zAO r (n+1) b
  else if(zAY b (zAh l)).1≠0 then((zAY b (zAh l)).1,n+1,bk0)
  else zAO r (n+1) (zAY b (zAh l)).2
def zAJ (s:ByteArray):Nat×Nat×Bk:=if 2000<s.size then(2,0,bk0) else zAO (zAj 10 s) 0 bk0
theorem zPc (s:ByteArray) (a b:Nat):s.extract a b=ba (((bl s).drop a).take (b-a)):=by
 apply zQ7
 rw[zLm];unfold bl;rw[Lib.extract_data]
theorem zHM (s:ByteArray) (i:Nat) (h:i<s.size):∃x:UInt8,(bl s)[i]? =some x/\nth s i=(x.toNat:Int):=by
 have h':i<(bl s).length:=by rw[zCx];exact h
 refine⟨(bl s)[i],List.getElem?_eq_getElem h',?_⟩;unfold nth;rw[List.getD_eq_getElem?_getD]
 show(((bl s)[i]?.getD 0).toNat:Int)=_
 rw[List.getElem?_eq_getElem h'];rfl
structure Mid (s:ByteArray) (c:UInt8) (f i:Nat) (done:List ByteArray):Prop where
 le:f<=i
 top:i<=s.size
 free:∀j,f<=j->j<i->nth s j≠(c.toNat:Int)
 all:zAj c s=done++zAj c (ba ((bl s).drop f))
theorem Mid.start (s:ByteArray) (c:UInt8):Mid s c 0 0 []:=⟨Nat.le_refl _,Nat.zero_le _,fun j _ h=>by omega,by rw[List.drop_zero,zHJ,List.nil_append]⟩
theorem Mid.skip {s:ByteArray} {c:UInt8} {f i:Nat} {done:List ByteArray} (h:Mid s c f i done) (hi:i<s.size) (hn:nth s i≠(c.toNat:Int)):Mid s c f (i+1) done:=
 ⟨by have:=h.le;omega,hi,fun j h1 h2=>by
   by_cases e:j=i
   ·subst e;exact hn
   ·exact h.free j h1 (by omega),h.all⟩
theorem Mid.free' {s:ByteArray} {c:UInt8} {f i:Nat} {done:List ByteArray} (h:Mid s c f i done):∀x ∈ ((bl s).drop f).take (i-f),x≠c:=by
 intro x hx e;obtain⟨j,hj,rfl⟩:=List.getElem_of_mem hx;rw[List.length_take,List.length_drop,zCx] at hj;rw[List.getElem_take,List.getElem_drop] at e;have hs:f+j<s.size:=by omega
 obtain⟨y,hy,hn⟩:=zHM s (f+j) hs;rw[List.getElem?_eq_getElem (by rw[zCx];exact hs)] at hy;have:=h.free (f+j) (by omega) (by omega);rw[hn] at this
 injection hy with hy
 rw[<-hy,e] at this;exact this rfl
theorem Mid.hit {s:ByteArray} {c:UInt8} {f i:Nat} {done:List ByteArray} (h:Mid s c f i done) (hi:i<s.size) (hn:nth s i=(c.toNat:Int)):Mid s c (i+1) (i+1) (done++[s.extract f i]):=by
 refine⟨Nat.le_refl _,hi,fun j h1 h2=>by omega,?_⟩;rw[h.all,List.append_assoc]
 congr 1
 obtain⟨y,hy,hn'⟩:=zHM s i hi;have hyc:y=c:=by
  apply UInt8.toNat_inj.1
  omega
 subst hyc;have hlt:i<(bl s).length:=by rw[zCx];exact hi
 have hle:=h.le;have e:(bl s).drop f=((bl s).drop f).take (i-f)++y::(bl s).drop (i+1):=by
  conv=>lhs;rw[<-List.take_append_drop (i-f) ((bl s).drop f)]
  rw[List.drop_drop,show f+(i-f)=i by omega,List.drop_eq_getElem_cons hlt];rw[List.getElem?_eq_getElem hlt] at hy
  injection hy with hy
  rw[hy]
 unfold zAj;rw[zLm,zLm]
 conv=>lhs;rw[e,zDe y _ _ h.free']
 rw[List.map_cons,zPc];rfl
theorem Mid.done {s:ByteArray} {c:UInt8} {f:Nat} {done:List ByteArray} (h:Mid s c f s.size done):zAj c s=done++[s.extract f s.size]:=by
 rw[h.all]
 congr 1
 have e:((bl s).drop f).take (s.size-f)=(bl s).drop f:=by
  apply List.take_of_length_le
  rw[List.length_drop,zCx];exact Nat.le_refl _
 have hf:=h.free';rw[e] at hf;unfold zAj;rw[zLm,zB6 c _ hf,zPc,e];rfl
def zGZ (s:ByteArray) (i:Nat):Nat:=val ((bl s).take i)
def zLV (s:ByteArray) (i:Nat):Prop:=∀j,j<i->48<=nth s j/\nth s j<=57
theorem zF0 (s:ByteArray):zGZ s 0=0:=rfl
theorem zF1 (s:ByteArray) (i:Nat) (h:i<s.size):((zGZ s (i+1):Nat):Int)=10*(zGZ s i:Int)+((nth s i-48).toNat:Int):=by
 obtain⟨x,hx,hn⟩:=zHM s i h;unfold zGZ val;rw[List.take_add_one,hx,Option.toList_some,List.foldl_append,List.foldl_cons,List.foldl_nil,hn];omega
theorem zLV.succ {s:ByteArray} {i:Nat} (h:zLV s i) (hd:48<=nth s i/\nth s i<=57):zLV s (i+1):=fun j hj=>by
 by_cases e:j=i
 ·subst e;exact hd
 ·exact h j (by omega)
theorem zLn (s:ByteArray) (h0:s.size≠0) (h:zLV s s.size):zAv s=some (zGZ s s.size):=by
 have ha:(bl s).all zKX=true:=by
  rw[List.all_eq_true];intro x hx;obtain⟨j,hj,rfl⟩:=List.getElem_of_mem hx;have hj':j<s.size:=by rw[zCx] at hj;exact hj
  obtain⟨y,hy,hn⟩:=zHM s j hj';rw[List.getElem?_eq_getElem hj] at hy
  injection hy with hy
  have:=h j hj';rw[hn] at this;unfold zKX;rw[hy,Bool.and_eq_true,decide_eq_true_eq,decide_eq_true_eq];omega
 unfold zAv;rw[if_pos ⟨h0,ha⟩];unfold zGZ;rw[List.take_of_length_le (by rw[zCx];exact Nat.le_refl _)]
theorem zLo (s:ByteArray) (i:Nat) (hi:i<s.size) (h:¬(48<=nth s i/\nth s i<=57)):zAv s=none:=by
 unfold zAv;rw[if_neg];rintro⟨_,ha⟩
 apply h
 obtain⟨y,hy,hn⟩:=zHM s i hi;have hm:y ∈ bl s:=List.mem_of_getElem? hy;have:=List.all_eq_true.1 ha y hm;unfold zKX at this;rw[Bool.and_eq_true,decide_eq_true_eq,decide_eq_true_eq] at this;rw[hn];omega
theorem zEz (s:ByteArray) (h:s.size=0):zAv s=none:=by
 unfold zAv;rw[if_neg];rintro⟨h0,_⟩;exact h0 h
theorem zCh (s:ByteArray):(s.size≠0/\zLV s s.size/\zAv s=some (zGZ s s.size))\/(zAv s=none/\(s.size=0\/∃i,i<s.size/\zLV s i/\¬(48<=nth s i/\nth s i<=57))):=by
 by_cases h0:s.size=0
 ·exact Or.inr ⟨zEz s h0,Or.inl h0⟩
 ·have key:∀k,k<=s.size->zLV s k\/∃i,i<s.size/\zLV s i/\¬(48<=nth s i/\nth s i<=57):=by
   intro k
   induction k with
   |zero=>intro _;exact Or.inl (fun j hj=>by omega)
   |succ k ih=>
    intro hk;rcases ih (by omega) with h|h
    ·by_cases hd:48<=nth s k/\nth s k<=57
     ·exact Or.inl (h.succ hd)
     ·exact Or.inr ⟨k,by omega,h,hd⟩
    ·exact Or.inr h
  rcases key s.size (Nat.le_refl _) with h|⟨i,h1,h2,h3⟩
  ·exact Or.inl ⟨h0,h,zLn s h0 h⟩
  ·exact Or.inr ⟨zLo s i h1 h3,Or.inr ⟨i,h1,h2,h3⟩⟩
theorem zDg {p:ByteArray} {v:Nat} (r:List ByteArray) (h:zAv p=some v):zBJ (p::r)=(zBJ r).map (fun vs=>v::vs):=by rw[zBJ,h];rfl
theorem zDh {p:ByteArray} (r:List ByteArray) (h:zAv p=none):zBJ (p::r)=none:=by rw[zBJ,h];rfl
theorem zBL:∀(l:List ByteArray) (q:List Nat),zBJ l=some q->q.length=l.length
 |[],q,h=>by cases h;rfl
 |p::r,q,h=>by
  rw[zBJ] at h;cases hp:zAv p with
  |none=>rw[hp] at h;cases h
  |some v=>
   rw[hp] at h;cases hr:zBJ r with
   |none=>rw[hr] at h;cases h
   |some vs=>
    rw[hr] at h
    injection h with h
    subst h;simp[zBL r vs hr]
theorem zB1 (c:UInt8) (s p:ByteArray) (h:p ∈ zAj c s):p.size<=s.size:=by
 unfold zAj at h;rw[List.mem_map] at h;obtain⟨q,hq,rfl⟩:=h;rw[zGY,<-zCx];exact(zDf c _ _ hq).2
theorem zBq (c:UInt8) (s:ByteArray):(zAj c s).length<=s.size+1:=by
 unfold zAj;rw[List.length_map,<-zCx];exact zHK _ _
theorem zCM (c:UInt8) (s:ByteArray):0<(zAj c s).length:=by
 unfold zAj;obtain⟨p,r,e⟩:=zD8 c (bl s);rw[e];simp
theorem zF2 (s p:ByteArray) (h:p ∈ zAh s):p.size<=s.size:=zB1 _ _ _ (List.mem_filter.1 h).1
theorem zF3 (s:ByteArray):(zAh s).length<=s.size+1:=Nat.le_trans (List.length_filter_le _ _) (zBq _ _)
theorem zCy (ws:List ByteArray) (s:ByteArray):plc ws s<ws.length:=by
 have key:∀(l:List ByteArray) (i:Nat),Lib.idxFromS l s i<((i+l.length:Nat):Int)\/Lib.idxFromS l s i= -1:=by
  intro l
  induction l with
  |nil=>intro i;exact Or.inr rfl
  |cons z l ih=>
   intro i;unfold Lib.idxFromS
   split
   ·left;simp only[List.length_cons];omega
   ·rcases ih (i+1) with h|h
    ·left;simp only[List.length_cons];omega
    ·exact Or.inr h
 show Lib.idxFromS ws s 0<_
 rcases key ws 0 with h|h
 ·simpa using h
 ·show Lib.idxFromS ws s 0<_
  rw[h];omega
def zJj (c:Nat) (v:List Nat):Prop:=
 if c=0 then ∃n,v=[n]/\n<=255
 else if c=1\/c=2 then ∃a n,v=[a,n]/\a<4294967296/\n<=32/\a % 2 ^ (32-n)=0
 else if c=3 then v=[1]\/v=[6]\/v=[17]
 else if c=4\/c=5 then ∃a b,v=[a,b]/\a<=b/\b<=65535
 else if c=6 then ∃m s,v=[m,s]/\m<=63/\s&&& m=s
 else ∃x y z:Bool,v=[bn x,bn y,bn z]
theorem zE0:∀(l:List ByteArray) (b:List Bool) (t:Bool),(zAz l b t).1.length=b.length
 |[],_,_=>rfl
 |p::r,b,t=>by rw[zAz,zE0 r];simp
theorem zEQ (c:Nat) (p:ByteArray) (h:(zAf c p).1=0):zJj c (zAf c p).2:=by
 unfold zAf at h ⊢;unfold zJj
 by_cases h0:c=0
 ·rw[if_pos h0] at h ⊢
  rw[if_pos h0];unfold zCA at h ⊢;cases hn:zAv p with
  |none=>rw[hn] at h;cases h
  |some n=>
   rw[hn] at h;simp only at h ⊢
   split at h
   ·rename_i hle
    rw[if_pos hle];exact⟨n,rfl,hle⟩
   ·cases h
 rw[if_neg h0] at h ⊢;rw[if_neg h0]
 by_cases h1:c=1\/c=2
 ·rw[if_pos h1] at h ⊢
  rw[if_pos h1];unfold zAX at h ⊢
  split at h
  ·rename_i a b e
   split at h
   ·rename_i q n e1 e2
    unfold zCS at h ⊢
    split at h
    ·rename_i x y z u
     split at h
     ·rename_i hg
      rw[if_pos hg];exact⟨_,n,rfl,by omega,hg.2.2.2.2.1,hg.2.2.2.2.2⟩
     ·cases h
    ·cases h
   ·cases h
  ·cases h
 rw[if_neg h1] at h ⊢;rw[if_neg h1]
 by_cases h3:c=3
 ·rw[if_pos h3] at h ⊢
  rw[if_pos h3];unfold zAu at h ⊢
  split at h
  ·cases h
  ·rename_i hp
   rw[if_neg hp];have hlt:=zCy pws p;have h3:(plc pws p).toNat=0\/(plc pws p).toNat=1\/(plc pws p).toNat=2:=by
    have:pws.length=3:=rfl;omega
   rcases h3 with e|e|e<;>rw[e]<;>simp
 rw[if_neg h3] at h ⊢;rw[if_neg h3]
 by_cases h4:c=4\/c=5
 ·rw[if_pos h4] at h ⊢
  rw[if_pos h4];unfold zAI at h ⊢
  split at h
  ·rename_i a e
   split at h
   ·rename_i hg
    rw[if_pos hg];exact⟨a,a,rfl,Nat.le_refl _,hg⟩
   ·cases h
  ·rename_i a b e
   split at h
   ·rename_i hg
    rw[if_pos hg];exact⟨a,b,rfl,hg.2,hg.1⟩
   ·cases h
  ·cases h
 rw[if_neg h4] at h ⊢;rw[if_neg h4]
 by_cases h6:c=6
 ·rw[if_pos h6] at h ⊢
  rw[if_pos h6];unfold zAk at h ⊢
  split at h
  ·rename_i m s e
   split at h
   ·rename_i hg
    rw[if_pos hg];exact⟨m,s,rfl,hg.1,hg.2⟩
   ·cases h
  ·cases h
 rw[if_neg h6] at h ⊢;rw[if_neg h6];unfold zAc at h ⊢
 split at h
 ·cases h
 ·rename_i ha
  split at h
  ·cases h
  ·rename_i hb
   rw[if_neg ha,if_neg hb];have hl:=zE0 (zAj 44 p) [false,false,false] false;generalize (zAz (zAj 44 p) [false,false,false] false).1=l at hl ⊢
   match l,hl with
   |[x,y,z],_=>exact⟨x,y,z,rfl⟩
def zCB (cs:Cs):Prop:=cs.length=8/\∀c v,cs.getD c none=some v->zJj c v
theorem zHN:zCB zAq:=⟨rfl,fun c v h=>by
 have:zAq.getD c none=none:=by
  unfold zAq;rcases c with _|_|_|_|_|_|_|_|c<;>rfl
 rw[this] at h;cases h⟩
theorem zCB.set {cs:Cs} (h:zCB cs) (c:Nat) (v:List Nat) (hv:zJj c v):zCB (cs.set c (some v)):=by
 refine⟨by rw[List.length_set];exact h.1,fun d u hd=> ?_⟩
 by_cases e:c=d
 ·subst e
  rw[List.getD_eq_getElem?_getD,List.getElem?_set] at hd;simp only[if_true] at hd
  split at hd
  ·injection hd with hd;subst hd;exact hv
  ·cases hd
 ·rw[List.getD_eq_getElem?_getD,List.getElem?_set_ne e,<-List.getD_eq_getElem?_getD] at hd
  exact h.2 d u hd
theorem zF4:∀(l:List ByteArray) (cs:Cs),zCB cs->(zAy l cs).1=0->zCB (zAy l cs).2
 |[],cs,h,_=>h
 |[_],cs,h,e=>by cases e
 |n::p::r,cs,h,e=>by
  rw[zAy] at e ⊢
  by_cases h1:plc nws n<0
  ·rw[if_pos h1] at e;cases e
  rw[if_neg h1] at e ⊢
  by_cases h2:(cs.getD (plc nws n).toNat none).isSome=true
  ·rw[if_pos h2] at e;cases e
  rw[if_neg h2] at e ⊢
  by_cases h3:(zAf (plc nws n).toNat p).1≠0
  ·rw[if_pos h3] at e;exact absurd e h3
  rw[if_neg h3] at e ⊢;exact zF4 r _ (h.set _ _ (zEQ _ _ (by omega))) e
structure zGa (r:Rl):Prop where
 v:r.v<=2
 cs:zCB r.cs
 all:zBP r.cs=false
theorem zIg (ps:List ByteArray) (n:Nat) (h:(zAT ps n).1=0):zGa (zAT ps n).2/\n<48:=by
 unfold zAT at h ⊢
 by_cases h1:plc vws (ps.getD 0 ByteArray.empty)<0
 ·rw[if_pos h1] at h;cases h
 rw[if_neg h1] at h ⊢
 by_cases h2:48<=n
 ·rw[if_pos h2] at h;cases h
 rw[if_neg h2] at h ⊢
 by_cases h3:(zAy ps.tail zAq).1≠0
 ·rw[if_pos h3] at h;exact absurd h h3
 rw[if_neg h3] at h ⊢
 by_cases h4:zBP (zAy ps.tail zAq).2=true
 ·rw[if_pos h4] at h;cases h
 rw[if_neg h4];have hlt:=zCy vws (ps.getD 0 ByteArray.empty);have:vws.length=3:=rfl;exact⟨⟨by show(plc vws _).toNat<=2;omega,zF4 _ _ zHN (by omega),by simpa using h4⟩,by omega⟩
structure zBr (b:Bk):Prop where
 pol:b.pol<=2
 len:b.rs.length<=48
 rs:∀r ∈ b.rs,zGa r
theorem zCN:zBr bk0:=⟨by decide,by decide,fun r h=>by cases h⟩
theorem zCi (b:Bk) (ps:List ByteArray) (h:zBr b):zBr (zAY b ps).2:=by
 unfold zAY
 split
 ·split
  ·rename_i hz
   have:=zIg ps b.rs.length hz;refine⟨h.pol,by simp;omega,fun r hr=> ?_⟩;rcases List.mem_append.1 hr with hr|hr
   ·exact h.rs r hr
   ·rw[List.mem_singleton] at hr;subst hr;exact this.1
  ·exact zCN
 ·split
  ·exact zCN
  ·refine⟨?_,by simp,fun r hr=>by cases hr⟩
   show(zAW ps).toNat<=2
   unfold zAW
   split
   ·have hlt:=zCy vws (ps.getD 1 ByteArray.empty)
    have:vws.length=3:=rfl;omega
   ·decide
theorem zHO (c:UInt8):∀(l:List UInt8),c ∈ l->2<=(zB0 c l).length
 |[],h=>by cases h
 |x::l,h=>by
  unfold zB0
  by_cases e:x=c
  ·rw[if_pos e]
   obtain⟨p,r,q⟩:=zD8 c l;rw[q];simp
  ·rw[if_neg e]
   have hm:c ∈ l:=by
    rcases List.mem_cons.1 h with h|h
    ·exact absurd h.symm e
    ·exact h
   have:=zHO c l hm;simp only[List.length_cons,List.length_tail];omega
theorem zIh {c:UInt8} {s:ByteArray} (h:(zAj c s).length=1):zAj c s=[s]:=by
 unfold zAj at h ⊢;rw[List.length_map] at h;have hn:∀x ∈ bl s,x≠c:=fun x hx e=>by
  have:=zHO c (bl s) (e▸hx);omega
 rw[zB6 c _ hn];simp[zHJ]
theorem zLp {c:UInt8} {s:ByteArray} (h:(zAj c s).length≠1):c ∈ bl s:=by
 refine Classical.byContradiction fun hn=>h ?_
 unfold zAj;rw[List.length_map,zB6 c _ (fun x hx e=>hn (e▸hx))];rfl
theorem zLq (c:UInt8) (s:ByteArray) (h:c ∈ bl s) (hd:zKX c=false):zAv s=none:=by
 unfold zAv;rw[if_neg];rintro⟨_,ha⟩;have:=List.all_eq_true.1 ha c h;rw[hd] at this;cases this
structure zGb (c:UInt8) (s a z:ByteArray) (f:Bool):Prop where
 miss:f=false->zAj c s=[s]/\a=s/\z=ByteArray.empty
 hit:f=true->zAj c s=a::zAj c z
 sza:a.size<=s.size
 szz:z.size<=s.size
theorem zLr (c:UInt8) (s:ByteArray):zGb c s ⟨(Lib.cut s.data.toList [c]).1.toArray⟩ ⟨(Lib.cut s.data.toList [c]).2.1.toArray⟩ (Lib.cut s.data.toList [c]).2.2:=by
 show zGb c s (ba (Lib.cut (bl s) [c]).1) (ba (Lib.cut (bl s) [c]).2.1) (Lib.cut (bl s) [c]).2.2
 unfold Lib.cut
 by_cases h:0<=Lib.index (bl s) [c]
 ·rw[if_pos h]
  obtain⟨i,hi⟩:∃i:Nat,Lib.index (bl s) [c]=i:=⟨(Lib.index (bl s) [c]).toNat,by omega⟩;obtain⟨e,hn,hlt⟩:=zDQ c (bl s) i hi;refine⟨fun q=>(by cases q),fun _=> ?_,?_,?_⟩
  ·show zAj c s=ba ((bl s).take (Lib.index (bl s) [c]).toNat)::zAj c (ba ((bl s).drop ((Lib.index (bl s) [c]).toNat+[c].length)))
   rw[hi,Int.toNat_natCast];unfold zAj;rw[zLm]
   conv=>lhs;rw[e,zDe c _ _ hn]
   rfl
  ·show(ba ((bl s).take (Lib.index (bl s) [c]).toNat)).size<=_
   rw[zGY,List.length_take,zCx];omega
  ·show(ba ((bl s).drop _)).size<=_
   rw[zGY,List.length_drop,zCx];omega
 ·rw[if_neg h]
  have hm:Lib.index (bl s) [c]= -1:=by
   rcases Lib.index_spec (bl s) [c] with⟨h1,_⟩|⟨i,h1,_⟩
   ·exact h1
   ·omega
  refine⟨fun _=>⟨?_,zHJ s,rfl⟩,fun q=>(by cases q),by show(ba (bl s)).size<=_;rw[zHJ];exact Nat.le_refl _,Nat.zero_le _⟩;unfold zAj;rw[zB6 c _ (zDP c _ hm)];simp[zHJ]
theorem zGb.two {c:UInt8} {s a z:ByteArray} {f:Bool} (h:zGb c s a z f) (hd:zKX c=false):
 (f=true/\zAj c s=[a,z])\/(zAv z=none/\(zAj c s).length≠2):=by
 cases f with
 |false=>
  obtain⟨h1,_,h3⟩:=h.miss rfl;refine Or.inr ⟨by rw[h3];exact zEz _ rfl,by rw[h1];simp⟩
 |true=>
  have h1:=h.hit rfl
  by_cases hl:(zAj c z).length=1
  ·exact Or.inl ⟨rfl,by rw[h1,zIh hl]⟩
  ·exact Or.inr ⟨zLq c z (zLp hl) hd,by rw[h1,List.length_cons];omega⟩
theorem zOC (a b:ByteArray):zBJ [a,b]=(zAv a).bind fun x=>(zAv b).map fun y=>[x,y]:=by
 unfold zBJ zBJ zBJ;cases zAv a with
 |none=>rfl
 |some v=>cases zAv b<;>rfl
theorem zCj:∀(l:List ByteArray) (p:ByteArray),p ∈ l->zAv p=none->zBJ l=none
 |[],p,h,_=>by cases h
 |q::r,p,h,hn=>by
  rcases List.mem_cons.1 h with rfl|h
  ·exact zDh r hn
  ·rw[zBJ,zCj r p h hn]
   cases zAv q<;>rfl
theorem zIi (l:List ByteArray) (p:ByteArray):zBJ (l++[p])=(zBJ l).bind fun q=>(zAv p).map fun v=>q++[v]:=by
 induction l with
 |nil=>
  rw[List.nil_append];unfold zBJ zBJ;cases zAv p<;>rfl
 |cons a l ih=>
  rw[List.cons_append,zBJ,zBJ,ih];cases zAv a with
  |none=>rfl
  |some v=>cases zBJ l with
   |none=>rfl
   |some q=>cases zAv p<;>rfl
def Row (w:World) (b off:Nat) (s:ByteArray):Prop:=∀i,i<s.size->w.cell? ⟨b,off+i,none⟩=some (.int .u8 (nth s i))
end Go.Proofs.YtclpnafiiobfhaaGreatDoor
namespace Go.Proofs
open Go.Shelf
def Tryz.lays145_ren:Go.Shelf.Ren:=⟨fun|145=>212|220=>220|219=>162|217=>184|225=>185|224=>186|267=>187|266=>209|314=>210|n=>n,fun|9=>9|4=>4|59=>351|3=>3|5=>5|46=>171|146=>345|51=>35|n=>n,fun|1=>1|n=>n⟩
theorem Tryz.lays145:Go.Proofs.Lays.n145 Tryz.prog Tryz.lays145_ren:={
 mixed:=by kernel_rfl
 f145:=Tryz.func212.trans (congrArg some (by kernel_rfl))
 f217:=Tryz.func184.trans (congrArg some (by kernel_rfl))
 f219:=Tryz.func162.trans (congrArg some (by kernel_rfl))
 f220:=Tryz.func220.trans (congrArg some (by kernel_rfl))
 f224:=Tryz.func186.trans (congrArg some (by kernel_rfl))
 f225:=Tryz.func185.trans (congrArg some (by kernel_rfl))
 f266:=Tryz.func209.trans (congrArg some (by kernel_rfl))
 f267:=Tryz.func187.trans (congrArg some (by kernel_rfl))
 f314:=Tryz.func210.trans (congrArg some (by kernel_rfl))
 t3:=Tryz.underlying3
 a3:=Tryz.isAgg3
 z3:=Tryz.sizeOf3
 v3:=Tryz.zeroValue3
 t4:=Tryz.underlying4
 a4:=Tryz.isAgg4
 z4:=Tryz.sizeOf4
 v4:=Tryz.zeroValue4
 t5:=Tryz.underlying5
 a5:=Tryz.isAgg5
 z5:=Tryz.sizeOf5
 v5:=Tryz.zeroValue5
 t9:=Tryz.underlying9
 a9:=Tryz.isAgg9
 z9:=Tryz.sizeOf9
 v9:=Tryz.zeroValue9
 t46:=Tryz.underlying171
 a46:=Tryz.isAgg171
 z46:=Tryz.sizeOf171
 v46:=Tryz.zeroValue171
 t51:=Tryz.underlying35
 a51:=Tryz.isAgg35
 z51:=Tryz.sizeOf35
 v51:=Tryz.zeroValue35
 t59:=Tryz.underlying351
 a59:=Tryz.isAgg351
 z59:=Tryz.sizeOf351
 v59:=Tryz.zeroValue351
 t146:=Tryz.underlying345
 a146:=Tryz.isAgg345
 z146:=Tryz.sizeOf345
 v146:=Tryz.zeroValue345
 g1:=by kernel_rfl}
open Go.RowKit Go.Lib in
theorem Tryz.strings_Cut (s sep:ByteArray) (m:Int) (w:World) (hs:s.size<4294967281) (hm:w.cell? ⟨1,0,none⟩=some (.int .i64 m)):
 Calls Tryz.prog 212 #[.string s,.string sep] w fun e w'=>e= .returned (.tuple #[.string ⟨(Lib.cut s.data.toList sep.data.toList).1.toArray⟩,.string ⟨(Lib.cut s.data.toList sep.data.toList).2.1.toArray⟩,.bool (Lib.cut s.data.toList sep.data.toList).2.2])/\∃n,w'=w.drewN n:=Any.strings_Cut Tryz.lays145 s sep m w hs hm
def Tryz.lays146_ren:Go.Shelf.Ren:=⟨fun|146=>92|221=>118|268=>135|138=>136|143=>137|195=>159|197=>160|218=>161|219=>162|260=>183|217=>184|225=>185|224=>186|267=>187|266=>209|314=>210|n=>n,fun|9=>9|31=>57|3=>3|4=>4|0=>0|105=>285|21=>21|5=>5|46=>171|119=>341|139=>344|138=>343|146=>345|51=>35|n=>n,fun|1=>1|3=>2|4=>3|n=>n⟩
theorem Tryz.lays146:Go.Proofs.Lays.n146 Tryz.prog Tryz.lays146_ren:={
 mixed:=by kernel_rfl
 f138:=Tryz.func136.trans (congrArg some (by kernel_rfl))
 f143:=Tryz.func137.trans (congrArg some (by kernel_rfl))
 f146:=Tryz.func92.trans (congrArg some (by kernel_rfl))
 f195:=Tryz.func159.trans (congrArg some (by kernel_rfl))
 f197:=Tryz.func160.trans (congrArg some (by kernel_rfl))
 f217:=Tryz.func184.trans (congrArg some (by kernel_rfl))
 f218:=Tryz.func161.trans (congrArg some (by kernel_rfl))
 f219:=Tryz.func162.trans (congrArg some (by kernel_rfl))
 f221:=Tryz.func118.trans (congrArg some (by kernel_rfl))
 f224:=Tryz.func186.trans (congrArg some (by kernel_rfl))
 f225:=Tryz.func185.trans (congrArg some (by kernel_rfl))
 f260:=Tryz.func183.trans (congrArg some (by kernel_rfl))
 f266:=Tryz.func209.trans (congrArg some (by kernel_rfl))
 f267:=Tryz.func187.trans (congrArg some (by kernel_rfl))
 f268:=Tryz.func135.trans (congrArg some (by kernel_rfl))
 f314:=Tryz.func210.trans (congrArg some (by kernel_rfl))
 t0:=Tryz.underlying0
 a0:=Tryz.isAgg0
 z0:=Tryz.sizeOf0
 v0:=Tryz.zeroValue0
 t3:=Tryz.underlying3
 a3:=Tryz.isAgg3
 z3:=Tryz.sizeOf3
 v3:=Tryz.zeroValue3
 t4:=Tryz.underlying4
 a4:=Tryz.isAgg4
 z4:=Tryz.sizeOf4
 v4:=Tryz.zeroValue4
 t5:=Tryz.underlying5
 a5:=Tryz.isAgg5
 z5:=Tryz.sizeOf5
 v5:=Tryz.zeroValue5
 t9:=Tryz.underlying9
 a9:=Tryz.isAgg9
 z9:=Tryz.sizeOf9
 v9:=Tryz.zeroValue9
 t21:=Tryz.underlying21
 a21:=Tryz.isAgg21
 z21:=Tryz.sizeOf21
 v21:=Tryz.zeroValue21
 t31:=Tryz.underlying57
 a31:=Tryz.isAgg57
 z31:=Tryz.sizeOf57
 v31:=Tryz.zeroValue57
 t46:=Tryz.underlying171
 a46:=Tryz.isAgg171
 z46:=Tryz.sizeOf171
 v46:=Tryz.zeroValue171
 t51:=Tryz.underlying35
 a51:=Tryz.isAgg35
 z51:=Tryz.sizeOf35
 v51:=Tryz.zeroValue35
 t105:=Tryz.underlying285
 a105:=Tryz.isAgg285
 z105:=Tryz.sizeOf285
 v105:=Tryz.zeroValue285
 t119:=Tryz.underlying341
 a119:=Tryz.isAgg341
 z119:=Tryz.sizeOf341
 t138:=Tryz.underlying343
 a138:=Tryz.isAgg343
 z138:=Tryz.sizeOf343
 v138:=Tryz.zeroValue343
 t139:=Tryz.underlying344
 a139:=Tryz.isAgg344
 z139:=Tryz.sizeOf344
 v139:=Tryz.zeroValue344
 t146:=Tryz.underlying345
 a146:=Tryz.isAgg345
 z146:=Tryz.sizeOf345
 v146:=Tryz.zeroValue345
 g1:=by kernel_rfl
 g3:=by kernel_rfl
 g4:=by kernel_rfl}
open Go.RowKit Go.Lib in
theorem Tryz.strings_Split (s sep:ByteArray) (m:Int) (w:World) (hs:s.size<4294967281) (hm:w.cell? ⟨1,0,none⟩=some (.int .i64 m)) (h1:1<=sep.size):
 Calls Tryz.prog 92 #[.string s,.string sep] w fun e w'=>
  e= .returned (.slice (some ⟨w.heap.size,0,none⟩) (Lib.countB s sep+1) (Lib.countB s sep+1))/\w'=w.alloc (.cells ((Lib.splitB sep 0 (Lib.countB s sep) s).map Value.string).toArray 9):=Any.strings_Split Tryz.lays146 (by kernel_rfl) s sep m w hs hm h1
end Go.Proofs
namespace Go.Proofs.YtclpnafiiobfhaaGreatDoor
open Go.RowKit
theorem zDi (s:ByteArray) (h:s.size=0):s.toList.isEmpty=true:=by
 rw[ByteArray.toList_eq,List.isEmpty_iff,<-List.length_eq_zero_iff]
 simpa using h
theorem zDj (s:ByteArray) (h:s.size≠0):s.toList.isEmpty=false:=by
 rw[ByteArray.toList_eq,List.isEmpty_eq_false_iff,Ne,<-List.length_eq_zero_iff]
 simpa using h
def zHP (s:ByteArray) (i:Nat):Nat:=min (zGZ s i) 65536
theorem zF5 (s:ByteArray) (i:Nat) (h:i<s.size) (h0:48<=nth s i) (h1:nth s i<=57):((zHP s (i+1):Nat):Int)=min (10*(zHP s i:Int)+(nth s i-48)) 65536:=by
 have:=zF1 s i h;unfold zHP;omega
theorem zJk (s:ByteArray) (i:Nat):(zHP s i:Int)<=65536:=by unfold zHP;omega
theorem zE1 (s:ByteArray) (w:World) (hs:s.size<=2000) (h0:s.size≠0) (hd:zLV s s.size):
 Calls Tryz.prog 211 #[.string s] w fun e w'=>e= .returned (.tuple #[.int .u32 ((zHP s s.size:Nat):Int),.nilIface])/\w'=w:=by
 have he:=zDj s h0;go_enter Tryz.func211,Tryz.ntmps211;go_wp2;go_loop [4,12] (fun v i=>∃j:Nat,j<=s.size/\i= .int .i64 j/\v= .int .u32 ((zHP s j:Nat):Int)) (fun _ i=>s.size-(intOf i).toNat)
 case atStart=>exact⟨0,Nat.zero_le _,rfl,rfl⟩
 case round=>
  obtain⟨j,hj,rfl,rfl⟩:=hrel
  by_cases hlt:j<s.size
  ·have hx:=zA5 s j hlt
   have hb:=hd j hlt;have h48:48<=nth s j:=hb.1;have h57:nth s j<=57:=hb.2;have hc:=zJk s j;have hn:=zF5 s j hlt h48 h57;have HN:=hid hn;clear hn;go_wp2;go_round
   case rel=>exact⟨j+1,by omega,by go_num,by rw[HN.out]<;>congr 1<;>omega⟩
   case measure=>simp[intOf];omega
  ·have e:j=s.size:=by omega
   subst e;go_wp2;go_ret2;exact⟨rfl,rfl⟩
theorem zFl (s:ByteArray) (i:Nat) (w:World) (hs:s.size<=2000) (hi:i<s.size) (hd:zLV s i) (hn:¬(48<=nth s i/\nth s i<=57)):
 Calls Tryz.prog 211 #[.string s] w fun e w'=>e= .returned (.tuple #[.int .u32 0,.iface 22 (.int .i64 3)])/\w'=w:=by
 have he:=zDj s (by omega);have HN:=hid hn;clear hn;go_enter Tryz.func211,Tryz.ntmps211;go_wp2;go_loop [4,12] (fun v k=>∃j:Nat,j<=i/\k= .int .i64 j/\v= .int .u32 ((zHP s j:Nat):Int)) (fun _ k=>s.size-(intOf k).toNat)
 case atStart=>exact⟨0,Nat.zero_le _,rfl,rfl⟩
 case round=>
  obtain⟨j,hj,rfl,rfl⟩:=hrel;have hlt':j<s.size:=by omega
  have hx:=zA5 s j hlt';have hb8:=zAN s j
  by_cases hlt:j<i
  ·have hb:=hd j hlt
   have h48:48<=nth s j:=hb.1;have h57:nth s j<=57:=hb.2;have hc:=zJk s j;have hn:=zF5 s j hlt' h48 h57;have HN:=hid hn;clear hn;go_wp2;go_round
   case rel=>exact⟨j+1,by omega,by go_num,by rw[HN.out]<;>congr 1<;>omega⟩
   case measure=>simp[intOf];omega
  ·have e:j=i:=by omega
   subst e
   by_cases h48:nth s j<48
   ·go_wp2
    go_ret2;exact⟨rfl,rfl⟩
   ·have h57:57<nth s j:=by have:=HN.out;omega
    have h48':48<=nth s j:=by omega
    clear h48;go_wp2;go_ret2;exact⟨rfl,rfl⟩
theorem zEj (s:ByteArray) (w:World) (hs:s.size=0):
 Calls Tryz.prog 211 #[.string s] w fun e w'=>e= .returned (.tuple #[.int .u32 0,.iface 22 (.int .i64 3)])/\w'=w:=by
 have he:=zDi s hs;go_enter Tryz.func211,Tryz.ntmps211;go_wp2;go_ret2;exact⟨rfl,rfl⟩
theorem zCz (s:ByteArray) (v:Nat) (w:World) (hs:s.size<=2000) (h:zAv s=some v):
 Calls Tryz.prog 211 #[.string s] w fun e w'=>e= .returned (.tuple #[.int .u32 ((min v 65536:Nat):Int),.nilIface])/\w'=w:=by
 rcases zCh s with⟨h0,hd,hv⟩|⟨hv,_⟩
 ·rw[hv] at h
  injection h with h
  subst h;exact zE1 s w hs h0 hd
 ·rw[hv] at h;cases h
theorem zC0 (s:ByteArray) (w:World) (hs:s.size<=2000) (h:zAv s=none):
 Calls Tryz.prog 211 #[.string s] w fun e w'=>e= .returned (.tuple #[.int .u32 0,.iface 22 (.int .i64 3)])/\w'=w:=by
 rcases zCh s with⟨h0,hd,hv⟩|⟨_,h0|⟨i,h1,h2,h3⟩⟩
 ·rw[hv] at h;cases h
 ·exact zEj s w h0
 ·exact zFl s i w hs h1 h2 h3
def zBx (w:World):Prop:=∃m,w.cell? ⟨1,0,none⟩=some (.int .i64 m)
theorem zBx.pos {w:World} (h:zBx w):1<w.heap.size:=by
 obtain⟨m,h⟩:=h;exact World.block_lt_of_cell? _ _ h
theorem zBx.below {w w':World} (h:zBx w) (hw:Below w.heap.size w w'):zBx w':=by
 have hp:=h.pos;obtain⟨m,h⟩:=h;exact⟨m,by rw[hw.cell (p:=⟨1,0,none⟩) hp];exact h⟩
theorem zBx.alloc {w:World} (h:zBx w) (o:Obj):zBx (w.alloc o):=h.below (bal _ _)
def zB2 (w:World) (b off:Nat) (ps:List ByteArray):Prop:=∀j,j<ps.length->w.cell? ⟨b,off+j,none⟩=some (.string (ps.getD j ByteArray.empty))
theorem zB2.below {w w':World} {b off B:Nat} {ps:List ByteArray} (h:zB2 w b off ps) (hw:Below B w w') (hb:b<B):zB2 w' b off ps:=fun j hj=>by
 rw[hw.cell (p:=⟨b,off+j,none⟩) hb];exact h j hj
theorem zB2.drop {w:World} {b off:Nat} {ps:List ByteArray} (h:zB2 w b off ps) (k:Nat):zB2 w b (off+k) (ps.drop k):=fun j hj=>by
 rw[List.length_drop] at hj;rw[Nat.add_assoc,h (k+j) (by omega)];simp[List.getD_eq_getElem?_getD]
theorem zB2.made (w:World) (ps:List ByteArray) (t:TypeId):zB2 (w.alloc (.cells (ps.map Value.string).toArray t)) w.heap.size 0 ps:=fun j hj=>by
 rw[World.cell?_alloc_at _ _ _ _ rfl,Nat.zero_add];simp[List.getD_eq_getElem?_getD,List.getElem?_eq_getElem hj]
theorem zLs (ws:List ByteArray) (b off cap:Nat) (x:ByteArray) (w:World) (hn:ws.length<=100) (hc:zB2 w b off ws):
 Calls Tryz.prog 163 #[.slice (some ⟨b,off,none⟩) ws.length cap,.string x] w fun e w'=>e= .returned (.int .i64 (plc ws x))/\w'=w:=by
 go_enter Tryz.func163,Tryz.ntmps163;go_wp2;go_loop [8] (fun i=>∃k:Nat,k<=ws.length/\i= .int .i64 k/\∀j,j<k->ws.getD j ByteArray.empty≠x) (fun i=>ws.length-(intOf i).toNat)
 case atStart=>exact⟨0,Nat.zero_le _,rfl,fun j hj=>absurd hj (Nat.not_lt_zero _)⟩
 case round=>
  obtain⟨k,hk,rfl,hp⟩:=hrel
  by_cases hlt:k<ws.length
  ·have c:=hc k hlt
   obtain⟨y,hy⟩:∃y,ws.getD k ByteArray.empty=y:=⟨_,rfl⟩;rw[hy] at c;have HY:=hid hy
   by_cases e:ws.getD k ByteArray.empty=x
   ·have e':(x.toList == y.toList)=true:=by rw[Lib.bytes_beq_iff,<-hy,e]
    have HI:Hid (plc ws x=(k:Int)):=by
     show Lib.idxFromS ws x 0=_
     rw[Lib.idxFromS_hit x ws k 0 hlt e hp,Nat.zero_add]
    clear hp e hy;go_wp2;go_ret;rw[HI.out];exact⟨rfl,rfl⟩
   ·have e':(x.toList == y.toList)=false:=by rw[Lib.bytes_beq_false_iff,<-hy];exact fun q=>e q.symm
    have HP:=hid hp;have HE:=hid e;clear hp e hy;go_wp2;go_round
    case rel=>
     refine⟨k+1,by omega,by go_num,fun j hj=> ?_⟩
     by_cases q:j=k
     ·subst q;exact HE.out
     ·exact HP.out j (by omega)
    case measure=>simp[intOf];omega
  ·have e:k=ws.length:=by omega
   subst e;have HI:Hid (plc ws x= -1):=Lib.idxFromS_miss x ws 0 hp;clear hp;go_wp2;go_ret;rw[HI.out];exact⟨rfl,rfl⟩
theorem zDk (s:ByteArray) (c:UInt8) (w:World) (hs:s.size<=2000) (hm:zBx w):
 Calls Tryz.prog 92 #[.string s,.string ⟨#[c]⟩] w fun e w'=>e= .returned (.slice (some ⟨w.heap.size,0,none⟩) (zAj c s).length (zAj c s).length)/\w'=w.alloc (.cells ((zAj c s).map Value.string).toArray 9):=by
 obtain⟨m,hm⟩:=hm;refine(Tryz.strings_Split s ⟨#[c]⟩ m w (by omega) hm (by show 1<=(1:Nat);omega)).mono ?_;rintro e w' ⟨rfl,rfl⟩;have h1:Lib.countB s ⟨#[c]⟩+1=(zAj c s).length:=by
  unfold zAj;rw[List.length_map];exact zHL c s
 have h2:Lib.splitB ⟨#[c]⟩ 0 (Lib.countB s ⟨#[c]⟩) s=zAj c s:=zEP c s;rw[h1,h2];exact⟨rfl,rfl⟩
theorem zAi {P:Program} {e:TypeId} {z:Value} {s b:Nat} (h:(P.info? e).map (fun i=>(i.zero,i.size,i.bytes))=some (some z,s,b)):∃i,P.info? e=some i/\i.zero=some z/\i.size=s/\i.bytes=b:=by
 obtain⟨i,hi,hz⟩:=Option.map_eq_some_iff.1 h;simp only[Prod.mk.injEq] at hz;exact⟨i,hi,hz.1,hz.2.1,hz.2.2⟩
theorem Tryz.infoU32:(Tryz.prog.info? 35).map (fun i=>(i.zero,i.size,i.bytes))=some (some (.int .u32 0),1,4):=by kernel_rfl
theorem Tryz.infoStr:(Tryz.prog.info? 9).map (fun i=>(i.zero,i.size,i.bytes))=some (some (.string ByteArray.empty),1,16):=by kernel_rfl
def zId (v:Nat):Value:= .int .u32 ((min v 65536:Nat):Int)
theorem zBh (w:World) (v:Value) (t:TypeId):∀(j:Nat) (u:Value),[v][j]? =some u->(w.alloc (.cells #[v] t)).cell? ((⟨w.heap.size,0,none⟩:Addr).add j)=some u:=
 World.news_of_block (cs:= #[v]) (t:=t) (fr:=(0,0)) (heap_alloc_new w _)
theorem zAE {w:World} {B:Nat} {e:TypeId} {sz:Nat} {v:Value} {n:Nat} {xs:List Value} (h:w.ownsRow B e sz v n xs):∀k,v.ownBlock=some k->B<=k:=fun k hk=>by
 rcases h.2 with⟨e,_⟩|⟨g,cap,cur,e,hg,_⟩
 ·subst e;cases hk
 ·subst e;cases hk;exact hg
theorem zLt {ps l r:List ByteArray} {q:List Nat} {p:ByteArray} {v:Nat} (h:zBJ ps=(zBJ l).map (fun x=>q++x)) (e:l=p::r) (hv:zAv p=some v):zBJ ps=(zBJ r).map (fun x=>(q++[v])++x):=by
 rw[h,e,zDg _ hv,Option.map_map]
 congr 1
 funext x
 show q++v::x=(q++[v])++x
 rw[List.append_assoc];rfl
theorem zBi (ps:List ByteArray) (b off cap:Nat) (w:World) (hl:ps.length<=3000) (hp:∀p ∈ ps,p.size<=2000) (hb:b<w.heap.size) (hS:zB2 w b off ps):
 Calls Tryz.prog 213 #[.slice (some ⟨b,off,none⟩) ps.length cap] w fun e w'=>
  (∀q,zBJ ps=some q->∃v,e= .returned (.tuple #[v,.nilIface])/\w'.ownsRow w.heap.size 35 1 v ps.length (q.map zId))/\(zBJ ps=none->e= .returned (.tuple #[.slice none 0 0,.iface 22 (.int .i64 3)]))/\Below w.heap.size w w':=by
 obtain⟨i0,hi0,hz0,hz1,hz2⟩:=zAi Tryz.infoU32;have HS:=hid hS;have HP:=hid hp;clear hS hp;go_enter Tryz.func213,Tryz.ntmps213;go_wp2;go_loopw [4,11] (fun v i wr=>∃(j:Nat) (q:List Nat),j<=ps.length/\i= .int .i64 j/\zBJ ps=(zBJ (ps.drop j)).map (fun r=>q++r)/\wr.ownsRow w.heap.size 35 1 v j (q.map zId)/\Below w.heap.size w wr) (fun _ i _=>ps.length-(intOf i).toNat)
 case atStart=>exact⟨0,[],Nat.zero_le _,rfl,by simp,World.ownsRow_nil _ _ _ _,Below.refl _ _⟩
 case round=>
  obtain⟨j,q,hj,rfl,hq,hO,hB⟩:=hrel;have HQ:=hid hq;have HO:=hid hO;have HB:=hid hB;clear hq hO hB
  by_cases hlt:j<ps.length
  ·have c:=HS.out j hlt
   rw[<-HB.out.cell (p:=⟨b,off+j,none⟩) hb] at c;obtain⟨p,hp⟩:∃p,ps.getD j ByteArray.empty=p:=⟨_,rfl⟩;rw[hp] at c;have hd:ps.drop j=p::ps.drop (j+1):=by
    rw[List.drop_eq_getElem_cons hlt,<-hp,List.getD_eq_getElem?_getD,List.getElem?_eq_getElem hlt];rfl
   have hm:p ∈ ps:=by
    rw[<-hp,List.getD_eq_getElem?_getD,List.getElem?_eq_getElem hlt];exact List.getElem_mem hlt
   have hps:=HP.out p hm;have HD:=hid hd;clear hp hd hm;cases hn:zAv p with
   |none=>
    have HN:=hid hn;have HC:=hid (zC0 p wr hps hn);clear hn;go_wp2_with (go_at_call 211;refine HC.out.mono ?_;rintro e w' ⟨rfl,hw'⟩;obtain rfl:wr=w':=hw'.symm);go_ret2;have hz:zBJ ps=none:=by rw[HQ.out,HD.out,zDh _ HN.out];rfl
    exact⟨fun q' h'=>(by rw[hz] at h';cases h'),fun _=>rfl,HB.out⟩
   |some v=>
    have HN:=hid hn;have HC:=hid (zCz p v wr hps hn);clear hn;go_upto_region 8 with(go_at_call 211;refine HC.out.mono ?_;rintro e w' ⟨rfl,hw'⟩;obtain rfl:wr=w':=hw'.symm)
    go_wp2_with (at_builtin;refine wpList_append_lies _ rfl _ _ 353 rfl w.heap.size 35 i0 _ 1 4 Tryz.underlying353 hi0 hz0 hz1 hz2 rfl (by decide) u4 j (q.map zId) rfl (HO.out.alloc _) ⟨wr.heap.size,0,none⟩ 1 1 [zId v] rfl rfl (zBh wr _ _) (by simp[Value.oneCell',zId]) (by decide) (by unfold maxLen;omega) (by omega) (by have:=HB.out.size;simp;omega) (wr.heap.size+1) (by simp) ?_;intro gg cap' w1 hown1 hgrow hat hlt1);have HO1:Hid (w1.ownsRow w.heap.size 35 1 (.slice (some ⟨gg,0,none⟩) (j+1) cap') (j+1) ((q++[v]).map zId)):=by
     rw[List.map_append];exact hown1
    have HB1:=hid (Below.grown (w:=wr.alloc (.cells #[zId v] 35)) (HB.out.alloc HB.out.size _) hgrow (by have:=HB.out.size;simp;omega) (zAE HO.out));clear hown1 hgrow hat hlt1;go_wp2_with fail;go_roundw
    case rel=>exact⟨j+1,q++[v],by omega,by go_num,zLt HQ.out HD.out HN.out,HO1.out,HB1.out⟩
    case measure=>simp[intOf];omega
  ·have e:j=ps.length:=by omega
   subst e;go_wp2_with fail;go_ret2;have hz:zBJ ps=some q:=by rw[HQ.out,List.drop_length];simp[zBJ]
   refine⟨fun q' h'=>⟨_,rfl,?_⟩,fun h'=>(by rw[hz] at h';cases h'),HB.out⟩;rw[hz] at h'
   injection h' with h'
   rw[<-h'];exact HO.out
def zBA (r:Nat×List Nat) (f:List Nat->Value) (e:Ending):Prop:=
 (r.1=0->e= .returned (.tuple #[f r.2,.nilIface]))/\(r.1≠0->∃v,e= .returned (.tuple #[v,.iface 22 (.int .i64 (r.1:Int))]))
theorem zBA.fine {r:Nat×List Nat} {f:List Nat->Value} {v:List Nat} {e:Ending} (hr:r=(0,v)) (he:e= .returned (.tuple #[f v,.nilIface])):zBA r f e:=by
 subst hr;exact⟨fun _=>he,fun h=>absurd rfl h⟩
theorem zBA.bad {r:Nat×List Nat} {f:List Nat->Value} {k:Nat} {v:Value} {e:Ending} (hr:r=(k,[])) (hk:k≠0) (he:e= .returned (.tuple #[v,.iface 22 (.int .i64 (k:Int))])):zBA r f e:=by
 subst hr;exact⟨fun h=>absurd h hk,fun _=>⟨v,he⟩⟩
def zBb (r:Nat×List Nat) (f:List Nat->Value) (e:Ending):Prop:=
 (r.1=0->e= .returned (.tuple #[f r.2,.nilIface]))/\(r.1≠0->e= .returned (.tuple #[f [],.iface 22 (.int .i64 (r.1:Int))]))
theorem zBb.fine {r:Nat×List Nat} {f:List Nat->Value} {v:List Nat} {e:Ending} (hr:r=(0,v)) (he:e= .returned (.tuple #[f v,.nilIface])):zBb r f e:=by
 subst hr;exact⟨fun _=>he,fun h=>absurd rfl h⟩
theorem zBb.bad {r:Nat×List Nat} {f:List Nat->Value} {k:Nat} {e:Ending} (hr:r=(k,[])) (hk:k≠0) (he:e= .returned (.tuple #[f [],.iface 22 (.int .i64 (k:Int))])):zBb r f e:=by
 subst hr;exact⟨fun h=>absurd h hk,fun _=>he⟩
def n0 (v:List Nat) (i:Nat):Int:=((v.getD i 0:Nat):Int)
def zER (v:List Nat):Value:= .iface 350 (.agg #[.int .u8 (n0 v 0)])
def zSN (v:List Nat):Value:= .agg #[.int .u32 (n0 v 0),.int .u32 (n0 v 1)]
def zLu (p:Nat):ByteArray:=if p=6 then⟨#[116,99,112]⟩ else if p=17 then⟨#[117,100,112]⟩ else⟨#[105,99,109,112]⟩
def zE2 (v:List Nat):Value:= .iface 329 (.agg #[.string (zLu (v.getD 0 0)),.int .u8 (n0 v 0)])
def zQ8 (v:List Nat):Value:= .agg #[.int .u16 (n0 v 0),.int .u16 (n0 v 1)]
def zES (v:List Nat):Value:= .iface 298 (.agg #[.int .u8 (n0 v 0),.int .u8 (n0 v 1)])
def zDR (v:List Nat):Value:= .iface 358 (.agg #[.bool (v.getD 0 0 == 1),.bool (v.getD 1 0 == 1),.bool (v.getD 2 0 == 1)])
theorem zGc (s:ByteArray) (w:World) (hs:s.size<=2000):
 Calls Tryz.prog 188 #[.string s] w fun e w'=>zBA (zCA s) zER e/\w'=w:=by
 cases hn:zAv s with
 |none=>
  have HC:=hid (zC0 s w hs hn);have HV:=hid (show zCA s=(3,[]) by unfold zCA;rw[hn]);clear hn;go_enter Tryz.func188,Tryz.ntmps188;go_wp2_with (go_at_call 211;refine HC.out.mono ?_;rintro e w' ⟨rfl,hw'⟩;obtain rfl:w=w':=hw'.symm);go_ret2;exact⟨zBA.bad HV.out (by decide) rfl,rfl⟩
 |some n=>
  have HC:=hid (zCz s n w hs hn)
  by_cases hle:n<=255
  ·have HV:=hid (show zCA s=(0,[n]) by unfold zCA;rw[hn];simp only;rw[if_pos hle])
   have e1:((min n 65536:Nat):Int)=(n:Int):=by omega
   rw[e1] at HC;have hle':(n:Int)<=255:=by omega
   clear hn e1 hle;go_enter Tryz.func188,Tryz.ntmps188;go_wp2_with (go_at_call 211;refine HC.out.mono ?_;rintro e w' ⟨rfl,hw'⟩;obtain rfl:w=w':=hw'.symm);go_ret2;exact⟨zBA.fine HV.out rfl,rfl⟩
  ·have HV:=hid (show zCA s=(5,[]) by unfold zCA;rw[hn];simp only;rw[if_neg hle])
   obtain⟨m,hm⟩:∃m:Nat,min n 65536=m:=⟨_,rfl⟩;rw[hm] at HC;have hle':255<(m:Int):=by omega
   clear hn hle hm;go_enter Tryz.func188,Tryz.ntmps188;go_wp2_with (go_at_call 211;refine HC.out.mono ?_;rintro e w' ⟨rfl,hw'⟩;obtain rfl:w=w':=hw'.symm);go_ret2;exact⟨zBA.bad HV.out (by decide) rfl,rfl⟩
theorem zLv {x:ByteArray} {l:List UInt8} (h:x≠⟨l.toArray⟩):(x.toList == l)=false:=by
 have e:l=(⟨l.toArray⟩:ByteArray).toList:=by rw[ByteArray.toList_eq]
 rw[e,Lib.bytes_beq_false_iff];exact h
theorem zQ9 (ws:List ByteArray) (s:ByteArray) (h:∀j,j<ws.length->ws.getD j ByteArray.empty≠s):plc ws s= -1:=Lib.idxFromS_miss s ws 0 h
theorem zGd (s:ByteArray) (w:World):
 Calls Tryz.prog 190 #[.string s] w fun e w'=>zBA (zAu s) zE2 e/\w'=w:=by
 by_cases h1:s=⟨#[116,99,112]⟩
 ·subst h1
  have HV:=hid (show zAu ⟨#[116,99,112]⟩=(0,[6]) by kernel_rfl);go_enter Tryz.func190,Tryz.ntmps190;go_wp2;go_ret2;exact⟨zBA.fine HV.out rfl,rfl⟩
 by_cases h2:s=⟨#[117,100,112]⟩
 ·subst h2
  have HV:=hid (show zAu ⟨#[117,100,112]⟩=(0,[17]) by kernel_rfl);clear h1;go_enter Tryz.func190,Tryz.ntmps190;go_wp2;go_ret2;exact⟨zBA.fine HV.out rfl,rfl⟩
 by_cases h3:s=⟨#[105,99,109,112]⟩
 ·subst h3
  have HV:=hid (show zAu ⟨#[105,99,109,112]⟩=(0,[1]) by kernel_rfl);clear h1 h2;go_enter Tryz.func190,Tryz.ntmps190;go_wp2;go_ret2;exact⟨zBA.fine HV.out rfl,rfl⟩
 have HV:Hid (zAu s=(3,[])):=show zAu s=(3,[]) by
  unfold zAu;rw[if_pos];rw[zQ9]
  ·decide
  ·intro j hj
   have:pws.length=3:=rfl;rcases j with _|_|_|j
   ·exact fun q=>h3 q.symm
   ·exact fun q=>h1 q.symm
   ·exact fun q=>h2 q.symm
   ·omega
 have e1:=zLv (l:=[116,99,112]) h1;have e2:=zLv (l:=[117,100,112]) h2;have e3:=zLv (l:=[105,99,109,112]) h3;clear h1 h2 h3;go_enter Tryz.func190,Tryz.ntmps190;go_wp2;go_ret2;exact⟨zBA.bad HV.out (by decide) rfl,rfl⟩
structure Tch (g:Nat) (w w':World):Prop where
 os:w'.os=w.os
 tape:w'.tape=w.tape
 output:w'.output=w.output
 size:w.heap.size<=w'.heap.size
 block:∀k,k<w.heap.size->k≠g->w'.heap[k]? =w.heap[k]?
theorem Tch.refl (g:Nat) (w:World):Tch g w w:=⟨rfl,rfl,rfl,Nat.le_refl _,fun _ _ _=>rfl⟩
theorem Tch.trans {g:Nat} {a b c:World} (h:Tch g a b) (k:Tch g b c):Tch g a c:=
 ⟨k.os.trans h.os,k.tape.trans h.tape,k.output.trans h.output,Nat.le_trans h.size k.size,fun i hi hn=>(k.block i (Nat.lt_of_lt_of_le hi h.size) hn).trans (h.block i hi hn)⟩
theorem Tch.set {g:Nat} {a w:World} (h:Tch g a w) (i:Nat) (v:Value):Tch g a (w.setCell ⟨g,i,none⟩ v):=
 h.trans ⟨rfl,rfl,rfl,by simp[World.setCell],fun k _ hk=>Below.heap_setCell _ _ _ _ hk⟩
theorem Tch.alloc {g:Nat} {a w:World} (h:Tch g a w) (o:Obj):Tch g a (w.alloc o):=
 h.trans ⟨rfl,rfl,rfl,by simp,fun k hk _=>Below.heap_alloc _ _ _ hk⟩
theorem Tch.below {g:Nat} {w w':World} (h:Tch g w w') {B:Nat} (hB:B<=g) (hw:B<=w.heap.size):Below B w w':=
 ⟨h.os,h.tape,h.output,h.size,fun k hk=>h.block k (by omega) (by omega)⟩
theorem Tch.of {g:Nat} {w w':World} (h:Below w.heap.size w w'):Tch g w w':=⟨h.os,h.tape,h.output,h.size,fun k hk _=>h.block k hk⟩
theorem Tch.cell {g:Nat} {w w':World} (h:Tch g w w') {p:Addr} (hp:p.block<w.heap.size) (hn:p.block≠g):w'.cell? p=w.cell? p:=World.cell?_of_block (w:=w) (h.block p.block hp hn)
theorem Tch.frozen {g:Nat} {w w':World} (h:Tch g w w') {p:Addr} (hp:p.block<w.heap.size) (hn:p.block≠g):w'.frozen? p=w.frozen? p:=World.frozen?_of_block (w:=w) (h.block p.block hp hn)
def Byt (l:List Int):Prop:=∀x ∈ l,0<=x/\x<=255
theorem Byt.append {a b:List Int} (ha:Byt a) (hb:Byt b):Byt (a++b):=fun x hx=>by
 rcases List.mem_append.1 hx with h|h
 ·exact ha x h
 ·exact hb x h
def ofL (l:List Int):ByteArray:=⟨(l.map fun x=>UInt8.ofNat x.toNat).toArray⟩
theorem zGe (l:List Int):(ofL l).size=l.length:=by simp[ofL,ByteArray.size]
theorem zLw (l:List Int) (hl:Byt l) (i:Nat):nth (ofL l) i=l.getD i 0:=by
 unfold nth ofL
 by_cases hi:i<l.length
 ·have hb:=hl l[i] (List.getElem_mem hi)
  simp[List.getElem?_eq_getElem hi,List.getD_eq_getElem?_getD];omega
 ·simp[List.getD_eq_getElem?_getD,List.getElem?_eq_none (by omega:l.length<=i)]
end Go.Proofs.YtclpnafiiobfhaaGreatDoor

import Derived.WalkKit
import Derived.Lib.Split
import Derived.Lib.SplitLaws
import Derived.Lib.CutLaws
import Derived.Lib.SlicesS
import Derived.Lib.ItoaNum
import Derived.Lib.Join
import Derived.WalkSpells
import Derived.WalkLawsBesides
import Derived.Deep.QuietTactic
import Derived.BigQuiet
import Derived.Shelf.Strings.Cut
import Derived.Shelf.Strings.Split
import Derived.Test.YtclpnafiiobfhaaGreatDoorProg
import Derived.Deep.RegionHeld3
import Derived.Deep.CutRange
import Derived.Deep.AppendLies
import Derived.StillTactics
import Derived.OwnWalk
import Derived.Laws.OwnMore
import Derived.Deep.OwnRows
set_option linter.unusedVariables false
set_option linter.unusedSimpArgs false
set_option maxHeartbeats 1600000
namespace Go.Proofs.YtclpnafiiobfhaaGreatDoor
open Go.RowKit
def nth (s:ByteArray) (i:Nat):Int:=((s.data.toList.getD i 0).toNat:Int)
theorem nth_bd (s:ByteArray) (i:Nat):0<=nth s i/\nth s i<=255:=by
 unfold nth;have:=(s.data.toList.getD i 0).toNat_lt;omega
theorem nth_at (s:ByteArray) (i:Nat) (h:i<s.size):((s[i]).toNat:Int)=nth s i:=by
 unfold nth
 have h':i<s.data.toList.length:=by simpa using h
 rw[List.getD_eq_getElem?_getD,List.getElem?_eq_getElem h']
 rfl
def numv (s:ByteArray) (k:Nat):Nat->Int
 |0=>0
 |n+1=>256*numv s k n+nth s (k+n)
theorem numv_0 (s:ByteArray) (k:Nat):numv s k 0=0:=rfl
theorem numv_s (s:ByteArray) (k n:Nat):numv s k (n+1)=256*numv s k n+nth s (k+n):=rfl
theorem numv_bd (s:ByteArray) (k n:Nat):0<=numv s k n/\numv s k n<(256:Int) ^ n:=by
 induction n with
 |zero=>simp[numv]
 |succ n ih=>
  have:=nth_bd s (k+n)
  rw[numv_s]
  have e:(256:Int) ^ (n+1)=256 ^ n*256:=Int.pow_succ _ _
  omega
theorem numv_bd4 (s:ByteArray) (k n:Nat) (h:n<=4):0<=numv s k n/\numv s k n<=4294967295:=by
 have hb:=numv_bd s k n
 rcases n with _|_|_|_|_|n
 ·simp at hb ⊢;omega
 ·simp at hb ⊢;omega
 ·simp at hb ⊢;omega
 ·simp at hb ⊢;omega
 ·simp at hb ⊢;omega
 ·omega
theorem numv_2 (s:ByteArray) (k:Nat):numv s k 2=256*nth s k+nth s (k+1):=by simp[numv]
theorem numv_4 (s:ByteArray) (k:Nat):numv s k 4=65536*numv s k 2+numv s (k+2) 2:=by
 have e:k+2+1=k+3:=rfl
 simp only[numv,Nat.add_zero,e];omega
theorem numv_bd2 (s:ByteArray) (k:Nat):0<=numv s k 2/\numv s k 2<=65535:=by
 have h1:=nth_bd s k;have h2:=nth_bd s (k+1);rw[numv_2];omega
def sumTo (s:ByteArray):Nat->Int
 |0=>0
 |j+1=>sumTo s j+numv s (14+2*j) 2
theorem sumTo_bd (s:ByteArray) (j:Nat):0<=sumTo s j/\sumTo s j<=65535*j:=by
 induction j with
 |zero=>simp[sumTo]
 |succ j ih=>have:=numv_bd2 s (14+2*j);simp only[sumTo];omega
def fold1 (v:Int):Int:=if 65535<v then v % 65536+v / 65536 else v
def fold (v:Int):Int:=fold1 (fold1 v)
theorem fold_stop (v:Int) (h:v<=65535):fold v=v:=by unfold fold fold1;split<;>(try split)<;>omega
theorem fold_step (v:Int) (h:65535<v) (h1:v<=655350):fold (v % 65536+v / 65536)=fold v:=by
 unfold fold fold1;repeat' split
 all_goals omega
def inn (s:ByteArray) (t:Int):Bool:=
 if nth s 23=6 then decide (t<40)||(decide (nth s 46 / 16<5)||decide (t-20<4*(nth s 46 / 16)))
 else if nth s 23=17 then decide (t<28)||(decide (numv s 38 2<8)||decide (t-20<numv s 38 2))
 else if nth s 23=1 then decide (t<28)
 else false
def cls (s:ByteArray):Int:=
 if s.size<14 then 1
 else if numv s 12 2≠2048 then 2
 else if s.size<34 then 3
 else if nth s 14 / 16≠4 then 4
 else if nth s 14 % 16≠5 then 5
 else if numv s 16 2<20\/(s.size:Int)-14<numv s 16 2 then 6
 else if fold (sumTo s 10)≠65535 then 7
 else if numv s 20 2 % 16384≠0 then 8
 else if inn s (numv s 16 2) then 9 else 0
theorem tn2:(2:Int).toNat=2:=rfl
theorem tn4:(4:Int).toNat=4:=rfl
theorem tn12:(12:Int).toNat=12:=rfl
theorem tn16:(16:Int).toNat=16:=rfl
theorem tn20:(20:Int).toNat=20:=rfl
theorem tn26:(26:Int).toNat=26:=rfl
theorem tn30:(30:Int).toNat=30:=rfl
theorem tn34:(34:Int).toNat=34:=rfl
theorem tn36:(36:Int).toNat=36:=rfl
theorem tn38:(38:Int).toNat=38:=rfl
def hdr (s:ByteArray):Array Value:=
 let p:=nth s 23
 let sp:Int:=if p=6\/p=17 then numv s 34 2 else if p=1/\(nth s 34=8\/nth s 34=0) then numv s 38 2 else 0
 let dp:Int:=if p=6\/p=17 then numv s 36 2 else if p=1/\(nth s 34=8\/nth s 34=0) then numv s 38 2 else 0
 let fl:Int:=if p=6 then nth s 47 % 64 else if p=1 then nth s 34 else 0
 #[.int .u32 (numv s 26 4),.int .u32 (numv s 30 4),.int .u8 p,.int .u16 sp,.int .u16 dp,.int .u8 fl]
def hdr0:Array Value:= #[.int .u32 0,.int .u32 0,.int .u8 0,.int .u16 0,.int .u16 0,.int .u8 0]
theorem fold_bd (s:ByteArray):0<=fold (sumTo s 10)/\fold (sumTo s 10)<=65535:=by
 have h:=sumTo_bd s 10
 generalize sumTo s 10=v at*
 unfold fold fold1;repeat' split
 all_goals omega
theorem ret_int {k:IntKind} {a b:Int} (h:a=b):Ending.returned (.int k a)= .returned (.int k b):=by rw[h]
theorem ret_bool {a b:Bool} (h:a=b):Ending.returned (.bool a)= .returned (.bool b):=by rw[h]
def ba (l:List UInt8):ByteArray:=⟨l.toArray⟩
def bl (s:ByteArray):List UInt8:=s.data.toList
theorem ba_bl (s:ByteArray):ba (bl s)=s:=by simp[ba,bl]
theorem bl_ba (l:List UInt8):bl (ba l)=l:=by simp[ba,bl]
theorem ba_size (l:List UInt8):(ba l).size=l.length:=by simp[ba,ByteArray.size]
theorem bl_len (s:ByteArray):(bl s).length=s.size:=Array.length_toList
theorem bl_inj {a b:ByteArray} (h:bl a=bl b):a=b:=by rw[<-ba_bl a,h,ba_bl]
def parts (c:UInt8):List UInt8->List (List UInt8)
 |[]=>[[]]
 |x::l=>if x=c then[]::parts c l else(x::(parts c l).headD [])::(parts c l).tail
theorem parts_cons (c:UInt8) (l:List UInt8):∃p r,parts c l=p::r:=by
 cases l with
 |nil=>exact⟨_,_,rfl⟩
 |cons x l=>unfold parts;split<;>exact⟨_,_,rfl⟩
theorem parts_none (c:UInt8):∀(p:List UInt8),(∀x ∈ p,x≠c)->parts c p=[p]
 |[],_=>rfl
 |x::p,h=>by
  have h1:=parts_none c p (fun y hy=>h y (List.mem_cons_of_mem _ hy))
  rw[parts,if_neg (h x (List.mem_cons_self ..)),h1];rfl
theorem parts_hit (c:UInt8) (r:List UInt8):∀(p:List UInt8),(∀x ∈ p,x≠c)->parts c (p++c::r)=p::parts c r
 |[],_=>by rw[List.nil_append,parts,if_pos rfl]
 |x::p,h=>by
  have h1:=parts_hit c r p (fun y hy=>h y (List.mem_cons_of_mem _ hy))
  rw[List.cons_append,parts,if_neg (h x (List.mem_cons_self ..)),h1];rfl
theorem parts_len (c:UInt8):∀(l:List UInt8),(parts c l).length<=l.length+1
 |[]=>Nat.le_refl _
 |x::l=>by
  have h:=parts_len c l
  unfold parts
  split
  ·simp only[List.length_cons];omega
  ·simp only[List.length_cons,List.length_tail];omega
theorem parts_mem (c:UInt8):∀(l p:List UInt8),p ∈ parts c l->(∀x ∈ p,x≠c)/\p.length<=l.length
 |[],p,h=>by
  rw[parts,List.mem_singleton] at h
  subst h
  exact⟨fun x hx=>by simp at hx,Nat.le_refl _⟩
 |x::l,p,h=>by
  unfold parts at h
  split at h
  ·rcases List.mem_cons.1 h with rfl|h
   ·exact⟨fun x hx=>by simp at hx,Nat.zero_le _⟩
   ·have:=parts_mem c l p h
    exact⟨this.1,by simp only[List.length_cons];omega⟩
  ·rename_i hx
   obtain⟨q,r,e⟩:=parts_cons c l
   have hq:=parts_mem c l q (by rw[e];exact List.mem_cons_self ..)
   rcases List.mem_cons.1 h with rfl|h
   ·rw[e,List.headD_cons]
    refine⟨fun y hy=> ?_,by simp only[List.length_cons];omega⟩
    rcases List.mem_cons.1 hy with rfl|hy
    ·exact hx
    ·exact hq.1 y hy
   ·have hm:=parts_mem c l p (List.mem_of_mem_tail h)
    exact⟨hm.1,by simp only[List.length_cons];omega⟩
open Go.Lib in
theorem index_one_none (c:UInt8) (l:List UInt8) (h:index l [c]= -1):∀x ∈ l,x≠c:=by
 rcases index_spec l [c] with⟨_,h2⟩|⟨i,h1,_⟩
 ·intro x hx e
  obtain⟨j,hj,rfl⟩:=List.getElem_of_mem hx
  have:=h2 j (Nat.le_of_lt hj)
  rw[occAt,List.drop_eq_getElem_cons hj,e] at this
  simp at this
 ·omega
open Go.Lib in
theorem index_one_some (c:UInt8) (l:List UInt8) (i:Nat) (h:index l [c]=i):l=l.take i++c::l.drop (i+1)/\(∀x ∈ l.take i,x≠c)/\i<l.length:=by
 rcases index_spec l [c] with⟨h1,_⟩|⟨j,h1,h2,h3,h4⟩
 ·omega
 ·have e:i=j:=by omega
  subst e
  have hlt:i<l.length:=by
   rcases Nat.lt_or_ge i l.length with g|g
   ·exact g
   ·rw[occAt,List.drop_eq_nil_of_le g] at h3
    simp at h3
  refine⟨?_,fun x hx e=> ?_,hlt⟩
  ·have hc:l[i]=c:=by
    rw[occAt,List.drop_eq_getElem_cons hlt,List.isPrefixOf_cons_cons,Bool.and_eq_true] at h3
    exact(beq_iff_eq.1 h3.1).symm
   conv=>lhs;rw[<-List.take_append_drop i l]
   rw[List.drop_eq_getElem_cons hlt,hc]
  ·obtain⟨j,hj,rfl⟩:=List.getElem_of_mem hx
   have hj':j<i:=by simp at hj;omega
   have:=h4 j hj'
   rw[List.getElem_take] at e
   rw[occAt,List.drop_eq_getElem_cons (by omega:j<l.length),e] at this
   simp at this
open Go.Lib in
theorem splitK_parts (c:UInt8):∀(fuel:Nat) (l:List UInt8),l.length<fuel->splitK [c] 0 (countFrom [c] fuel l) l=parts c l
 |0,l,h=>by omega
 |fuel+1,l,h=>by
  rw[countFrom]
  by_cases hi:index l [c]= -1
  ·rw[if_pos (by rw[hi];rfl),splitK,parts_none c l (index_one_none c l hi)]
  ·rw[if_neg (by simpa using hi)]
   rcases index_spec l [c] with⟨h1,_⟩|⟨i,h1,h2,h3,h4⟩
   ·exact absurd h1 hi
   ·obtain⟨e,hn,hlt⟩:=index_one_some c l i h1
    rw[Nat.add_comm 1,splitK,if_neg (by simpa using hi),h1,Int.toNat_natCast,Nat.add_zero]
    have ih:=splitK_parts c fuel (l.drop (i+1)) (by rw[List.length_drop];omega)
    show _::splitK [c] 0 _ (l.drop (i+[c].length))=_
    rw[show[c].length=1 from rfl,ih]
    conv=>rhs;rw[e,parts_hit c _ _ hn]
theorem splitB_parts (c:UInt8) (s:ByteArray):Lib.splitB (ba [c]) 0 (Lib.countB s (ba [c])) s=(parts c (bl s)).map ba:=by
 have h1:=Lib.splitB_data (ba [c]) 0 (Lib.countB s (ba [c])) s
 have h2:Lib.splitK [c] 0 (Lib.countB s (ba [c])) (bl s)=parts c (bl s):=splitK_parts c _ _ (by simp)
 have h3:(Lib.splitB (ba [c]) 0 (Lib.countB s (ba [c])) s).map bl=parts c (bl s):=by rw[<-h2];exact h1
 have h4:=congrArg (List.map ba) h3
 rw[List.map_map] at h4
 have e:ba ∘ bl=id:=funext ba_bl
 rw[e,List.map_id] at h4
 exact h4
theorem countB_parts (c:UInt8) (s:ByteArray):Lib.countB s (ba [c])+1=(parts c (bl s)).length:=by
 have:=Lib.splitB_all (ba [c]) (by simp[ba_size]) 0 _ s rfl
 rw[splitB_parts,List.length_map] at this
 exact this.symm
def digit (x:UInt8):Bool:=decide (48<=x.toNat)&&decide (x.toNat<=57)
def val (l:List UInt8):Nat:=l.foldl (fun v x=>10*v+(x.toNat-48)) 0
def numOf (s:ByteArray):Option Nat:=if s.size≠0/\(bl s).all digit=true then some (val (bl s)) else none
def nums:List ByteArray->Option (List Nat)
 |[]=>some []
 |p::r=>(numOf p).bind fun v=>(nums r).map fun vs=>v::vs
def cutB (c:UInt8) (s:ByteArray):List ByteArray:=(parts c (bl s)).map ba
def pieces (s:ByteArray):List ByteArray:=(cutB 32 s).filter fun p=>p.size !=0
abbrev plc (ws:List ByteArray) (s:ByteArray):Int:=Lib.idxOfS ws s
def vws:List ByteArray:=[⟨#[100,114,111,112]⟩,⟨#[97,99,99,101,112,116]⟩,⟨#[114,101,106,101,99,116]⟩]
def nws:List ByteArray:=[⟨#[105,110]⟩,⟨#[102,114,111,109]⟩,⟨#[116,111]⟩,⟨#[112,114,111,116,111]⟩,⟨#[115,112,111,114,116]⟩,⟨#[100,112,111,114,116]⟩,⟨#[102,108,97,103,115]⟩,⟨#[115,116,97,116,101]⟩]
def sws:List ByteArray:=[⟨#[110,101,119]⟩,⟨#[101,115,116,97,98,108,105,115,104,101,100]⟩,⟨#[105,110,118,97,108,105,100]⟩]
def pws:List ByteArray:=[⟨#[105,99,109,112]⟩,⟨#[116,99,112]⟩,⟨#[117,100,112]⟩]
def polw:ByteArray:=⟨#[112,111,108,105,99,121]⟩
def inVal (p:ByteArray):Nat×List Nat:=match numOf p with
 |none=>(3,[])
 |some n=>if n<=255 then(0,[n]) else(5,[])
def netOf (q:List Nat) (n:Nat):Nat×List Nat:=match q with
 |[a,b,c,d]=>if a<=255/\b<=255/\c<=255/\d<=255/\n<=32/\(((a*256+b)*256+c)*256+d) % 2 ^ (32-n)=0 then(0,[((a*256+b)*256+c)*256+d,n]) else(5,[])
 |_=>(3,[])
def netVal (p:ByteArray):Nat×List Nat:=match cutB 47 p with
 |[a,b]=>match nums (cutB 46 a),numOf b with
  |some q,some n=>netOf q n
  |_,_=>(3,[])
 |_=>(3,[])
def protoVal (p:ByteArray):Nat×List Nat:=if plc pws p<0 then(3,[]) else(0,[[1,6,17].getD (plc pws p).toNat 0])
def portVal (p:ByteArray):Nat×List Nat:=match nums (cutB 45 p) with
 |some [a]=>if a<=65535 then(0,[a,a]) else(5,[])
 |some [a,b]=>if b<=65535/\a<=b then(0,[a,b]) else(5,[])
 |_=>(3,[])
def flagVal (p:ByteArray):Nat×List Nat:=match nums (cutB 47 p) with
 |some [m,s]=>if m<=63/\s&&& m=s then(0,[m,s]) else(5,[])
 |_=>(3,[])
def stateIn:List ByteArray->List Bool->Bool->List Bool×Bool
 |[],l,t=>(l,t)
 |p::r,l,t=>stateIn r (l.set (plc sws p).toNat true) (t||l.getD (plc sws p).toNat false)
def bn (b:Bool):Nat:=if b then 1 else 0
def stateVal (p:ByteArray):Nat×List Nat:=
 if(cutB 44 p).any (fun q=>decide (plc sws q<0)) then(3,[])
 else if(stateIn (cutB 44 p) [false,false,false] false).2 then(5,[])
 else(0,(stateIn (cutB 44 p) [false,false,false] false).1.map bn)
def condVal (c:Nat) (p:ByteArray):Nat×List Nat:=
 if c=0 then inVal p else if c=1\/c=2 then netVal p else if c=3 then protoVal p else if c=4\/c=5 then portVal p else if c=6 then flagVal p else stateVal p
abbrev Cs:=List (Option (List Nat))
def none8:Cs:=[none,none,none,none,none,none,none,none]
def conds:List ByteArray->Cs->Nat×Cs
 |[],cs=>(0,cs)
 |[_],cs=>(3,cs)
 |n::p::r,cs=>
  if plc nws n<0 then(3,cs)
  else if(cs.getD (plc nws n).toNat none).isSome then(6,cs)
  else if(condVal (plc nws n).toNat p).1≠0 then((condVal (plc nws n).toNat p).1,cs)
  else conds r (cs.set (plc nws n).toNat (some (condVal (plc nws n).toNat p).2))
def protoOf (cs:Cs):Nat:=((cs.getD 3 none).getD []).getD 0 0
def missing (cs:Cs):Bool:=
 (((cs.getD 4 none).isSome||(cs.getD 5 none).isSome)&& !(protoOf cs == 6||protoOf cs == 17))||((cs.getD 6 none).isSome&& !(protoOf cs == 6))
structure Rl where
 v:Nat
 cs:Cs
def ruleOf (ps:List ByteArray) (ahead:Nat):Nat×Rl:=
 if plc vws (ps.getD 0 ByteArray.empty)<0 then(3,⟨0,none8⟩)
 else if 48<=ahead then(4,⟨0,none8⟩)
 else if(conds ps.tail none8).1≠0 then((conds ps.tail none8).1,⟨0,none8⟩)
 else if missing (conds ps.tail none8).2 then(7,⟨0,none8⟩)
 else(0,⟨(plc vws (ps.getD 0 ByteArray.empty)).toNat,(conds ps.tail none8).2⟩)
structure Bk where
 has:Bool
 pol:Nat
 rs:List Rl
def bk0:Bk:=⟨false,0,[]⟩
def policyOf (ps:List ByteArray):Int:=if ps.length=2/\ps.getD 0 ByteArray.empty=polw then plc vws (ps.getD 1 ByteArray.empty) else-1
def lineOf (b:Bk) (ps:List ByteArray):Nat×Bk:=
 if b.has then(if(ruleOf ps b.rs.length).1=0 then(0,⟨true,b.pol,b.rs++[(ruleOf ps b.rs.length).2]⟩) else((ruleOf ps b.rs.length).1,bk0))
 else if policyOf ps<0 then(3,bk0) else(0,⟨true,(policyOf ps).toNat,[]⟩)
def linesOf:List ByteArray->Nat->Bk->Nat×Nat×Bk
 |[],_,b=>if b.has then(0,0,b) else(3,0,bk0)
 |l::r,n,b=>
  if pieces l=[] then linesOf r (n+1) b
  else if(lineOf b (pieces l)).1≠0 then((lineOf b (pieces l)).1,n+1,bk0)
  else linesOf r (n+1) (lineOf b (pieces l)).2
def readT (s:ByteArray):Nat×Nat×Bk:=if 2000<s.size then(2,0,bk0) else linesOf (cutB 10 s) 0 bk0
theorem ext_ba (s:ByteArray) (a b:Nat):s.extract a b=ba (((bl s).drop a).take (b-a)):=by
 apply bl_inj
 rw[bl_ba]
 unfold bl
 rw[Lib.extract_data]
theorem nth_bl (s:ByteArray) (i:Nat) (h:i<s.size):∃x:UInt8,(bl s)[i]? =some x/\nth s i=(x.toNat:Int):=by
 have h':i<(bl s).length:=by rw[bl_len];exact h
 refine⟨(bl s)[i],List.getElem?_eq_getElem h',?_⟩
 unfold nth
 rw[List.getD_eq_getElem?_getD]
 show(((bl s)[i]?.getD 0).toNat:Int)=_
 rw[List.getElem?_eq_getElem h'];rfl
structure Mid (s:ByteArray) (c:UInt8) (f i:Nat) (done:List ByteArray):Prop where
 le:f<=i
 top:i<=s.size
 free:∀j,f<=j->j<i->nth s j≠(c.toNat:Int)
 all:cutB c s=done++cutB c (ba ((bl s).drop f))
theorem Mid.start (s:ByteArray) (c:UInt8):Mid s c 0 0 []:=⟨Nat.le_refl _,Nat.zero_le _,fun j _ h=>by omega,by rw[List.drop_zero,ba_bl,List.nil_append]⟩
theorem Mid.skip {s:ByteArray} {c:UInt8} {f i:Nat} {done:List ByteArray} (h:Mid s c f i done) (hi:i<s.size) (hn:nth s i≠(c.toNat:Int)):Mid s c f (i+1) done:=
 ⟨by have:=h.le;omega,hi,fun j h1 h2=>by
   by_cases e:j=i
   ·subst e;exact hn
   ·exact h.free j h1 (by omega),h.all⟩
theorem Mid.free' {s:ByteArray} {c:UInt8} {f i:Nat} {done:List ByteArray} (h:Mid s c f i done):∀x ∈ ((bl s).drop f).take (i-f),x≠c:=by
 intro x hx e
 obtain⟨j,hj,rfl⟩:=List.getElem_of_mem hx
 rw[List.length_take,List.length_drop,bl_len] at hj
 rw[List.getElem_take,List.getElem_drop] at e
 have hs:f+j<s.size:=by omega
 obtain⟨y,hy,hn⟩:=nth_bl s (f+j) hs
 rw[List.getElem?_eq_getElem (by rw[bl_len];exact hs)] at hy
 have:=h.free (f+j) (by omega) (by omega)
 rw[hn] at this
 injection hy with hy
 rw[<-hy,e] at this
 exact this rfl
theorem Mid.hit {s:ByteArray} {c:UInt8} {f i:Nat} {done:List ByteArray} (h:Mid s c f i done) (hi:i<s.size) (hn:nth s i=(c.toNat:Int)):Mid s c (i+1) (i+1) (done++[s.extract f i]):=by
 refine⟨Nat.le_refl _,hi,fun j h1 h2=>by omega,?_⟩
 rw[h.all,List.append_assoc]
 congr 1
 obtain⟨y,hy,hn'⟩:=nth_bl s i hi
 have hyc:y=c:=by
  apply UInt8.toNat_inj.1
  omega
 subst hyc
 have hlt:i<(bl s).length:=by rw[bl_len];exact hi
 have hle:=h.le
 have e:(bl s).drop f=((bl s).drop f).take (i-f)++y::(bl s).drop (i+1):=by
  conv=>lhs;rw[<-List.take_append_drop (i-f) ((bl s).drop f)]
  rw[List.drop_drop,show f+(i-f)=i by omega,List.drop_eq_getElem_cons hlt]
  rw[List.getElem?_eq_getElem hlt] at hy
  injection hy with hy
  rw[hy]
 unfold cutB
 rw[bl_ba,bl_ba]
 conv=>lhs;rw[e,parts_hit y _ _ h.free']
 rw[List.map_cons,ext_ba];rfl
theorem Mid.done {s:ByteArray} {c:UInt8} {f:Nat} {done:List ByteArray} (h:Mid s c f s.size done):cutB c s=done++[s.extract f s.size]:=by
 rw[h.all]
 congr 1
 have e:((bl s).drop f).take (s.size-f)=(bl s).drop f:=by
  apply List.take_of_length_le
  rw[List.length_drop,bl_len]
  exact Nat.le_refl _
 have hf:=h.free'
 rw[e] at hf
 unfold cutB
 rw[bl_ba,parts_none c _ hf,ext_ba,e];rfl
def valTo (s:ByteArray) (i:Nat):Nat:=val ((bl s).take i)
def Digs (s:ByteArray) (i:Nat):Prop:=∀j,j<i->48<=nth s j/\nth s j<=57
theorem valTo_zero (s:ByteArray):valTo s 0=0:=rfl
theorem valTo_succ (s:ByteArray) (i:Nat) (h:i<s.size):((valTo s (i+1):Nat):Int)=10*(valTo s i:Int)+((nth s i-48).toNat:Int):=by
 obtain⟨x,hx,hn⟩:=nth_bl s i h
 unfold valTo val
 rw[List.take_add_one,hx,Option.toList_some,List.foldl_append,List.foldl_cons,List.foldl_nil,hn]
 omega
theorem Digs.succ {s:ByteArray} {i:Nat} (h:Digs s i) (hd:48<=nth s i/\nth s i<=57):Digs s (i+1):=fun j hj=>by
 by_cases e:j=i
 ·subst e;exact hd
 ·exact h j (by omega)
theorem numOf_all (s:ByteArray) (h0:s.size≠0) (h:Digs s s.size):numOf s=some (valTo s s.size):=by
 have ha:(bl s).all digit=true:=by
  rw[List.all_eq_true]
  intro x hx
  obtain⟨j,hj,rfl⟩:=List.getElem_of_mem hx
  have hj':j<s.size:=by rw[bl_len] at hj;exact hj
  obtain⟨y,hy,hn⟩:=nth_bl s j hj'
  rw[List.getElem?_eq_getElem hj] at hy
  injection hy with hy
  have:=h j hj'
  rw[hn] at this
  unfold digit
  rw[hy,Bool.and_eq_true,decide_eq_true_eq,decide_eq_true_eq]
  omega
 unfold numOf
 rw[if_pos ⟨h0,ha⟩]
 unfold valTo
 rw[List.take_of_length_le (by rw[bl_len];exact Nat.le_refl _)]
theorem numOf_bad (s:ByteArray) (i:Nat) (hi:i<s.size) (h:¬(48<=nth s i/\nth s i<=57)):numOf s=none:=by
 unfold numOf
 rw[if_neg]
 rintro⟨_,ha⟩
 apply h
 obtain⟨y,hy,hn⟩:=nth_bl s i hi
 have hm:y ∈ bl s:=List.mem_of_getElem? hy
 have:=List.all_eq_true.1 ha y hm
 unfold digit at this
 rw[Bool.and_eq_true,decide_eq_true_eq,decide_eq_true_eq] at this
 rw[hn]
 omega
theorem numOf_empty (s:ByteArray) (h:s.size=0):numOf s=none:=by
 unfold numOf
 rw[if_neg]
 rintro⟨h0,_⟩
 exact h0 h
theorem numOf_cases (s:ByteArray):(s.size≠0/\Digs s s.size/\numOf s=some (valTo s s.size))\/(numOf s=none/\(s.size=0\/∃i,i<s.size/\Digs s i/\¬(48<=nth s i/\nth s i<=57))):=by
 by_cases h0:s.size=0
 ·exact Or.inr ⟨numOf_empty s h0,Or.inl h0⟩
 ·have key:∀k,k<=s.size->Digs s k\/∃i,i<s.size/\Digs s i/\¬(48<=nth s i/\nth s i<=57):=by
   intro k
   induction k with
   |zero=>intro _;exact Or.inl (fun j hj=>by omega)
   |succ k ih=>
    intro hk
    rcases ih (by omega) with h|h
    ·by_cases hd:48<=nth s k/\nth s k<=57
     ·exact Or.inl (h.succ hd)
     ·exact Or.inr ⟨k,by omega,h,hd⟩
    ·exact Or.inr h
  rcases key s.size (Nat.le_refl _) with h|⟨i,h1,h2,h3⟩
  ·exact Or.inl ⟨h0,h,numOf_all s h0 h⟩
  ·exact Or.inr ⟨numOf_bad s i h1 h3,Or.inr ⟨i,h1,h2,h3⟩⟩
theorem nums_fine {p:ByteArray} {v:Nat} (r:List ByteArray) (h:numOf p=some v):nums (p::r)=(nums r).map (fun vs=>v::vs):=by rw[nums,h];rfl
theorem nums_bad {p:ByteArray} (r:List ByteArray) (h:numOf p=none):nums (p::r)=none:=by rw[nums,h];rfl
theorem nums_len:∀(l:List ByteArray) (q:List Nat),nums l=some q->q.length=l.length
 |[],q,h=>by cases h;rfl
 |p::r,q,h=>by
  rw[nums] at h
  cases hp:numOf p with
  |none=>rw[hp] at h;cases h
  |some v=>
   rw[hp] at h
   cases hr:nums r with
   |none=>rw[hr] at h;cases h
   |some vs=>
    rw[hr] at h
    injection h with h
    subst h
    simp[nums_len r vs hr]
theorem cutB_mem (c:UInt8) (s p:ByteArray) (h:p ∈ cutB c s):p.size<=s.size:=by
 unfold cutB at h
 rw[List.mem_map] at h
 obtain⟨q,hq,rfl⟩:=h
 rw[ba_size,<-bl_len]
 exact(parts_mem c _ _ hq).2
theorem cutB_len (c:UInt8) (s:ByteArray):(cutB c s).length<=s.size+1:=by
 unfold cutB
 rw[List.length_map,<-bl_len]
 exact parts_len _ _
theorem cutB_pos (c:UInt8) (s:ByteArray):0<(cutB c s).length:=by
 unfold cutB
 obtain⟨p,r,e⟩:=parts_cons c (bl s)
 rw[e];simp
theorem pieces_mem (s p:ByteArray) (h:p ∈ pieces s):p.size<=s.size:=cutB_mem _ _ _ (List.mem_filter.1 h).1
theorem pieces_len (s:ByteArray):(pieces s).length<=s.size+1:=Nat.le_trans (List.length_filter_le _ _) (cutB_len _ _)
theorem plc_lt (ws:List ByteArray) (s:ByteArray):plc ws s<ws.length:=by
 have key:∀(l:List ByteArray) (i:Nat),Lib.idxFromS l s i<((i+l.length:Nat):Int)\/Lib.idxFromS l s i= -1:=by
  intro l
  induction l with
  |nil=>intro i;exact Or.inr rfl
  |cons z l ih=>
   intro i
   unfold Lib.idxFromS
   split
   ·left;simp only[List.length_cons];omega
   ·rcases ih (i+1) with h|h
    ·left;simp only[List.length_cons];omega
    ·exact Or.inr h
 show Lib.idxFromS ws s 0<_
 rcases key ws 0 with h|h
 ·simpa using h
 ·show Lib.idxFromS ws s 0<_
  rw[h];omega
def Good (c:Nat) (v:List Nat):Prop:=
 if c=0 then ∃n,v=[n]/\n<=255
 else if c=1\/c=2 then ∃a n,v=[a,n]/\a<4294967296/\n<=32/\a % 2 ^ (32-n)=0
 else if c=3 then v=[1]\/v=[6]\/v=[17]
 else if c=4\/c=5 then ∃a b,v=[a,b]/\a<=b/\b<=65535
 else if c=6 then ∃m s,v=[m,s]/\m<=63/\s&&& m=s
 else ∃x y z:Bool,v=[bn x,bn y,bn z]
theorem stateIn_len:∀(l:List ByteArray) (b:List Bool) (t:Bool),(stateIn l b t).1.length=b.length
 |[],_,_=>rfl
 |p::r,b,t=>by rw[stateIn,stateIn_len r];simp
theorem condVal_good (c:Nat) (p:ByteArray) (h:(condVal c p).1=0):Good c (condVal c p).2:=by
 unfold condVal at h ⊢
 unfold Good
 by_cases h0:c=0
 ·rw[if_pos h0] at h ⊢
  rw[if_pos h0]
  unfold inVal at h ⊢
  cases hn:numOf p with
  |none=>rw[hn] at h;cases h
  |some n=>
   rw[hn] at h
   simp only at h ⊢
   split at h
   ·rename_i hle
    rw[if_pos hle]
    exact⟨n,rfl,hle⟩
   ·cases h
 rw[if_neg h0] at h ⊢
 rw[if_neg h0]
 by_cases h1:c=1\/c=2
 ·rw[if_pos h1] at h ⊢
  rw[if_pos h1]
  unfold netVal at h ⊢
  split at h
  ·rename_i a b e
   split at h
   ·rename_i q n e1 e2
    unfold netOf at h ⊢
    split at h
    ·rename_i x y z u
     split at h
     ·rename_i hg
      rw[if_pos hg]
      exact⟨_,n,rfl,by omega,hg.2.2.2.2.1,hg.2.2.2.2.2⟩
     ·cases h
    ·cases h
   ·cases h
  ·cases h
 rw[if_neg h1] at h ⊢
 rw[if_neg h1]
 by_cases h3:c=3
 ·rw[if_pos h3] at h ⊢
  rw[if_pos h3]
  unfold protoVal at h ⊢
  split at h
  ·cases h
  ·rename_i hp
   rw[if_neg hp]
   have hlt:=plc_lt pws p
   have h3:(plc pws p).toNat=0\/(plc pws p).toNat=1\/(plc pws p).toNat=2:=by
    have:pws.length=3:=rfl
    omega
   rcases h3 with e|e|e<;>rw[e]<;>simp
 rw[if_neg h3] at h ⊢
 rw[if_neg h3]
 by_cases h4:c=4\/c=5
 ·rw[if_pos h4] at h ⊢
  rw[if_pos h4]
  unfold portVal at h ⊢
  split at h
  ·rename_i a e
   split at h
   ·rename_i hg
    rw[if_pos hg]
    exact⟨a,a,rfl,Nat.le_refl _,hg⟩
   ·cases h
  ·rename_i a b e
   split at h
   ·rename_i hg
    rw[if_pos hg]
    exact⟨a,b,rfl,hg.2,hg.1⟩
   ·cases h
  ·cases h
 rw[if_neg h4] at h ⊢
 rw[if_neg h4]
 by_cases h6:c=6
 ·rw[if_pos h6] at h ⊢
  rw[if_pos h6]
  unfold flagVal at h ⊢
  split at h
  ·rename_i m s e
   split at h
   ·rename_i hg
    rw[if_pos hg]
    exact⟨m,s,rfl,hg.1,hg.2⟩
   ·cases h
  ·cases h
 rw[if_neg h6] at h ⊢
 rw[if_neg h6]
 unfold stateVal at h ⊢
 split at h
 ·cases h
 ·rename_i ha
  split at h
  ·cases h
  ·rename_i hb
   rw[if_neg ha,if_neg hb]
   have hl:=stateIn_len (cutB 44 p) [false,false,false] false
   generalize (stateIn (cutB 44 p) [false,false,false] false).1=l at hl ⊢
   match l,hl with
   |[x,y,z],_=>exact⟨x,y,z,rfl⟩
def GoodCs (cs:Cs):Prop:=cs.length=8/\∀c v,cs.getD c none=some v->Good c v
theorem good_none:GoodCs none8:=⟨rfl,fun c v h=>by
 have:none8.getD c none=none:=by
  unfold none8
  rcases c with _|_|_|_|_|_|_|_|c<;>rfl
 rw[this] at h;cases h⟩
theorem GoodCs.set {cs:Cs} (h:GoodCs cs) (c:Nat) (v:List Nat) (hv:Good c v):GoodCs (cs.set c (some v)):=by
 refine⟨by rw[List.length_set];exact h.1,fun d u hd=> ?_⟩
 by_cases e:c=d
 ·subst e
  rw[List.getD_eq_getElem?_getD,List.getElem?_set] at hd
  simp only[if_true] at hd
  split at hd
  ·injection hd with hd;subst hd;exact hv
  ·cases hd
 ·rw[List.getD_eq_getElem?_getD,List.getElem?_set_ne e,<-List.getD_eq_getElem?_getD] at hd
  exact h.2 d u hd
theorem conds_good:∀(l:List ByteArray) (cs:Cs),GoodCs cs->(conds l cs).1=0->GoodCs (conds l cs).2
 |[],cs,h,_=>h
 |[_],cs,h,e=>by cases e
 |n::p::r,cs,h,e=>by
  rw[conds] at e ⊢
  by_cases h1:plc nws n<0
  ·rw[if_pos h1] at e;cases e
  rw[if_neg h1] at e ⊢
  by_cases h2:(cs.getD (plc nws n).toNat none).isSome=true
  ·rw[if_pos h2] at e;cases e
  rw[if_neg h2] at e ⊢
  by_cases h3:(condVal (plc nws n).toNat p).1≠0
  ·rw[if_pos h3] at e;exact absurd e h3
  rw[if_neg h3] at e ⊢
  exact conds_good r _ (h.set _ _ (condVal_good _ _ (by omega))) e
structure GoodR (r:Rl):Prop where
 v:r.v<=2
 cs:GoodCs r.cs
 all:missing r.cs=false
theorem ruleOf_good (ps:List ByteArray) (n:Nat) (h:(ruleOf ps n).1=0):GoodR (ruleOf ps n).2/\n<48:=by
 unfold ruleOf at h ⊢
 by_cases h1:plc vws (ps.getD 0 ByteArray.empty)<0
 ·rw[if_pos h1] at h;cases h
 rw[if_neg h1] at h ⊢
 by_cases h2:48<=n
 ·rw[if_pos h2] at h;cases h
 rw[if_neg h2] at h ⊢
 by_cases h3:(conds ps.tail none8).1≠0
 ·rw[if_pos h3] at h;exact absurd h h3
 rw[if_neg h3] at h ⊢
 by_cases h4:missing (conds ps.tail none8).2=true
 ·rw[if_pos h4] at h;cases h
 rw[if_neg h4]
 have hlt:=plc_lt vws (ps.getD 0 ByteArray.empty)
 have:vws.length=3:=rfl
 exact⟨⟨by show(plc vws _).toNat<=2;omega,conds_good _ _ good_none (by omega),by simpa using h4⟩,by omega⟩
structure GoodB (b:Bk):Prop where
 pol:b.pol<=2
 len:b.rs.length<=48
 rs:∀r ∈ b.rs,GoodR r
theorem good_bk0:GoodB bk0:=⟨by decide,by decide,fun r h=>by cases h⟩
theorem lineOf_good (b:Bk) (ps:List ByteArray) (h:GoodB b):GoodB (lineOf b ps).2:=by
 unfold lineOf
 split
 ·split
  ·rename_i hz
   have:=ruleOf_good ps b.rs.length hz
   refine⟨h.pol,by simp;omega,fun r hr=> ?_⟩
   rcases List.mem_append.1 hr with hr|hr
   ·exact h.rs r hr
   ·rw[List.mem_singleton] at hr;subst hr;exact this.1
  ·exact good_bk0
 ·split
  ·exact good_bk0
  ·refine⟨?_,by simp,fun r hr=>by cases hr⟩
   show(policyOf ps).toNat<=2
   unfold policyOf
   split
   ·have hlt:=plc_lt vws (ps.getD 1 ByteArray.empty)
    have:vws.length=3:=rfl
    omega
   ·decide
theorem parts_two (c:UInt8):∀(l:List UInt8),c ∈ l->2<=(parts c l).length
 |[],h=>by cases h
 |x::l,h=>by
  unfold parts
  by_cases e:x=c
  ·rw[if_pos e]
   obtain⟨p,r,q⟩:=parts_cons c l
   rw[q];simp
  ·rw[if_neg e]
   have hm:c ∈ l:=by
    rcases List.mem_cons.1 h with h|h
    ·exact absurd h.symm e
    ·exact h
   have:=parts_two c l hm
   simp only[List.length_cons,List.length_tail];omega
theorem cutB_single {c:UInt8} {s:ByteArray} (h:(cutB c s).length=1):cutB c s=[s]:=by
 unfold cutB at h ⊢
 rw[List.length_map] at h
 have hn:∀x ∈ bl s,x≠c:=fun x hx e=>by
  have:=parts_two c (bl s) (e▸hx)
  omega
 rw[parts_none c _ hn]
 simp[ba_bl]
theorem cutB_many {c:UInt8} {s:ByteArray} (h:(cutB c s).length≠1):c ∈ bl s:=by
 refine Classical.byContradiction fun hn=>h ?_
 unfold cutB
 rw[List.length_map,parts_none c _ (fun x hx e=>hn (e▸hx))];rfl
theorem numOf_has (c:UInt8) (s:ByteArray) (h:c ∈ bl s) (hd:digit c=false):numOf s=none:=by
 unfold numOf
 rw[if_neg]
 rintro⟨_,ha⟩
 have:=List.all_eq_true.1 ha c h
 rw[hd] at this;cases this
structure CutAt (c:UInt8) (s a z:ByteArray) (f:Bool):Prop where
 miss:f=false->cutB c s=[s]/\a=s/\z=ByteArray.empty
 hit:f=true->cutB c s=a::cutB c z
 sza:a.size<=s.size
 szz:z.size<=s.size
theorem cutAt_lib (c:UInt8) (s:ByteArray):CutAt c s ⟨(Lib.cut s.data.toList [c]).1.toArray⟩ ⟨(Lib.cut s.data.toList [c]).2.1.toArray⟩ (Lib.cut s.data.toList [c]).2.2:=by
 show CutAt c s (ba (Lib.cut (bl s) [c]).1) (ba (Lib.cut (bl s) [c]).2.1) (Lib.cut (bl s) [c]).2.2
 unfold Lib.cut
 by_cases h:0<=Lib.index (bl s) [c]
 ·rw[if_pos h]
  obtain⟨i,hi⟩:∃i:Nat,Lib.index (bl s) [c]=i:=⟨(Lib.index (bl s) [c]).toNat,by omega⟩
  obtain⟨e,hn,hlt⟩:=index_one_some c (bl s) i hi
  refine⟨fun q=>(by cases q),fun _=> ?_,?_,?_⟩
  ·show cutB c s=ba ((bl s).take (Lib.index (bl s) [c]).toNat)::cutB c (ba ((bl s).drop ((Lib.index (bl s) [c]).toNat+[c].length)))
   rw[hi,Int.toNat_natCast]
   unfold cutB
   rw[bl_ba]
   conv=>lhs;rw[e,parts_hit c _ _ hn]
   rfl
  ·show(ba ((bl s).take (Lib.index (bl s) [c]).toNat)).size<=_
   rw[ba_size,List.length_take,bl_len];omega
  ·show(ba ((bl s).drop _)).size<=_
   rw[ba_size,List.length_drop,bl_len];omega
 ·rw[if_neg h]
  have hm:Lib.index (bl s) [c]= -1:=by
   rcases Lib.index_spec (bl s) [c] with⟨h1,_⟩|⟨i,h1,_⟩
   ·exact h1
   ·omega
  refine⟨fun _=>⟨?_,ba_bl s,rfl⟩,fun q=>(by cases q),by show(ba (bl s)).size<=_;rw[ba_bl];exact Nat.le_refl _,Nat.zero_le _⟩
  unfold cutB
  rw[parts_none c _ (index_one_none c _ hm)]
  simp[ba_bl]
theorem CutAt.two {c:UInt8} {s a z:ByteArray} {f:Bool} (h:CutAt c s a z f) (hd:digit c=false):
 (f=true/\cutB c s=[a,z])\/(numOf z=none/\(cutB c s).length≠2):=by
 cases f with
 |false=>
  obtain⟨h1,_,h3⟩:=h.miss rfl
  refine Or.inr ⟨by rw[h3];exact numOf_empty _ rfl,by rw[h1];simp⟩
 |true=>
  have h1:=h.hit rfl
  by_cases hl:(cutB c z).length=1
  ·exact Or.inl ⟨rfl,by rw[h1,cutB_single hl]⟩
  ·exact Or.inr ⟨numOf_has c z (cutB_many hl) hd,by rw[h1,List.length_cons];omega⟩
theorem nums_two (a b:ByteArray):nums [a,b]=(numOf a).bind fun x=>(numOf b).map fun y=>[x,y]:=by
 unfold nums nums nums
 cases numOf a with
 |none=>rfl
 |some v=>cases numOf b<;>rfl
theorem nums_none_mem:∀(l:List ByteArray) (p:ByteArray),p ∈ l->numOf p=none->nums l=none
 |[],p,h,_=>by cases h
 |q::r,p,h,hn=>by
  rcases List.mem_cons.1 h with rfl|h
  ·exact nums_bad r hn
  ·rw[nums,nums_none_mem r p h hn]
   cases numOf q<;>rfl
theorem nums_append (l:List ByteArray) (p:ByteArray):nums (l++[p])=(nums l).bind fun q=>(numOf p).map fun v=>q++[v]:=by
 induction l with
 |nil=>
  rw[List.nil_append]
  unfold nums nums
  cases numOf p<;>rfl
 |cons a l ih=>
  rw[List.cons_append,nums,nums,ih]
  cases numOf a with
  |none=>rfl
  |some v=>cases nums l with
   |none=>rfl
   |some q=>cases numOf p<;>rfl
def Row (w:World) (b off:Nat) (s:ByteArray):Prop:=∀i,i<s.size->w.cell? ⟨b,off+i,none⟩=some (.int .u8 (nth s i))
end Go.Proofs.YtclpnafiiobfhaaGreatDoor
namespace Go.Proofs
open Go.Shelf
def Tryz.lays145_ren:Go.Shelf.Ren:=⟨fun|145=>212|220=>220|219=>162|217=>184|225=>185|224=>186|267=>187|266=>209|314=>210|n=>n,fun|9=>9|4=>4|59=>351|3=>3|5=>5|46=>171|146=>345|51=>35|n=>n,fun|1=>1|n=>n⟩
theorem Tryz.lays145:Go.Proofs.Lays.n145 Tryz.prog Tryz.lays145_ren:={
 mixed:=by kernel_rfl
 f145:=Tryz.func212.trans (congrArg some (by kernel_rfl))
 f217:=Tryz.func184.trans (congrArg some (by kernel_rfl))
 f219:=Tryz.func162.trans (congrArg some (by kernel_rfl))
 f220:=Tryz.func220.trans (congrArg some (by kernel_rfl))
 f224:=Tryz.func186.trans (congrArg some (by kernel_rfl))
 f225:=Tryz.func185.trans (congrArg some (by kernel_rfl))
 f266:=Tryz.func209.trans (congrArg some (by kernel_rfl))
 f267:=Tryz.func187.trans (congrArg some (by kernel_rfl))
 f314:=Tryz.func210.trans (congrArg some (by kernel_rfl))
 t3:=Tryz.underlying3
 a3:=Tryz.isAgg3
 z3:=Tryz.sizeOf3
 v3:=Tryz.zeroValue3
 t4:=Tryz.underlying4
 a4:=Tryz.isAgg4
 z4:=Tryz.sizeOf4
 v4:=Tryz.zeroValue4
 t5:=Tryz.underlying5
 a5:=Tryz.isAgg5
 z5:=Tryz.sizeOf5
 v5:=Tryz.zeroValue5
 t9:=Tryz.underlying9
 a9:=Tryz.isAgg9
 z9:=Tryz.sizeOf9
 v9:=Tryz.zeroValue9
 t46:=Tryz.underlying171
 a46:=Tryz.isAgg171
 z46:=Tryz.sizeOf171
 v46:=Tryz.zeroValue171
 t51:=Tryz.underlying35
 a51:=Tryz.isAgg35
 z51:=Tryz.sizeOf35
 v51:=Tryz.zeroValue35
 t59:=Tryz.underlying351
 a59:=Tryz.isAgg351
 z59:=Tryz.sizeOf351
 v59:=Tryz.zeroValue351
 t146:=Tryz.underlying345
 a146:=Tryz.isAgg345
 z146:=Tryz.sizeOf345
 v146:=Tryz.zeroValue345
 g1:=by kernel_rfl}
open Go.RowKit Go.Lib in
theorem Tryz.strings_Cut (s sep:ByteArray) (m:Int) (w:World) (hs:s.size<4294967281) (hm:w.cell? ⟨1,0,none⟩=some (.int .i64 m)):
 Calls Tryz.prog 212 #[.string s,.string sep] w fun e w'=>e= .returned (.tuple #[.string ⟨(Lib.cut s.data.toList sep.data.toList).1.toArray⟩,.string ⟨(Lib.cut s.data.toList sep.data.toList).2.1.toArray⟩,.bool (Lib.cut s.data.toList sep.data.toList).2.2])/\∃n,w'=w.drewN n:=Any.strings_Cut Tryz.lays145 s sep m w hs hm
def Tryz.lays146_ren:Go.Shelf.Ren:=⟨fun|146=>92|221=>118|268=>135|138=>136|143=>137|195=>159|197=>160|218=>161|219=>162|260=>183|217=>184|225=>185|224=>186|267=>187|266=>209|314=>210|n=>n,fun|9=>9|31=>57|3=>3|4=>4|0=>0|105=>285|21=>21|5=>5|46=>171|119=>341|139=>344|138=>343|146=>345|51=>35|n=>n,fun|1=>1|3=>2|4=>3|n=>n⟩
theorem Tryz.lays146:Go.Proofs.Lays.n146 Tryz.prog Tryz.lays146_ren:={
 mixed:=by kernel_rfl
 f138:=Tryz.func136.trans (congrArg some (by kernel_rfl))
 f143:=Tryz.func137.trans (congrArg some (by kernel_rfl))
 f146:=Tryz.func92.trans (congrArg some (by kernel_rfl))
 f195:=Tryz.func159.trans (congrArg some (by kernel_rfl))
 f197:=Tryz.func160.trans (congrArg some (by kernel_rfl))
 f217:=Tryz.func184.trans (congrArg some (by kernel_rfl))
 f218:=Tryz.func161.trans (congrArg some (by kernel_rfl))
 f219:=Tryz.func162.trans (congrArg some (by kernel_rfl))
 f221:=Tryz.func118.trans (congrArg some (by kernel_rfl))
 f224:=Tryz.func186.trans (congrArg some (by kernel_rfl))
 f225:=Tryz.func185.trans (congrArg some (by kernel_rfl))
 f260:=Tryz.func183.trans (congrArg some (by kernel_rfl))
 f266:=Tryz.func209.trans (congrArg some (by kernel_rfl))
 f267:=Tryz.func187.trans (congrArg some (by kernel_rfl))
 f268:=Tryz.func135.trans (congrArg some (by kernel_rfl))
 f314:=Tryz.func210.trans (congrArg some (by kernel_rfl))
 t0:=Tryz.underlying0
 a0:=Tryz.isAgg0
 z0:=Tryz.sizeOf0
 v0:=Tryz.zeroValue0
 t3:=Tryz.underlying3
 a3:=Tryz.isAgg3
 z3:=Tryz.sizeOf3
 v3:=Tryz.zeroValue3
 t4:=Tryz.underlying4
 a4:=Tryz.isAgg4
 z4:=Tryz.sizeOf4
 v4:=Tryz.zeroValue4
 t5:=Tryz.underlying5
 a5:=Tryz.isAgg5
 z5:=Tryz.sizeOf5
 v5:=Tryz.zeroValue5
 t9:=Tryz.underlying9
 a9:=Tryz.isAgg9
 z9:=Tryz.sizeOf9
 v9:=Tryz.zeroValue9
 t21:=Tryz.underlying21
 a21:=Tryz.isAgg21
 z21:=Tryz.sizeOf21
 v21:=Tryz.zeroValue21
 t31:=Tryz.underlying57
 a31:=Tryz.isAgg57
 z31:=Tryz.sizeOf57
 v31:=Tryz.zeroValue57
 t46:=Tryz.underlying171
 a46:=Tryz.isAgg171
 z46:=Tryz.sizeOf171
 v46:=Tryz.zeroValue171
 t51:=Tryz.underlying35
 a51:=Tryz.isAgg35
 z51:=Tryz.sizeOf35
 v51:=Tryz.zeroValue35
 t105:=Tryz.underlying285
 a105:=Tryz.isAgg285
 z105:=Tryz.sizeOf285
 v105:=Tryz.zeroValue285
 t119:=Tryz.underlying341
 a119:=Tryz.isAgg341
 z119:=Tryz.sizeOf341
 t138:=Tryz.underlying343
 a138:=Tryz.isAgg343
 z138:=Tryz.sizeOf343
 v138:=Tryz.zeroValue343
 t139:=Tryz.underlying344
 a139:=Tryz.isAgg344
 z139:=Tryz.sizeOf344
 v139:=Tryz.zeroValue344
 t146:=Tryz.underlying345
 a146:=Tryz.isAgg345
 z146:=Tryz.sizeOf345
 v146:=Tryz.zeroValue345
 g1:=by kernel_rfl
 g3:=by kernel_rfl
 g4:=by kernel_rfl}
open Go.RowKit Go.Lib in
theorem Tryz.strings_Split (s sep:ByteArray) (m:Int) (w:World) (hs:s.size<4294967281) (hm:w.cell? ⟨1,0,none⟩=some (.int .i64 m)) (h1:1<=sep.size):
 Calls Tryz.prog 92 #[.string s,.string sep] w fun e w'=>
  e= .returned (.slice (some ⟨w.heap.size,0,none⟩) (Lib.countB s sep+1) (Lib.countB s sep+1))/\w'=w.alloc (.cells ((Lib.splitB sep 0 (Lib.countB s sep) s).map Value.string).toArray 9):=Any.strings_Split Tryz.lays146 (by kernel_rfl) s sep m w hs hm h1
end Go.Proofs
namespace Go.Proofs.YtclpnafiiobfhaaGreatDoor
open Go.RowKit
theorem toL_empty (s:ByteArray) (h:s.size=0):s.toList.isEmpty=true:=by
 rw[ByteArray.toList_eq,List.isEmpty_iff,<-List.length_eq_zero_iff]
 simpa using h
theorem toL_full (s:ByteArray) (h:s.size≠0):s.toList.isEmpty=false:=by
 rw[ByteArray.toList_eq,List.isEmpty_eq_false_iff,Ne,<-List.length_eq_zero_iff]
 simpa using h
def capTo (s:ByteArray) (i:Nat):Nat:=min (valTo s i) 65536
theorem capTo_succ (s:ByteArray) (i:Nat) (h:i<s.size) (h0:48<=nth s i) (h1:nth s i<=57):((capTo s (i+1):Nat):Int)=min (10*(capTo s i:Int)+(nth s i-48)) 65536:=by
 have:=valTo_succ s i h
 unfold capTo
 omega
theorem capTo_le (s:ByteArray) (i:Nat):(capTo s i:Int)<=65536:=by unfold capTo;omega
theorem readNumber_fine (s:ByteArray) (w:World) (hs:s.size<=2000) (h0:s.size≠0) (hd:Digs s s.size):
 Calls Tryz.prog 211 #[.string s] w fun e w'=>e= .returned (.tuple #[.int .u32 ((capTo s s.size:Nat):Int),.nilIface])/\w'=w:=by
 have he:=toL_full s h0
 go_enter Tryz.func211,Tryz.ntmps211
 go_wp2
 go_loop [4,12] (fun v i=>∃j:Nat,j<=s.size/\i= .int .i64 j/\v= .int .u32 ((capTo s j:Nat):Int)) (fun _ i=>s.size-(intOf i).toNat)
 case atStart=>exact⟨0,Nat.zero_le _,rfl,rfl⟩
 case round=>
  obtain⟨j,hj,rfl,rfl⟩:=hrel
  by_cases hlt:j<s.size
  ·have hx:=nth_at s j hlt
   have hb:=hd j hlt
   have h48:48<=nth s j:=hb.1
   have h57:nth s j<=57:=hb.2
   have hc:=capTo_le s j
   have hn:=capTo_succ s j hlt h48 h57
   have HN:Hid (((capTo s (j+1):Nat):Int)=min (10*(capTo s j:Int)+(nth s j-48)) 65536):=hn
   clear hn
   go_wp2
   go_round
   case rel=>exact⟨j+1,by omega,by go_num,by rw[HN.out]<;>congr 1<;>omega⟩
   case measure=>simp[intOf];omega
  ·have e:j=s.size:=by omega
   subst e
   go_wp2
   go_ret2
   exact⟨rfl,rfl⟩
theorem readNumber_bad (s:ByteArray) (i:Nat) (w:World) (hs:s.size<=2000) (hi:i<s.size) (hd:Digs s i) (hn:¬(48<=nth s i/\nth s i<=57)):
 Calls Tryz.prog 211 #[.string s] w fun e w'=>e= .returned (.tuple #[.int .u32 0,.iface 22 (.int .i64 3)])/\w'=w:=by
 have he:=toL_full s (by omega)
 have HN:Hid (¬(48<=nth s i/\nth s i<=57)):=hn
 clear hn
 go_enter Tryz.func211,Tryz.ntmps211
 go_wp2
 go_loop [4,12] (fun v k=>∃j:Nat,j<=i/\k= .int .i64 j/\v= .int .u32 ((capTo s j:Nat):Int)) (fun _ k=>s.size-(intOf k).toNat)
 case atStart=>exact⟨0,Nat.zero_le _,rfl,rfl⟩
 case round=>
  obtain⟨j,hj,rfl,rfl⟩:=hrel
  have hlt':j<s.size:=by omega
  have hx:=nth_at s j hlt'
  have hb8:=nth_bd s j
  by_cases hlt:j<i
  ·have hb:=hd j hlt
   have h48:48<=nth s j:=hb.1
   have h57:nth s j<=57:=hb.2
   have hc:=capTo_le s j
   have hn:=capTo_succ s j hlt' h48 h57
   have HN:Hid (((capTo s (j+1):Nat):Int)=min (10*(capTo s j:Int)+(nth s j-48)) 65536):=hn
   clear hn
   go_wp2
   go_round
   case rel=>exact⟨j+1,by omega,by go_num,by rw[HN.out]<;>congr 1<;>omega⟩
   case measure=>simp[intOf];omega
  ·have e:j=i:=by omega
   subst e
   by_cases h48:nth s j<48
   ·go_wp2
    go_ret2
    exact⟨rfl,rfl⟩
   ·have h57:57<nth s j:=by have:=HN.out;omega
    have h48':48<=nth s j:=by omega
    clear h48
    go_wp2
    go_ret2
    exact⟨rfl,rfl⟩
theorem readNumber_empty (s:ByteArray) (w:World) (hs:s.size=0):
 Calls Tryz.prog 211 #[.string s] w fun e w'=>e= .returned (.tuple #[.int .u32 0,.iface 22 (.int .i64 3)])/\w'=w:=by
 have he:=toL_empty s hs
 go_enter Tryz.func211,Tryz.ntmps211
 go_wp2
 go_ret2
 exact⟨rfl,rfl⟩
theorem readNumber_some (s:ByteArray) (v:Nat) (w:World) (hs:s.size<=2000) (h:numOf s=some v):
 Calls Tryz.prog 211 #[.string s] w fun e w'=>e= .returned (.tuple #[.int .u32 ((min v 65536:Nat):Int),.nilIface])/\w'=w:=by
 rcases numOf_cases s with⟨h0,hd,hv⟩|⟨hv,_⟩
 ·rw[hv] at h
  injection h with h
  subst h
  exact readNumber_fine s w hs h0 hd
 ·rw[hv] at h;cases h
theorem readNumber_none (s:ByteArray) (w:World) (hs:s.size<=2000) (h:numOf s=none):
 Calls Tryz.prog 211 #[.string s] w fun e w'=>e= .returned (.tuple #[.int .u32 0,.iface 22 (.int .i64 3)])/\w'=w:=by
 rcases numOf_cases s with⟨h0,hd,hv⟩|⟨_,h0|⟨i,h1,h2,h3⟩⟩
 ·rw[hv] at h;cases h
 ·exact readNumber_empty s w h0
 ·exact readNumber_bad s i w hs h1 h2 h3
def MaxL (w:World):Prop:=∃m,w.cell? ⟨1,0,none⟩=some (.int .i64 m)
theorem MaxL.pos {w:World} (h:MaxL w):1<w.heap.size:=by
 obtain⟨m,h⟩:=h
 exact World.block_lt_of_cell? _ _ h
theorem MaxL.below {w w':World} (h:MaxL w) (hw:Below w.heap.size w w'):MaxL w':=by
 have hp:=h.pos
 obtain⟨m,h⟩:=h
 exact⟨m,by rw[hw.cell (p:=⟨1,0,none⟩) hp];exact h⟩
theorem MaxL.alloc {w:World} (h:MaxL w) (o:Obj):MaxL (w.alloc o):=h.below ((Below.refl _ _).alloc (Nat.le_refl _) _)
def Strs (w:World) (b off:Nat) (ps:List ByteArray):Prop:=∀j,j<ps.length->w.cell? ⟨b,off+j,none⟩=some (.string (ps.getD j ByteArray.empty))
theorem Strs.below {w w':World} {b off B:Nat} {ps:List ByteArray} (h:Strs w b off ps) (hw:Below B w w') (hb:b<B):Strs w' b off ps:=fun j hj=>by
 rw[hw.cell (p:=⟨b,off+j,none⟩) hb];exact h j hj
theorem Strs.drop {w:World} {b off:Nat} {ps:List ByteArray} (h:Strs w b off ps) (k:Nat):Strs w b (off+k) (ps.drop k):=fun j hj=>by
 rw[List.length_drop] at hj
 rw[Nat.add_assoc,h (k+j) (by omega)]
 simp[List.getD_eq_getElem?_getD]
theorem Strs.made (w:World) (ps:List ByteArray) (t:TypeId):Strs (w.alloc (.cells (ps.map Value.string).toArray t)) w.heap.size 0 ps:=fun j hj=>by
 rw[World.cell?_alloc_at _ _ _ _ rfl,Nat.zero_add]
 simp[List.getD_eq_getElem?_getD,List.getElem?_eq_getElem hj]
theorem index_any (ws:List ByteArray) (b off cap:Nat) (x:ByteArray) (w:World) (hn:ws.length<=100) (hc:Strs w b off ws):
 Calls Tryz.prog 163 #[.slice (some ⟨b,off,none⟩) ws.length cap,.string x] w fun e w'=>e= .returned (.int .i64 (plc ws x))/\w'=w:=by
 go_enter Tryz.func163,Tryz.ntmps163
 go_wp2
 go_loop [8] (fun i=>∃k:Nat,k<=ws.length/\i= .int .i64 k/\∀j,j<k->ws.getD j ByteArray.empty≠x) (fun i=>ws.length-(intOf i).toNat)
 case atStart=>exact⟨0,Nat.zero_le _,rfl,fun j hj=>absurd hj (Nat.not_lt_zero _)⟩
 case round=>
  obtain⟨k,hk,rfl,hp⟩:=hrel
  by_cases hlt:k<ws.length
  ·have c:=hc k hlt
   obtain⟨y,hy⟩:∃y,ws.getD k ByteArray.empty=y:=⟨_,rfl⟩
   rw[hy] at c
   have HY:Hid (ws.getD k ByteArray.empty=y):=hy
   by_cases e:ws.getD k ByteArray.empty=x
   ·have e':(x.toList == y.toList)=true:=by rw[Lib.bytes_beq_iff,<-hy,e]
    have HI:Hid (plc ws x=(k:Int)):=by
     show Lib.idxFromS ws x 0=_
     rw[Lib.idxFromS_hit x ws k 0 hlt e hp,Nat.zero_add]
    clear hp e hy
    go_wp2
    go_ret
    rw[HI.out]
    exact⟨rfl,rfl⟩
   ·have e':(x.toList == y.toList)=false:=by rw[Lib.bytes_beq_false_iff,<-hy];exact fun q=>e q.symm
    have HP:Hid (∀j,j<k->ws.getD j ByteArray.empty≠x):=hp
    have HE:Hid (¬ws.getD k ByteArray.empty=x):=e
    clear hp e hy
    go_wp2
    go_round
    case rel=>
     refine⟨k+1,by omega,by go_num,fun j hj=> ?_⟩
     by_cases q:j=k
     ·subst q;exact HE.out
     ·exact HP.out j (by omega)
    case measure=>simp[intOf];omega
  ·have e:k=ws.length:=by omega
   subst e
   have HI:Hid (plc ws x= -1):=Lib.idxFromS_miss x ws 0 hp
   clear hp
   go_wp2
   go_ret
   rw[HI.out]
   exact⟨rfl,rfl⟩
theorem split_any (s:ByteArray) (c:UInt8) (w:World) (hs:s.size<=2000) (hm:MaxL w):
 Calls Tryz.prog 92 #[.string s,.string ⟨#[c]⟩] w fun e w'=>e= .returned (.slice (some ⟨w.heap.size,0,none⟩) (cutB c s).length (cutB c s).length)/\w'=w.alloc (.cells ((cutB c s).map Value.string).toArray 9):=by
 obtain⟨m,hm⟩:=hm
 refine(Tryz.strings_Split s ⟨#[c]⟩ m w (by omega) hm (by show 1<=(1:Nat);omega)).mono ?_
 rintro e w' ⟨rfl,rfl⟩
 have h1:Lib.countB s ⟨#[c]⟩+1=(cutB c s).length:=by
  unfold cutB
  rw[List.length_map]
  exact countB_parts c s
 have h2:Lib.splitB ⟨#[c]⟩ 0 (Lib.countB s ⟨#[c]⟩) s=cutB c s:=splitB_parts c s
 rw[h1,h2]
 exact⟨rfl,rfl⟩
theorem info_parts' {P:Program} {e:TypeId} {z:Value} {s b:Nat} (h:(P.info? e).map (fun i=>(i.zero,i.size,i.bytes))=some (some z,s,b)):∃i,P.info? e=some i/\i.zero=some z/\i.size=s/\i.bytes=b:=by
 obtain⟨i,hi,hz⟩:=Option.map_eq_some_iff.1 h
 simp only[Prod.mk.injEq] at hz
 exact⟨i,hi,hz.1,hz.2.1,hz.2.2⟩
theorem Tryz.infoU32:(Tryz.prog.info? 35).map (fun i=>(i.zero,i.size,i.bytes))=some (some (.int .u32 0),1,4):=by kernel_rfl
theorem Tryz.infoStr:(Tryz.prog.info? 9).map (fun i=>(i.zero,i.size,i.bytes))=some (some (.string ByteArray.empty),1,16):=by kernel_rfl
def capV (v:Nat):Value:= .int .u32 ((min v 65536:Nat):Int)
theorem one_block (w:World) (v:Value) (t:TypeId):∀(j:Nat) (u:Value),[v][j]? =some u->(w.alloc (.cells #[v] t)).cell? ((⟨w.heap.size,0,none⟩:Addr).add j)=some u:=
 World.news_of_block (cs:= #[v]) (t:=t) (fr:=(0,0)) (heap_alloc_new w _)
theorem own_block {w:World} {B:Nat} {e:TypeId} {sz:Nat} {v:Value} {n:Nat} {xs:List Value} (h:w.ownsRow B e sz v n xs):∀k,v.ownBlock=some k->B<=k:=fun k hk=>by
 rcases h.2 with⟨e,_⟩|⟨g,cap,cur,e,hg,_⟩
 ·subst e;cases hk
 ·subst e;cases hk;exact hg
theorem nums_go {ps l r:List ByteArray} {q:List Nat} {p:ByteArray} {v:Nat} (h:nums ps=(nums l).map (fun x=>q++x)) (e:l=p::r) (hv:numOf p=some v):nums ps=(nums r).map (fun x=>(q++[v])++x):=by
 rw[h,e,nums_fine _ hv,Option.map_map]
 congr 1
 funext x
 show q++v::x=(q++[v])++x
 rw[List.append_assoc];rfl
theorem readNumbers_any (ps:List ByteArray) (b off cap:Nat) (w:World) (hl:ps.length<=3000) (hp:∀p ∈ ps,p.size<=2000) (hb:b<w.heap.size) (hS:Strs w b off ps):
 Calls Tryz.prog 213 #[.slice (some ⟨b,off,none⟩) ps.length cap] w fun e w'=>
  (∀q,nums ps=some q->∃v,e= .returned (.tuple #[v,.nilIface])/\w'.ownsRow w.heap.size 35 1 v ps.length (q.map capV))/\(nums ps=none->e= .returned (.tuple #[.slice none 0 0,.iface 22 (.int .i64 3)]))/\Below w.heap.size w w':=by
 obtain⟨i0,hi0,hz0,hz1,hz2⟩:=info_parts' Tryz.infoU32
 have HS:Hid (Strs w b off ps):=hS
 have HP:Hid (∀p ∈ ps,p.size<=2000):=hp
 clear hS hp
 go_enter Tryz.func213,Tryz.ntmps213
 go_wp2
 go_loopw [4,11] (fun v i wr=>∃(j:Nat) (q:List Nat),j<=ps.length/\i= .int .i64 j/\nums ps=(nums (ps.drop j)).map (fun r=>q++r)/\wr.ownsRow w.heap.size 35 1 v j (q.map capV)/\Below w.heap.size w wr) (fun _ i _=>ps.length-(intOf i).toNat)
 case atStart=>exact⟨0,[],Nat.zero_le _,rfl,by simp,World.ownsRow_nil _ _ _ _,Below.refl _ _⟩
 case round=>
  obtain⟨j,q,hj,rfl,hq,hO,hB⟩:=hrel
  have HQ:Hid (nums ps=(nums (ps.drop j)).map (fun r=>q++r)):=hq
  have HO:Hid (wr.ownsRow w.heap.size 35 1 u4 j (q.map capV)):=hO
  have HB:Hid (Below w.heap.size w wr):=hB
  clear hq hO hB
  by_cases hlt:j<ps.length
  ·have c:=HS.out j hlt
   rw[<-HB.out.cell (p:=⟨b,off+j,none⟩) hb] at c
   obtain⟨p,hp⟩:∃p,ps.getD j ByteArray.empty=p:=⟨_,rfl⟩
   rw[hp] at c
   have hd:ps.drop j=p::ps.drop (j+1):=by
    rw[List.drop_eq_getElem_cons hlt,<-hp,List.getD_eq_getElem?_getD,List.getElem?_eq_getElem hlt];rfl
   have hm:p ∈ ps:=by
    rw[<-hp,List.getD_eq_getElem?_getD,List.getElem?_eq_getElem hlt]
    exact List.getElem_mem hlt
   have hps:=HP.out p hm
   have HD:Hid (ps.drop j=p::ps.drop (j+1)):=hd
   clear hp hd hm
   cases hn:numOf p with
   |none=>
    have HN:Hid (numOf p=none):=hn
    have HC:Hid (Calls _ _ _ wr _):=readNumber_none p wr hps hn
    clear hn
    go_wp2_with (go_at_call 211;refine HC.out.mono ?_;rintro e w' ⟨rfl,hw'⟩;obtain rfl:wr=w':=hw'.symm)
    go_ret2
    have hz:nums ps=none:=by rw[HQ.out,HD.out,nums_bad _ HN.out];rfl
    exact⟨fun q' h'=>(by rw[hz] at h';cases h'),fun _=>rfl,HB.out⟩
   |some v=>
    have HN:Hid (numOf p=some v):=hn
    have HC:Hid (Calls _ _ _ wr _):=readNumber_some p v wr hps hn
    clear hn
    go_upto_region 8 with(go_at_call 211;refine HC.out.mono ?_;rintro e w' ⟨rfl,hw'⟩;obtain rfl:wr=w':=hw'.symm)
    go_wp2_with (at_builtin;refine wpList_append_lies _ rfl _ _ 353 rfl w.heap.size 35 i0 _ 1 4 Tryz.underlying353 hi0 hz0 hz1 hz2 rfl (by decide) u4 j (q.map capV) rfl (HO.out.alloc _) ⟨wr.heap.size,0,none⟩ 1 1 [capV v] rfl rfl (one_block wr _ _) (by simp[Value.oneCell',capV]) (by decide) (by unfold maxLen;omega) (by omega) (by have:=HB.out.size;simp;omega) (wr.heap.size+1) (by simp) ?_;intro gg cap' w1 hown1 hgrow hat hlt1)
    have HO1:Hid (w1.ownsRow w.heap.size 35 1 (.slice (some ⟨gg,0,none⟩) (j+1) cap') (j+1) ((q++[v]).map capV)):=by
     rw[List.map_append];exact hown1
    have HB1:Hid (Below w.heap.size w w1):=Below.grown (w:=wr.alloc (.cells #[capV v] 35)) (HB.out.alloc HB.out.size _) hgrow (by have:=HB.out.size;simp;omega) (own_block HO.out)
    clear hown1 hgrow hat hlt1
    go_wp2_with fail
    go_roundw
    case rel=>exact⟨j+1,q++[v],by omega,by go_num,nums_go HQ.out HD.out HN.out,HO1.out,HB1.out⟩
    case measure=>simp[intOf];omega
  ·have e:j=ps.length:=by omega
   subst e
   go_wp2_with fail
   go_ret2
   have hz:nums ps=some q:=by rw[HQ.out,List.drop_length];simp[nums]
   refine⟨fun q' h'=>⟨_,rfl,?_⟩,fun h'=>(by rw[hz] at h';cases h'),HB.out⟩
   rw[hz] at h'
   injection h' with h'
   rw[<-h'];exact HO.out
def Gives (r:Nat×List Nat) (f:List Nat->Value) (e:Ending):Prop:=
 (r.1=0->e= .returned (.tuple #[f r.2,.nilIface]))/\(r.1≠0->∃v,e= .returned (.tuple #[v,.iface 22 (.int .i64 (r.1:Int))]))
theorem Gives.fine {r:Nat×List Nat} {f:List Nat->Value} {v:List Nat} {e:Ending} (hr:r=(0,v)) (he:e= .returned (.tuple #[f v,.nilIface])):Gives r f e:=by
 subst hr
 exact⟨fun _=>he,fun h=>absurd rfl h⟩
theorem Gives.bad {r:Nat×List Nat} {f:List Nat->Value} {k:Nat} {v:Value} {e:Ending} (hr:r=(k,[])) (hk:k≠0) (he:e= .returned (.tuple #[v,.iface 22 (.int .i64 (k:Int))])):Gives r f e:=by
 subst hr
 exact⟨fun h=>absurd h hk,fun _=>⟨v,he⟩⟩
def GivesS (r:Nat×List Nat) (f:List Nat->Value) (e:Ending):Prop:=
 (r.1=0->e= .returned (.tuple #[f r.2,.nilIface]))/\(r.1≠0->e= .returned (.tuple #[f [],.iface 22 (.int .i64 (r.1:Int))]))
theorem GivesS.fine {r:Nat×List Nat} {f:List Nat->Value} {v:List Nat} {e:Ending} (hr:r=(0,v)) (he:e= .returned (.tuple #[f v,.nilIface])):GivesS r f e:=by
 subst hr
 exact⟨fun _=>he,fun h=>absurd rfl h⟩
theorem GivesS.bad {r:Nat×List Nat} {f:List Nat->Value} {k:Nat} {e:Ending} (hr:r=(k,[])) (hk:k≠0) (he:e= .returned (.tuple #[f [],.iface 22 (.int .i64 (k:Int))])):GivesS r f e:=by
 subst hr
 exact⟨fun h=>absurd h hk,fun _=>he⟩
def n0 (v:List Nat) (i:Nat):Int:=((v.getD i 0:Nat):Int)
def ifaceV (v:List Nat):Value:= .iface 350 (.agg #[.int .u8 (n0 v 0)])
def netV (v:List Nat):Value:= .agg #[.int .u32 (n0 v 0),.int .u32 (n0 v 1)]
def wordOf (p:Nat):ByteArray:=if p=6 then⟨#[116,99,112]⟩ else if p=17 then⟨#[117,100,112]⟩ else⟨#[105,99,109,112]⟩
def protoV (v:List Nat):Value:= .iface 329 (.agg #[.string (wordOf (v.getD 0 0)),.int .u8 (n0 v 0)])
def portsV (v:List Nat):Value:= .agg #[.int .u16 (n0 v 0),.int .u16 (n0 v 1)]
def flagsV (v:List Nat):Value:= .iface 298 (.agg #[.int .u8 (n0 v 0),.int .u8 (n0 v 1)])
def stateV (v:List Nat):Value:= .iface 358 (.agg #[.bool (v.getD 0 0 == 1),.bool (v.getD 1 0 == 1),.bool (v.getD 2 0 == 1)])
theorem readIface_any (s:ByteArray) (w:World) (hs:s.size<=2000):
 Calls Tryz.prog 188 #[.string s] w fun e w'=>Gives (inVal s) ifaceV e/\w'=w:=by
 cases hn:numOf s with
 |none=>
  have HC:Hid (Calls _ _ _ w _):=readNumber_none s w hs hn
  have HV:Hid (inVal s=(3,[])):=show inVal s=(3,[]) by unfold inVal;rw[hn]
  clear hn
  go_enter Tryz.func188,Tryz.ntmps188
  go_wp2_with (go_at_call 211;refine HC.out.mono ?_;rintro e w' ⟨rfl,hw'⟩;obtain rfl:w=w':=hw'.symm)
  go_ret2
  exact⟨Gives.bad HV.out (by decide) rfl,rfl⟩
 |some n=>
  have HC:Hid (Calls _ _ _ w _):=readNumber_some s n w hs hn
  by_cases hle:n<=255
  ·have HV:Hid (inVal s=(0,[n])):=show inVal s=(0,[n]) by unfold inVal;rw[hn];simp only;rw[if_pos hle]
   have e1:((min n 65536:Nat):Int)=(n:Int):=by omega
   rw[e1] at HC
   have hle':(n:Int)<=255:=by omega
   clear hn e1 hle
   go_enter Tryz.func188,Tryz.ntmps188
   go_wp2_with (go_at_call 211;refine HC.out.mono ?_;rintro e w' ⟨rfl,hw'⟩;obtain rfl:w=w':=hw'.symm)
   go_ret2
   exact⟨Gives.fine HV.out rfl,rfl⟩
  ·have HV:Hid (inVal s=(5,[])):=show inVal s=(5,[]) by unfold inVal;rw[hn];simp only;rw[if_neg hle]
   obtain⟨m,hm⟩:∃m:Nat,min n 65536=m:=⟨_,rfl⟩
   rw[hm] at HC
   have hle':255<(m:Int):=by omega
   clear hn hle hm
   go_enter Tryz.func188,Tryz.ntmps188
   go_wp2_with (go_at_call 211;refine HC.out.mono ?_;rintro e w' ⟨rfl,hw'⟩;obtain rfl:w=w':=hw'.symm)
   go_ret2
   exact⟨Gives.bad HV.out (by decide) rfl,rfl⟩
theorem bne_l {x:ByteArray} {l:List UInt8} (h:x≠⟨l.toArray⟩):(x.toList == l)=false:=by
 have e:l=(⟨l.toArray⟩:ByteArray).toList:=by rw[ByteArray.toList_eq]
 rw[e,Lib.bytes_beq_false_iff];exact h
theorem plc_no (ws:List ByteArray) (s:ByteArray) (h:∀j,j<ws.length->ws.getD j ByteArray.empty≠s):plc ws s= -1:=Lib.idxFromS_miss s ws 0 h
theorem readProto_any (s:ByteArray) (w:World):
 Calls Tryz.prog 190 #[.string s] w fun e w'=>Gives (protoVal s) protoV e/\w'=w:=by
 by_cases h1:s=⟨#[116,99,112]⟩
 ·subst h1
  have HV:Hid (protoVal ⟨#[116,99,112]⟩=(0,[6])):=show protoVal ⟨#[116,99,112]⟩=(0,[6]) by kernel_rfl
  go_enter Tryz.func190,Tryz.ntmps190
  go_wp2
  go_ret2
  exact⟨Gives.fine HV.out rfl,rfl⟩
 by_cases h2:s=⟨#[117,100,112]⟩
 ·subst h2
  have HV:Hid (protoVal ⟨#[117,100,112]⟩=(0,[17])):=show protoVal ⟨#[117,100,112]⟩=(0,[17]) by kernel_rfl
  clear h1
  go_enter Tryz.func190,Tryz.ntmps190
  go_wp2
  go_ret2
  exact⟨Gives.fine HV.out rfl,rfl⟩
 by_cases h3:s=⟨#[105,99,109,112]⟩
 ·subst h3
  have HV:Hid (protoVal ⟨#[105,99,109,112]⟩=(0,[1])):=show protoVal ⟨#[105,99,109,112]⟩=(0,[1]) by kernel_rfl
  clear h1 h2
  go_enter Tryz.func190,Tryz.ntmps190
  go_wp2
  go_ret2
  exact⟨Gives.fine HV.out rfl,rfl⟩
 have HV:Hid (protoVal s=(3,[])):=show protoVal s=(3,[]) by
  unfold protoVal
  rw[if_pos]
  rw[plc_no]
  ·decide
  ·intro j hj
   have:pws.length=3:=rfl
   rcases j with _|_|_|j
   ·exact fun q=>h3 q.symm
   ·exact fun q=>h1 q.symm
   ·exact fun q=>h2 q.symm
   ·omega
 have e1:=bne_l (l:=[116,99,112]) h1
 have e2:=bne_l (l:=[117,100,112]) h2
 have e3:=bne_l (l:=[105,99,109,112]) h3
 clear h1 h2 h3
 go_enter Tryz.func190,Tryz.ntmps190
 go_wp2
 go_ret2
 exact⟨Gives.bad HV.out (by decide) rfl,rfl⟩
structure Tch (g:Nat) (w w':World):Prop where
 os:w'.os=w.os
 tape:w'.tape=w.tape
 output:w'.output=w.output
 size:w.heap.size<=w'.heap.size
 block:∀k,k<w.heap.size->k≠g->w'.heap[k]? =w.heap[k]?
theorem Tch.refl (g:Nat) (w:World):Tch g w w:=⟨rfl,rfl,rfl,Nat.le_refl _,fun _ _ _=>rfl⟩
theorem Tch.trans {g:Nat} {a b c:World} (h:Tch g a b) (k:Tch g b c):Tch g a c:=
 ⟨k.os.trans h.os,k.tape.trans h.tape,k.output.trans h.output,Nat.le_trans h.size k.size,fun i hi hn=>(k.block i (Nat.lt_of_lt_of_le hi h.size) hn).trans (h.block i hi hn)⟩
theorem Tch.set {g:Nat} {a w:World} (h:Tch g a w) (i:Nat) (v:Value):Tch g a (w.setCell ⟨g,i,none⟩ v):=
 h.trans ⟨rfl,rfl,rfl,by simp[World.setCell],fun k _ hk=>Below.heap_setCell _ _ _ _ hk⟩
theorem Tch.alloc {g:Nat} {a w:World} (h:Tch g a w) (o:Obj):Tch g a (w.alloc o):=
 h.trans ⟨rfl,rfl,rfl,by simp,fun k hk _=>Below.heap_alloc _ _ _ hk⟩
theorem Tch.below {g:Nat} {w w':World} (h:Tch g w w') {B:Nat} (hB:B<=g) (hw:B<=w.heap.size):Below B w w':=
 ⟨h.os,h.tape,h.output,h.size,fun k hk=>h.block k (by omega) (by omega)⟩
theorem Tch.of {g:Nat} {w w':World} (h:Below w.heap.size w w'):Tch g w w':=⟨h.os,h.tape,h.output,h.size,fun k hk _=>h.block k hk⟩
theorem Tch.cell {g:Nat} {w w':World} (h:Tch g w w') {p:Addr} (hp:p.block<w.heap.size) (hn:p.block≠g):w'.cell? p=w.cell? p:=World.cell?_of_block (w:=w) (h.block p.block hp hn)
theorem Tch.frozen {g:Nat} {w w':World} (h:Tch g w w') {p:Addr} (hp:p.block<w.heap.size) (hn:p.block≠g):w'.frozen? p=w.frozen? p:=World.frozen?_of_block (w:=w) (h.block p.block hp hn)
def Byt (l:List Int):Prop:=∀x ∈ l,0<=x/\x<=255
theorem Byt.append {a b:List Int} (ha:Byt a) (hb:Byt b):Byt (a++b):=fun x hx=>by
 rcases List.mem_append.1 hx with h|h
 ·exact ha x h
 ·exact hb x h
def ofL (l:List Int):ByteArray:=⟨(l.map fun x=>UInt8.ofNat x.toNat).toArray⟩
theorem ofL_size (l:List Int):(ofL l).size=l.length:=by simp[ofL,ByteArray.size]
theorem ofL_nth (l:List Int) (hl:Byt l) (i:Nat):nth (ofL l) i=l.getD i 0:=by
 unfold nth ofL
 by_cases hi:i<l.length
 ·have hb:=hl l[i] (List.getElem_mem hi)
  simp[List.getElem?_eq_getElem hi,List.getD_eq_getElem?_getD]
  omega
 ·simp[List.getD_eq_getElem?_getD,List.getElem?_eq_none (by omega:l.length<=i)]
end Go.Proofs.YtclpnafiiobfhaaGreatDoor

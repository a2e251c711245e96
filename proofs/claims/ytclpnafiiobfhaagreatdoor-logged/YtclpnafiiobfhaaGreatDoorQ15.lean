import Derived.Test.YtclpnafiiobfhaaGreatDoorQ14
set_option linter.unusedVariables false
set_option linter.unusedSimpArgs false
set_option maxHeartbeats 1600000
namespace Go.Proofs.YtclpnafiiobfhaaGreatDoor
open Go.RowKit
structure zB4 (F:Fc) (a:St) (d:ByteArray):Prop where
 come:F.come=true
 set:∀i,F.set.getD i false=true->a.set.getD i false=true
 long:∀i,F.long.getD i false=true->a.reg.getD i 0=d.size
 there:F.there<=d.size
theorem zEt (l m:List Bool) (i:Nat) (h:(List.zipWith (·&&·) l m).getD i false=true):l.getD i false=true/\m.getD i false=true:=by
 simp only[List.getD_eq_getElem?_getD,List.getElem?_zipWith] at h ⊢;cases e1:l[i]? <;>cases e2:m[i]? <;>simp_all
theorem zDH (l:List Bool) (i j:Nat) (v:Bool) (h:(l.set i v).getD j false=true):(i=j/\v=true)\/(i≠j/\l.getD j false=true):=by
 simp only[List.getD_eq_getElem?_getD,List.getElem?_set] at h ⊢
 split at h
 ·split at h
  ·exact .inl ⟨by assumption,by simpa using h⟩
  ·simp at h
 ·exact .inr ⟨by assumption,h⟩
theorem zB4.left {F G:Fc} {a:St} {d:ByteArray} (h:zB4 F a d):zB4 (F.meet G) a d:=by
 unfold Fc.meet;rw[if_pos h.come];have:=h.there;exact⟨rfl,fun i hi=>h.set i (zEt _ _ _ hi).1,fun i hi=>h.long i (zEt _ _ _ hi).1,by dsimp only;split<;>omega⟩
theorem zB4.right {F G:Fc} {a:St} {d:ByteArray} (h:zB4 G a d):zB4 (F.meet G) a d:=by
 unfold Fc.meet;have:=h.there
 split
 ·exact⟨rfl,fun i hi=>h.set i (zEt _ _ _ hi).2,fun i hi=>h.long i (zEt _ _ _ hi).2,by dsimp only;split<;>omega⟩
 ·exact h
theorem zB4.does {F:Fc} {a:St} {d:ByteArray} (h:zB4 F a d) (ha:a.Ok) (m:Int×Int) (x:Ins) (hx:x.fits=true) (hb:x.Bd) (w:Nat) (hw:w=0->x.branch=true->a.goes x=true):
 zB4 (F.behind x w) (a.does d m x) d:=by
 have hc:=h.come;have h1:=h.set;have h2:=h.long;have h3:=h.there;have hr:x.r.toNat<4:=by
  have:=hb.r;unfold Ins.fits at hx;simp only[Bool.and_eq_true,decide_eq_true_eq] at hx;omega
 have l1:=ha.reg;have l2:=ha.set;have put:∀(L:List Bool) (v:Int),(∀i,L.getD i false=true->i≠x.r.toNat->a.reg.getD i 0=d.size)->(L.getD x.r.toNat false=true->v=d.size)->∀i,L.getD i false=true->(a.reg.set x.r.toNat v).getD i 0=d.size:=by
  intro L v g1 g2 i hi
  by_cases e:i=x.r.toNat
  ·subst e
   simp only[List.getD_eq_getElem?_getD,List.getElem?_set,if_true];rw[if_pos (by omega)];exact g2 hi
  ·have:=g1 i hi e
   simp only[List.getD_eq_getElem?_getD,List.getElem?_set] at this ⊢;rw[if_neg (by omega)];exact this
 have puts:∀(L:List Bool),(∀i,L.getD i false=true->i≠x.r.toNat->a.set.getD i false=true)->∀i,L.getD i false=true->(a.set.set x.r.toNat true).getD i false=true:=by
  intro L g1 i hi
  by_cases e:i=x.r.toNat
  ·subst e
   simp only[List.getD_eq_getElem?_getD,List.getElem?_set,if_true];rw[if_pos (by omega)];rfl
  ·have:=g1 i hi e
   simp only[List.getD_eq_getElem?_getD,List.getElem?_set] at this ⊢;rw[if_neg (by omega)];exact this
 have off:∀v:Int,∀i,(F.long.set x.r.toNat false).getD i false=true->(a.reg.set x.r.toNat v).getD i 0=d.size:=fun v=>put _ v
  (fun i hi _=>by rcases zDH _ _ _ _ hi with⟨_,g⟩|⟨_,g⟩;cases g;exact h2 i g)
  (fun hi=>by rcases zDH _ _ _ _ hi with⟨_,g⟩|⟨g,_⟩;cases g;exact absurd rfl g)
 have on:∀i,(F.set.set x.r.toNat true).getD i false=true->(a.set.set x.r.toNat true).getD i false=true:=puts _
  (fun i hi hn=>by rcases zDH _ _ _ _ hi with⟨g,_⟩|⟨_,g⟩;exact absurd g.symm hn;exact h1 i g)
 unfold Fc.behind St.does
 by_cases c1:x.op=1
 ·rw[if_pos (by omega),if_pos c1];exact⟨hc,on,off _,h3⟩
 by_cases c2:x.op=2
 ·rw[if_pos (by omega),if_neg c1,if_pos c2];exact⟨hc,on,off _,h3⟩
 by_cases c3:x.op=3
 ·rw[if_pos (by omega),if_neg c1,if_neg c2,if_pos c3];exact⟨hc,on,off _,h3⟩
 by_cases c4:x.op=4
 ·rw[if_pos (by omega),if_neg c1,if_neg c2,if_neg c3,if_pos c4];exact⟨hc,on,off _,h3⟩
 rw[if_neg (by have:=hb.op;omega:¬(1<=x.op/\x.op<=4)),if_neg c1,if_neg c2,if_neg c3,if_neg c4]
 by_cases c5:x.op=5
 ·rw[if_pos c5,if_pos c5]
  refine⟨hc,on,put _ _ (fun i hi hn=> ?_) (fun _=>rfl),h3⟩;rcases zDH _ _ _ _ hi with⟨g,_⟩|⟨_,g⟩
  ·exact absurd g.symm hn
  ·exact h2 i g
 rw[if_neg c5,if_neg c5]
 by_cases c6:x.op=6
 ·rw[if_pos (.inl c6),if_pos c6];exact⟨hc,h1,off _,h3⟩
 by_cases c7:x.op=7
 ·rw[if_pos (.inr c7),if_neg c6,if_pos c7];exact⟨hc,h1,off _,h3⟩
 rw[if_neg (by omega:¬(x.op=6\/x.op=7)),if_neg c6,if_neg c7]
 by_cases c8:x.op=8\/x.op=9
 ·rw[if_pos c8]
  refine⟨hc,h1,h2,?_⟩;dsimp only
  by_cases g:w=0/\F.is x=true/\F.there<x.k
  ·rw[if_pos g]
   have e:=h2 _ g.2.1;have hg:=hw g.1 (by unfold Ins.branch;rcases c8 with c|c<;>simp[c]);unfold St.goes St.at at hg;rcases c8 with c|c
   ·rw[if_pos c,e] at hg
    have:((d.size:Int))=x.k:=by simpa using hg
    omega
   ·rw[if_neg (by omega),if_pos c,e] at hg
    simpa using hg
  ·rw[if_neg g];exact h3
 ·rw[if_neg c8];exact h
theorem zB4.tell {a':St} {d:ByteArray} {G:Fc} {x:Ins} {i j:Nat} (os:List Int):∀(F:List Fc) (w:Nat),j<F.length->zB4 (F.getD j fc0) a' d->zB4 ((zIn F G x i w os).getD j fc0) a' d:=by
 induction os with
 |nil=>exact fun F w _ h=>h
 |cons o os ih=>
  intro F w hj h;rw[Go.Proofs.YtclpnafiiobfhaaGreatDoor.zIn];refine ih _ _ (by simpa using hj) ?_
  by_cases e:i+1+o.toNat=j
  ·subst e
   simp only[List.getD_eq_getElem?_getD,List.getElem?_set,if_true] at h ⊢;rw[if_pos hj];exact h.left
  ·simp only[List.getD_eq_getElem?_getD,List.getElem?_set] at h ⊢
   rw[if_neg e];exact h
theorem zB4.told {a':St} {d:ByteArray} {G:Fc} {x:Ins} {i:Nat} (os:List Int):∀(F:List Fc) (w v:Nat) (o:Int),os[v]? =some o->i+1+o.toNat<F.length->zB4 (G.behind x (w+v)) a' d->
 zB4 ((Go.Proofs.YtclpnafiiobfhaaGreatDoor.zIn F G x i w os).getD (i+1+o.toNat) fc0) a' d:=by
 induction os with
 |nil=>intro F w v o h;simp at h
 |cons p os ih=>
  intro F w v o h hl hh;rw[Go.Proofs.YtclpnafiiobfhaaGreatDoor.zIn];cases v with
  |zero=>
   simp only[List.getElem?_cons_zero,Option.some.injEq] at h;subst h;refine zB4.tell _ _ _ (by simpa using hl) ?_;simp only[List.getD_eq_getElem?_getD,List.getElem?_set,if_true];rw[if_pos hl];exact zB4.right hh
  |succ v=>
   simp only[List.getElem?_cons_succ] at h;exact ih _ _ v o h (by simpa using hl) (by rw[show w+1+v=w+(v+1) by omega];exact hh)
theorem zOV {s:ByteArray} {n:Nat} {a:St} {d:ByteArray} {i j:Nat} (hj:j<n) (q:Nat):zB4 ((zAL s n i).getD j fc0) a d->zB4 ((zAL s n (i+q)).getD j fc0) a d:=by
 induction q with
 |zero=>exact id
 |succ q ih=>
  intro h;have h:=ih h;rw[<-Nat.add_assoc,zAL]
  split
  ·exact zB4.tell _ _ _ (by rw[zCk];exact hj) h
  ·exact h
theorem zOW (a:St) (x:Ins) (h:x.op≠0):∃v:Nat,x.overs[v]? =some (a.over x)/\(v=0->x.branch=true->a.goes x=true):=by
 unfold Ins.overs St.over;rw[if_neg h]
 by_cases c:x.op=11
 ·rw[if_pos c,if_pos c]
  exact⟨0,rfl,fun _ g=>by unfold Ins.branch at g;rw[c] at g;exact absurd g (by decide)⟩
 rw[if_neg c,if_neg c];cases hb:x.branch with
 |false=>exact⟨0,rfl,fun _ g=>by cases g⟩
 |true=>
  cases hg:a.goes x with
  |true=>exact⟨0,rfl,fun _ _=>rfl⟩
  |false=>exact⟨1,rfl,fun g=>by cases g⟩
theorem zKl {s:ByteArray} {n:Nat} {d:ByteArray} {m:Int×Int} (hs:zR3 s n) (hd:d.size<=4294967295) (h1:0<=m.1/\m.1<=4294967295) (h2:0<=m.2/\m.2<=4294967295) (fl:Nat):
 ∀(i c:Nat) (a:St) (v:Int) (z:Nat) (k:Int),zOG s n d m fl i c a v z k->i<n->c<=i->a.Ok->zB4 (zL2 s n i) a d->k=0/\0<=v/\v<=2/\1<=z/\z<=n:=by
 induction fl with
 |zero=>intro i c a v z k hg g;have:=hg.1;omega
 |succ fl ih=>
  intro i c a v z k hg;rcases hg with⟨h,_,_,_⟩|⟨h,ho,rfl,rfl,rfl⟩|⟨h,ho,ht,rfl,rfl,rfl⟩|⟨h,ho,ht,hgo⟩
  ·intro g;omega
  ·intro g hc ha hh
   have hf:=hs.fits i h;have:=(zDC s i).k;unfold Ins.fits at hf;rw[if_pos ho] at hf;simp only[Bool.and_eq_true,decide_eq_true_eq] at hf;omega
  ·intro g hc ha hh
   exfalso
   have hu:=hs.uses i h;unfold zOF at hu;rw[if_pos hh.come] at hu;unfold Fc.fault at hu
   apply ht
   unfold St.trap;have t1:¬((zAG s i).uses&& !(zL2 s n i).has (zAG s i))=true:=by
    intro e;rw[if_pos e] at hu;omega
   rw[if_neg t1] at hu;have t2:¬(zL2 s n i).there<(zAG s i).wide:=by
    intro e;rw[if_pos e] at hu;omega
   have t3:¬((zAG s i).uses&& !a.set.getD (zAG s i).r.toNat false)=true:=by
    intro e
    apply t1
    simp only[Bool.and_eq_true,Bool.not_eq_true'] at e ⊢;refine⟨e.1,?_⟩;cases g:(zL2 s n i).has (zAG s i) with
    |false=>rfl
    |true=>
     have:=hh.set _ g;rw[e.2] at this;cases this
   rw[if_neg t3,if_neg (by have:=hh.there;omega)]
  ·intro g hc ha hh
   obtain⟨w,hw,hg⟩:=zOW a (zAG s i) ho;have hov:=a.over_bd (zDC s i);have hj:i+1+(a.over (zAG s i)).toNat<n:=by
    have:=hs.fine i h;unfold zOE at this;rw[List.any_eq_false] at this;have:=this _ (List.mem_of_getElem? hw);simp only[decide_eq_true_eq] at this;omega
   refine ih _ _ _ _ _ _ hgo hj (by omega) (ha.does hd h1 h2 _) ?_;have hd':=hh.does ha m (zAG s i) (hs.fits i h) (zDC s i) w hg;unfold zL2;refine zOV (i:=i+1) hj _ ?_;rw[zAL,if_pos (show((zAL s n i).getD i fc0).come=true from hh.come)];refine zB4.told _ _ 0 w _ hw (by rw[zCk];exact hj) ?_;rw[Nat.zero_add];exact hd'
theorem zMg {s:ByteArray} {n:Nat} {d:ByteArray} {m:Int×Int} (hs:zR3 s n) (hd:d.size<=4294967295) (h1:0<=m.1/\m.1<=4294967295) (h2:0<=m.2/\m.2<=4294967295)
 {i c:Nat} {a:St} {v:Int} {z:Nat} {k:Int} (h:zHV s n d m i c a v z k) (hi:i<n) (hc:c<=i) (ha:a.Ok) (hh:zB4 (zL2 s n i) a d):k=0/\0<=v/\v<=2/\1<=z/\z<=n:=by
 obtain⟨q,h⟩:=h;exact zKl hs hd h1 h2 q i c a v z k h hi hc ha hh
theorem zI8 (s:ByteArray) (n:Nat) (hn:1<=n) (d:ByteArray):zB4 (zL2 s n 0) st0 d:=by
 obtain⟨n,rfl⟩:∃m,n=m+1:=⟨n-1,by omega⟩;unfold zL2 zAL;simp only[List.replicate_succ,List.set_cons_zero,List.getD_cons_zero];refine⟨rfl,fun i hi=> ?_,fun i hi=> ?_,by simp⟩
 ·rcases i with _|_|_|_|i<;>simp at hi
 ·rcases i with _|_|_|_|i<;>simp at hi
abbrev Its:=List (Ins×Nat)
def zCb (x:Ins) (k n:Nat):Ins:=if k=1 then x.atF n else if k=2 then x.atT n else x
def zB5:Its->List Ins
 |[]=>[]
 |p::r=>zCb p.1 p.2 r.length::zB5 r
theorem zCF:∀l:Its,(zB5 l).length=l.length
 |[]=>rfl
 |p::r=>by simp[zB5,zCF r]
theorem zJ1:∀(l:Its) (j:Nat),(zB5 l)[j]? =l[j]?.map fun p=>zCb p.1 p.2 (l.length-j-1)
 |[],j=>by simp[zB5]
 |p::r,0=>by simp[zB5]
 |p::r,j+1=>by
  simp only[zB5,List.getElem?_cons_succ,zJ1 r j,List.length_cons]
  congr 2
  funext q
  congr 1
  omega
theorem zJ2:∀(T:List Nat) (L:List Ins) (a:Nat),(zDM L T)[a]? =if a ∈ T then L[a]?.map (fun x=>x.atT (L.length-a-1)) else L[a]?
 |[],L,a=>by simp[zDM]
 |b::r,L,a=>by
  rw[zDM,zJ2 r]
  by_cases e:b=a
  ·subst e
   by_cases hl:b<L.length
   ·by_cases hr:b ∈ r
    ·simp[hr,hl,Ins.atT]
    ·simp[hr,hl,Ins.atT]
   ·simp[hl]
  ·have e':¬a=b:=fun q=>e q.symm
   simp[e,e']
theorem zJ3:∀(T:List Nat) (L:List Ins) (a:Nat),(zDY L T)[a]? =if a ∈ T then L[a]?.map (fun x=>x.atF (L.length-a-1)) else L[a]?
 |[],L,a=>by simp[zDY]
 |b::r,L,a=>by
  rw[zDY,zJ3 r]
  by_cases e:b=a
  ·subst e
   by_cases hl:b<L.length
   ·by_cases hr:b ∈ r
    ·simp[hr,hl,Ins.atF]
    ·simp[hr,hl,Ins.atF]
   ·simp[hl]
  ·have e':¬a=b:=fun q=>e q.symm
   simp[e,e']
structure Rep (c:Cod) (base:List Ins) (its:Its):Prop where
 L:c.L=base++its.map (·.1)
 T:∀a,a ∈ c.T↔∃j x,its[j]? =some (x,2)/\a=base.length+j
 F:∀a,a ∈ c.F↔∃j x,its[j]? =some (x,1)/\a=base.length+j
theorem zBK (its:Its) (x y:Ins) (k q j:Nat):(its++[(x,k)])[j]? =some (y,q)↔its[j]? =some (y,q)\/(j=its.length/\x=y/\k=q):=by
 by_cases h:j<its.length
 ·rw[List.getElem?_append_left h]
  constructor
  ·exact Or.inl
  ·rintro(h1|⟨h1,_⟩)
   ·exact h1
   ·omega
 ·rw[List.getElem?_append_right (by omega)]
  by_cases h2:j=its.length
  ·subst h2
   simp
  ·have e:([(x,k)]:Its)[j-its.length]? =none:=by
    rw[List.getElem?_eq_none];simp;omega
   rw[e]
   constructor
   ·intro g;cases g
   ·rintro(h1|⟨h1,_⟩)
    ·rw[List.getElem?_eq_none (by omega)] at h1;cases h1
    ·omega
theorem Rep.add {c:Cod} {base:List Ins} {its:Its} (h:Rep c base its) (x:Ins):Rep (c.add x) base (its++[(x,0)]) where
 L:=by simp[Cod.add,h.L]
 T a:=by
  show a ∈ c.T↔_
  rw[h.T]
  constructor
  ·rintro⟨j,y,h1,h2⟩;exact⟨j,y,(zBK ..).2 (Or.inl h1),h2⟩
  ·rintro⟨j,y,h1,h2⟩
   rcases(zBK ..).1 h1 with g|⟨_,_,g⟩
   ·exact⟨j,y,g,h2⟩
   ·cases g
 F a:=by
  show a ∈ c.F↔_
  rw[h.F]
  constructor
  ·rintro⟨j,y,h1,h2⟩;exact⟨j,y,(zBK ..).2 (Or.inl h1),h2⟩
  ·rintro⟨j,y,h1,h2⟩
   rcases(zBK ..).1 h1 with g|⟨_,_,g⟩
   ·exact⟨j,y,g,h2⟩
   ·cases g
theorem Rep.ends {c:Cod} {base:List Ins} {its:Its} (h:Rep c base its) (x:Ins):Rep (c.add x) base (its++[(x,3)]) where
 L:=by simp[Cod.add,h.L]
 T a:=by
  show a ∈ c.T↔_
  rw[h.T]
  constructor
  ·rintro⟨j,y,h1,h2⟩;exact⟨j,y,(zBK ..).2 (Or.inl h1),h2⟩
  ·rintro⟨j,y,h1,h2⟩
   rcases(zBK ..).1 h1 with g|⟨_,_,g⟩
   ·exact⟨j,y,g,h2⟩
   ·cases g
 F a:=by
  show a ∈ c.F↔_
  rw[h.F]
  constructor
  ·rintro⟨j,y,h1,h2⟩;exact⟨j,y,(zBK ..).2 (Or.inl h1),h2⟩
  ·rintro⟨j,y,h1,h2⟩
   rcases(zBK ..).1 h1 with g|⟨_,_,g⟩
   ·exact⟨j,y,g,h2⟩
   ·cases g
theorem Rep.leave {c:Cod} {base:List Ins} {its:Its} (h:Rep c base its) (x:Ins):Rep (c.leave x) base (its++[(x,1)]) where
 L:=by simp[Cod.leave,h.L]
 T a:=by
  show a ∈ c.T↔_
  rw[h.T]
  constructor
  ·rintro⟨j,y,h1,h2⟩;exact⟨j,y,(zBK ..).2 (Or.inl h1),h2⟩
  ·rintro⟨j,y,h1,h2⟩
   rcases(zBK ..).1 h1 with g|⟨_,_,g⟩
   ·exact⟨j,y,g,h2⟩
   ·cases g
 F a:=by
  show a ∈ c.F++[c.L.length]↔_
  rw[List.mem_append,h.F,List.mem_singleton];have hl:c.L.length=base.length+its.length:=by simp[h.L]
  constructor
  ·rintro(⟨j,y,h1,h2⟩|h1)
   ·exact⟨j,y,(zBK ..).2 (Or.inl h1),h2⟩
   ·exact⟨its.length,x,(zBK ..).2 (Or.inr ⟨rfl,rfl,rfl⟩),h1.trans hl⟩
  ·rintro⟨j,y,h1,h2⟩
   rcases(zBK ..).1 h1 with g|⟨g,_,_⟩
   ·exact Or.inl ⟨j,y,g,h2⟩
   ·exact Or.inr (by rw[h2,hl,g])
theorem Rep.unless {c:Cod} {base:List Ins} {its:Its} (h:Rep c base its) (x:Ins):Rep (c.unless x) base (its++[(x,2)]) where
 L:=by simp[Cod.unless,h.L]
 F a:=by
  show a ∈ c.F↔_
  rw[h.F]
  constructor
  ·rintro⟨j,y,h1,h2⟩;exact⟨j,y,(zBK ..).2 (Or.inl h1),h2⟩
  ·rintro⟨j,y,h1,h2⟩
   rcases(zBK ..).1 h1 with g|⟨_,_,g⟩
   ·exact⟨j,y,g,h2⟩
   ·cases g
 T a:=by
  show a ∈ c.T++[c.L.length]↔_
  rw[List.mem_append,h.T,List.mem_singleton];have hl:c.L.length=base.length+its.length:=by simp[h.L]
  constructor
  ·rintro(⟨j,y,h1,h2⟩|h1)
   ·exact⟨j,y,(zBK ..).2 (Or.inl h1),h2⟩
   ·exact⟨its.length,x,(zBK ..).2 (Or.inr ⟨rfl,rfl,rfl⟩),h1.trans hl⟩
  ·rintro⟨j,y,h1,h2⟩
   rcases(zBK ..).1 h1 with g|⟨g,_,_⟩
   ·exact Or.inl ⟨j,y,g,h2⟩
   ·exact Or.inr (by rw[h2,hl,g])
theorem Rep.join {c:Cod} {base:List Ins} {its:Its} (h:Rep c base its):(zDZ c).L=base++zB5 its:=by
 show zDY (zDM c.L c.T) c.F=_
 apply List.ext_getElem?
 intro a;rw[zJ3,zJ2,zFC];have hl:c.L.length=base.length+its.length:=by simp[h.L]
 by_cases ha:a<base.length
 ·have nT:a ∉ c.T:=fun q=>by obtain⟨j,x,_,e⟩:=(h.T a).1 q;omega
  have nF:a ∉ c.F:=fun q=>by obtain⟨j,x,_,e⟩:=(h.F a).1 q;omega
  rw[if_neg nF,if_neg nT,h.L,List.getElem?_append_left ha,List.getElem?_append_left ha]
 ·obtain⟨j,rfl⟩:∃j,a=base.length+j:=⟨a-base.length,by omega⟩
  have e1:c.L[base.length+j]? =its[j]?.map (·.1):=by
   rw[h.L,List.getElem?_append_right (by omega),show base.length+j-base.length=j by omega,List.getElem?_map]
  have e2:(base++zB5 its)[base.length+j]? =its[j]?.map fun p=>zCb p.1 p.2 (its.length-j-1):=by
   rw[List.getElem?_append_right (by omega),show base.length+j-base.length=j by omega,zJ1]
  have e3:c.L.length-(base.length+j)-1=its.length-j-1:=by omega
  rw[e1,e2,e3];cases e:its[j]? with
  |none=>simp
  |some p=>
   obtain⟨x,k⟩:=p;have mT:base.length+j ∈ c.T↔k=2:=by
    rw[h.T]
    constructor
    ·rintro⟨i,y,h1,h2⟩
     obtain rfl:i=j:=by omega
     rw[e] at h1
     injection h1 with h1
     exact(Prod.mk.inj h1).2
    ·rintro rfl;exact⟨j,x,e,rfl⟩
   have mF:base.length+j ∈ c.F↔k=1:=by
    rw[h.F]
    constructor
    ·rintro⟨i,y,h1,h2⟩
     obtain rfl:i=j:=by omega
     rw[e] at h1
     injection h1 with h1
     exact(Prod.mk.inj h1).2
    ·rintro rfl;exact⟨j,x,e,rfl⟩
   by_cases k1:k=1
   ·subst k1
    rw[if_pos (mF.2 rfl),if_neg (fun q=>by have:=mT.1 q;omega)];simp[zCb]
   ·rw[if_neg (fun q=>k1 (mF.1 q))]
    by_cases k2:k=2
    ·subst k2
     rw[if_pos (mT.2 rfl)];simp[zCb]
    ·rw[if_neg (fun q=>k2 (mT.1 q))]
     simp[zCb,k1,k2]
def zBy (z e:Nat):Its:=if z<e then[(⟨9,1,0,0,(e:Int)⟩,1)] else[]
def zUp (z e:Nat):Nat:=if z<e then e else z
def stI:List Bool->Nat->Its
 |[],_=>[]
 |b::r,i=>(if b then[] else[(⟨8,0,0,0,(i:Int)⟩,2)])++stI r (i+1)
def zPi (z a:Nat) (v:List Nat):Its:=zBy z (a+4)++[(⟨3,0,0,0,(a:Int)⟩,0),(⟨6,0,0,0,(zAb (v.getD 1 0):Int)⟩,0),(⟨8,0,0,0,n0 v 0⟩,1)]
def zHl (z a:Nat) (v:List Nat):Its:=zBy z (a+2)++[(⟨2,0,0,0,(a:Int)⟩,0),(⟨9,0,0,0,n0 v 0⟩,1),(⟨9,0,0,0,n0 v 1+1⟩,2)]
def zEm (i:Nat) (v:List Nat) (z:Nat):Its:=
 if i=0 then[(⟨4,0,0,0,0⟩,0),(⟨8,0,0,0,n0 v 0⟩,1)]
 else if i=1 then zPi z 26 v
 else if i=2 then zPi z 30 v
 else if i=3 then zBy z 24++[(⟨1,0,0,0,23⟩,0),(⟨8,0,0,0,n0 v 0⟩,1)]
 else if i=4 then zHl z 34 v
 else if i=5 then zHl z 36 v
 else if i=6 then zBy z 48++[(⟨1,0,0,0,47⟩,0),(⟨6,0,0,0,n0 v 0⟩,0),(⟨8,0,0,0,n0 v 1⟩,1)]
 else[(⟨4,0,0,0,1⟩,0),(⟨9,0,0,0,3⟩,2)]++stI [v.getD 0 0 == 1,v.getD 1 0 == 1,v.getD 2 0 == 1] 0
def zHE (i:Nat):Nat:=if i=1 then 30 else if i=2 then 34 else if i=3 then 24 else if i=4 then 36 else if i=5 then 38 else if i=6 then 48 else 0
def zBu (cs:Cs):Nat->Nat->Nat->Its
 |0,_,_=>[]
 |n+1,i,z=>match cs.getD i none with
  |none=>zBu cs n (i+1) z
  |some v=>zEm i v z++zBu cs n (i+1) (zUp z (zHE i))
def zCc (r:Rl):Its:=zBu r.cs 8 0 34++[(⟨0,0,0,0,(r.v:Int)⟩,3)]
theorem Rep.sure {c:Cod} {base:List Ins} {its:Its} (h:Rep c base its) (e:Nat):Rep (c.sure e) base (its++zBy c.z e)/\(c.sure e).z=zUp c.z e:=by
 unfold Cod.sure zBy zUp
 by_cases g:c.z<e
 ·rw[if_pos g,if_pos g,if_pos g]
  have:=h.leave ⟨9,1,0,0,(e:Int)⟩;exact⟨⟨this.L,this.T,this.F⟩,rfl⟩
 ·rw[if_neg g,if_neg g,if_neg g,List.append_nil]
  exact⟨h,rfl⟩
theorem Rep.states:∀(l:List Bool) (c:Cod) (base:List Ins) (its:Its) (i:Nat),Rep c base its->Rep (zC5 c l i) base (its++stI l i)/\(zC5 c l i).z=c.z
 |[],c,base,its,i,h=>by rw[stI,List.append_nil];exact⟨h,rfl⟩
 |b::r,c,base,its,i,h=>by
  rw[zC5,stI];cases b with
  |true=>
   have:=Rep.states r c base its (i+1) h;exact this
  |false=>
   have:=Rep.states r (c.unless ⟨8,0,0,0,(i:Int)⟩) base _ (i+1) (h.unless _);refine⟨?_,this.2⟩;have h1:=this.1;rw[List.append_assoc] at h1;exact h1
theorem zOX (z:Nat):zUp z 0=z:=by unfold zUp;rw[if_neg (by omega)]
theorem Rep.test {c:Cod} {base:List Ins} {its:Its} (h:Rep c base its) (i:Nat) (v:List Nat):Rep (zFq i v c) base (its++zEm i v c.z)/\(zFq i v c).z=zUp c.z (zHE i):=by
 unfold zFq zEm zHE
 by_cases i0:i=0
 ·subst i0
  have:=(h.add ⟨4,0,0,0,0⟩).leave ⟨8,0,0,0,n0 v 0⟩;rw[List.append_assoc] at this;exact⟨this,(zOX c.z).symm⟩
 by_cases i1:i=1
 ·subst i1
  have h0:=h.sure 30;have:=((h0.1.add ⟨3,0,0,0,((26:Nat):Int)⟩).add ⟨6,0,0,0,(zAb (v.getD 1 0):Int)⟩).leave ⟨8,0,0,0,n0 v 0⟩;simp only[List.append_assoc] at this;exact⟨this,h0.2⟩
 by_cases i2:i=2
 ·subst i2
  have h0:=h.sure 34;have:=((h0.1.add ⟨3,0,0,0,((30:Nat):Int)⟩).add ⟨6,0,0,0,(zAb (v.getD 1 0):Int)⟩).leave ⟨8,0,0,0,n0 v 0⟩;simp only[List.append_assoc] at this;exact⟨this,h0.2⟩
 by_cases i3:i=3
 ·subst i3
  have h0:=h.sure 24;have:=(h0.1.add ⟨1,0,0,0,23⟩).leave ⟨8,0,0,0,n0 v 0⟩;simp only[List.append_assoc] at this;exact⟨this,h0.2⟩
 by_cases i4:i=4
 ·subst i4
  have h0:=h.sure 36;have:=((h0.1.add ⟨2,0,0,0,((34:Nat):Int)⟩).leave ⟨9,0,0,0,n0 v 0⟩).unless ⟨9,0,0,0,n0 v 1+1⟩;simp only[List.append_assoc] at this;exact⟨this,h0.2⟩
 by_cases i5:i=5
 ·subst i5
  have h0:=h.sure 38;have:=((h0.1.add ⟨2,0,0,0,((36:Nat):Int)⟩).leave ⟨9,0,0,0,n0 v 0⟩).unless ⟨9,0,0,0,n0 v 1+1⟩;simp only[List.append_assoc] at this;exact⟨this,h0.2⟩
 by_cases i6:i=6
 ·subst i6
  have h0:=h.sure 48;have:=((h0.1.add ⟨1,0,0,0,47⟩).add ⟨6,0,0,0,n0 v 0⟩).leave ⟨8,0,0,0,n0 v 1⟩;simp only[List.append_assoc] at this;exact⟨this,h0.2⟩
 ·rw[if_neg i0,if_neg i1,if_neg i2,if_neg i3,if_neg i4,if_neg i5,if_neg i6,if_neg i0,if_neg i1,if_neg i2,if_neg i3,if_neg i4,if_neg i5,if_neg i6,if_neg i1,if_neg i2,if_neg i3,if_neg i4,if_neg i5,if_neg i6,zOX]
  have:=Rep.states [v.getD 0 0 == 1,v.getD 1 0 == 1,v.getD 2 0 == 1] _ _ _ 0 ((h.add ⟨4,0,0,0,1⟩).unless ⟨9,0,0,0,3⟩);simp only[List.append_assoc] at this;exact⟨this.1,this.2⟩
theorem Rep.tests (cs:Cs) (base:List Ins):∀(n i:Nat) (c:Cod) (its:Its),Rep c base its->Rep (zCZ cs n i c) base (its++zBu cs n i c.z)
 |0,i,c,its,h=>by rw[zBu,List.append_nil];exact h
 |n+1,i,c,its,h=>by
  rw[zCZ,zBu];cases e:cs.getD i none with
  |none=>exact Rep.tests cs base n (i+1) c its h
  |some v=>
   have h1:=h.test i v;have:=Rep.tests cs base n (i+1) _ _ h1.1;rw[h1.2,List.append_assoc] at this;exact this
theorem zKm (r:Rl) (c:Cod) (hT:c.T=[]) (hF:c.F=[]):(zDZ (zBt r c)).L=c.L++zB5 (zCc r):=by
 have h0:Rep ⟨c.L,c.T,c.F,34⟩ c.L []:=⟨by simp,fun a=>by rw[hT];simp,fun a=>by rw[hF];simp⟩;have h1:=Rep.tests r.cs c.L 8 0 _ _ h0;exact(h1.ends ⟨0,0,0,0,(r.v:Int)⟩).join
def zBC:List Rl->List Ins
 |[]=>[]
 |r::l=>zB5 (zCc r)++zBC l
theorem zEY:∀(l:List Rl) (c:Cod),c.T=[]->c.F=[]->(zBg l c).L=c.L++zBC l
 |[],c,_,_=>by simp[zBg,zBC]
 |r::l,c,hT,hF=>by
  rw[zBg,zEY l _ rfl rfl,zKm r c hT hF,zBC,List.append_assoc]
theorem zA0 (b:Bk):zA8 b=zBW++zBC b.rs++[⟨0,0,0,0,(b.pol:Int)⟩]:=by
 unfold zA8 zJ0
 show(zBg b.rs ⟨zBW,[],[],0⟩).L++_=_
 rw[zEY _ _ rfl rfl]
def zBH (d:ByteArray) (m:Int×Int):Its->St->Int ⊕ St
 |[],a=> .inr a
 |p::r,a=>
  if p.2=0 then zBH d m r (a.does d m p.1)
  else if p.2=1 then(if a.goes p.1=true then zBH d m r a else .inr a)
  else if p.2=2 then(if a.goes p.1=true then .inr a else zBH d m r a)
  else .inl p.1.k
def Wf (p:Ins×Nat):Prop:=(p.2=0/\1<=p.1.op/\p.1.op<=7)\/((p.2=1\/p.2=2)/\p.1.branch=true/\p.1.t=0/\p.1.f=0)\/(p.2=3/\p.1.op=0)
theorem zEA {x:Ins} (h:x.branch=true):x.op=8\/x.op=9\/x.op=10:=by
 unfold Ins.branch at h;simp only[Bool.or_eq_true,beq_iff_eq] at h;omega
theorem zHm {x:Ins} (h:x.op<=7):x.branch=false:=by
 unfold Ins.branch;simp only[Bool.or_eq_false_iff,beq_eq_false_iff_ne];omega
theorem zFF (a:St) (d:ByteArray) (m:Int×Int) {x:Ins} (h:x.branch=true):a.does d m x=a:=by
 have:=zEA h;unfold St.does;rw[if_neg (by omega),if_neg (by omega),if_neg (by omega),if_neg (by omega),if_neg (by omega),if_neg (by omega),if_neg (by omega)]
theorem zKn (a:St) {x:Ins} (h:x.op<=7):a.over x=0:=by
 unfold St.over;rw[if_neg (by omega),zHm h];rfl
theorem zFG (a:St) {x:Ins} (h:x.branch=true):a.over x=if a.goes x=true then x.t else x.f:=by
 have:=zEA h;unfold St.over;rw[if_neg (by omega),if_pos h]
theorem zGE (s:ByteArray) (n:Nat) (d:ByteArray) (m:Int×Int) (v:Int) (z:Nat):∀(its:Its) (i c:Nat) (a:St),(∀j x,(zB5 its)[j]? =some x->zAG s (i+j)=x)->(∀p ∈ its,Wf p)->i+its.length<=n->
 zHV s n d m i c a v z 0->(match zBH d m its a with| .inl u=>v=u| .inr a'=>∃c',zHV s n d m (i+its.length) c' a' v z 0)
 |[],i,c,a,_,_,_,hg=>⟨c,hg⟩
 |p::r,i,c,a,hp,hw,hn,hg=>by
  have hx:zAG s i=zCb p.1 p.2 r.length:=hp 0 _ (by simp[zB5]);have hr:∀j x,(zB5 r)[j]? =some x->zAG s (i+1+j)=x:=fun j x h=>by
   rw[show i+1+j=i+(j+1) by omega];exact hp (j+1) x (by simpa[zB5] using h)
  have hwr:∀q ∈ r,Wf q:=fun q hq=>hw q (List.mem_cons_of_mem _ hq)
  have hl:(p::r).length=r.length+1:=rfl;have hout:=hg.out;rw[hx] at hout;have key:∀(i':Nat) (a':St),i'=i+1->(∃c',zHV s n d m i' c' a' v z 0)->(match zBH d m r a' with| .inl u=>v=u| .inr a'=>∃c',zHV s n d m (i+(p::r).length) c' a' v z 0):=fun i' a' e ⟨c',h⟩=>by
   subst e;have:=zGE s n d m v z r (i+1) c' a' hr hwr (by omega) h;rw[show i+(p::r).length=i+1+r.length by omega];exact this
  have leave:∀(i':Nat),i'=i+1+r.length->(∃c',zHV s n d m i' c' a v z 0)->(∃c',zHV s n d m (i+(p::r).length) c' a v z 0):=fun i' e h=>by
   rw[show i+(p::r).length=i' by omega];exact h
  obtain⟨x,k⟩:=p;rcases hw (x,k) (List.mem_cons_self ..) with⟨hk,h1,h7⟩|⟨hk,hb,ht,hf⟩|⟨hk,h0⟩
  ·dsimp only at hk h1 h7 hout
   subst hk;have e:zCb x 0 r.length=x:=rfl;rw[e] at hout;rcases hout with⟨h,_⟩|⟨_,h,_⟩|⟨_,_,h,_,_,h'⟩|⟨_,_,_,h⟩
   ·omega
   ·omega
   ·exact absurd h'.symm h
   ·rw[zKn a h7] at h
    exact key _ _ rfl ⟨_,h⟩
  ·dsimp only at hk hb ht hf hout
   have hbo:=zEA hb;have e1:(zCb x k r.length).op=x.op:=by unfold zCb;split;rfl;split<;>rfl
   have e2:(zCb x k r.length).branch=true:=by unfold Ins.branch at hb ⊢;rw[e1];exact hb
   have e3:a.goes (zCb x k r.length)=a.goes x:=by unfold zCb;split;rfl;split<;>rfl
   rcases hout with⟨h,_⟩|⟨_,h,_⟩|⟨_,_,h,_,_,h'⟩|⟨_,_,_,h⟩
   ·omega
   ·omega
   ·exact absurd h'.symm h
   ·rw[zFG a e2,zFF a d m e2,e3] at h
    rcases hk with rfl|rfl
    ·have ef:(zCb x 1 r.length).f=(r.length:Int):=rfl
     have et:(zCb x 1 r.length).t=0:=ht;rw[ef,et] at h;unfold zBH;dsimp only;rw[if_neg (by decide),if_pos rfl]
     by_cases hgo:a.goes x=true
     ·rw[if_pos hgo] at h ⊢
      exact key _ _ rfl ⟨_,h⟩
     ·rw[if_neg hgo] at h ⊢
      exact leave _ (by rw[Int.toNat_natCast]) ⟨_,h⟩
    ·have et:(zCb x 2 r.length).t=(r.length:Int):=rfl
     have ef:(zCb x 2 r.length).f=0:=hf;rw[ef,et] at h;unfold zBH;dsimp only;rw[if_neg (by decide),if_neg (by decide),if_pos rfl]
     by_cases hgo:a.goes x=true
     ·rw[if_pos hgo] at h ⊢
      exact leave _ (by rw[Int.toNat_natCast]) ⟨_,h⟩
     ·rw[if_neg hgo] at h ⊢
      exact key _ _ rfl ⟨_,h⟩
  ·dsimp only at hk h0 hout
   subst hk;have e:zCb x 3 r.length=x:=rfl;rw[e] at hout;rcases hout with⟨h,_⟩|⟨_,_,h,_⟩|⟨_,h,_⟩|⟨_,h,_⟩
   ·omega
   ·exact h
   ·exact absurd h0 h
   ·exact absurd h0 h
def zGq (i:Nat) (v:List Nat) (d:ByteArray) (m:Int×Int):Bool:=
 if i=0 then m.1 == n0 v 0
 else if i=1 then(((zAB d 26 4).toNat&&& zAb (v.getD 1 0):Nat):Int) == n0 v 0
 else if i=2 then(((zAB d 30 4).toNat&&& zAb (v.getD 1 0):Nat):Int) == n0 v 0
 else if i=3 then zAB d 23 1 == n0 v 0
 else if i=4 then decide (n0 v 0<=zAB d 34 2)&& !decide (n0 v 1+1<=zAB d 34 2)
 else if i=5 then decide (n0 v 0<=zAB d 36 2)&& !decide (n0 v 1+1<=zAB d 36 2)
 else if i=6 then(((zAB d 47 1).toNat&&& v.getD 0 0:Nat):Int) == n0 v 1
 else !decide (3<=m.2)&&((v.getD 0 0 == 1|| !(m.2 == 0))&&((v.getD 1 0 == 1|| !(m.2 == 1))&&(v.getD 2 0 == 1|| !(m.2 == 2))))
def zCQ (i:Nat) (v:List Nat) (d:ByteArray) (m:Int×Int):Bool:=decide (zHE i<=d.size)&&zGq i v d m
structure Rg (a:St) (d:ByteArray):Prop where
 len:a.reg.length=4
 one:a.reg.getD 1 0=d.size
theorem Rg.put {a:St} {d:ByteArray} (h:Rg a d) (o t f k v:Int):Rg (a.put ⟨o,0,t,f,k⟩ v) d:=by
 have h1:=h.len;have h2:=h.one;refine⟨by simp[St.put,h1],?_⟩;unfold St.put;rw[List.getD_eq_getElem?_getD] at h2 ⊢
 simpa using h2
theorem Rg.turn {a:St} {d:ByteArray} (h:Rg a d) (o t f k v:Int):Rg (a.turn ⟨o,0,t,f,k⟩ v) d:=by
 have h1:=h.len;have h2:=h.one;refine⟨by simp[St.turn,h1],?_⟩;unfold St.turn;rw[List.getD_eq_getElem?_getD] at h2 ⊢
 simpa using h2
theorem zFH {a:St} (h:a.reg.length=4) (o t f k v o' t' f' k':Int):(a.put ⟨o,0,t,f,k⟩ v).at ⟨o',0,t',f',k'⟩=v:=by
 unfold St.at St.put;simp[h]
theorem zMh {a:St} (h:a.reg.length=4) (o t f k v o' t' f' k':Int):(a.turn ⟨o,0,t,f,k⟩ v).at ⟨o',0,t',f',k'⟩=v:=by
 unfold St.at St.turn;simp[h]
theorem zRc {a:St} {d:ByteArray} (h:Rg a d) (o t f k:Int):a.at ⟨o,1,t,f,k⟩=d.size:=h.one
theorem zDs (d:ByteArray) (m:Int×Int) (z e:Nat) (r:Its) (a:St) (h:Rg a d) (hz:z<=d.size):zBH d m (zBy z e++r) a=if e<=d.size then zBH d m r a else .inr a:=by
 unfold zBy
 by_cases g:z<e
 ·rw[if_pos g]
  show zBH d m ((_,1)::r) a=_
  rw[zBH];have:a.goes ⟨9,1,0,0,(e:Int)⟩=decide (e<=d.size):=by
   show(if(9:Int)=8 then _ else if(9:Int)=9 then decide ((e:Int)<=a.at ⟨9,1,0,0,(e:Int)⟩) else _)=_
   rw[if_neg (by decide),if_pos rfl,zRc h];simp
  dsimp only;rw[if_neg (by decide),if_pos rfl,this];simp
 ·rw[if_neg g,if_pos (by omega)]
  rfl
theorem zEZ (d:ByteArray) (m:Int×Int) (x:Ins) (r:Its) (a:St):zBH d m ((x,0)::r) a=zBH d m r (a.does d m x):=rfl
theorem zHn (d:ByteArray) (m:Int×Int) (x:Ins) (r:Its) (a:St):zBH d m ((x,1)::r) a=if a.goes x=true then zBH d m r a else .inr a:=rfl
theorem zMi (d:ByteArray) (m:Int×Int) (x:Ins) (r:Its) (a:St):zBH d m ((x,2)::r) a=if a.goes x=true then .inr a else zBH d m r a:=rfl
theorem zI9 (d:ByteArray) (m:Int×Int) (r:Its) (a:St) (u:Int) (hu:∀o t f k,a.at ⟨o,0,t,f,k⟩=u):∀(l:List Bool) (i:Nat),zBH d m (stI l i++r) a=if(l.zipIdx i).all (fun p=>p.1|| !(u == (p.2:Int)))=true then zBH d m r a else .inr a
 |[],i=>by simp[stI]
 |b::l,i=>by
  rw[stI,List.append_assoc,List.zipIdx_cons,List.all_cons];cases b with
  |true=>
   have:=zI9 d m r a u hu l (i+1)
   show zBH d m (stI l (i+1)++r) a=_
   rw[this,Bool.true_or,Bool.true_and]
  |false=>
   show zBH d m ((_,2)::(stI l (i+1)++r)) a=_
   rw[zMi,zI9 d m r a u hu l (i+1)];have:a.goes ⟨8,0,0,0,(i:Int)⟩=(u == (i:Int)):=by
    unfold St.goes;rw[if_pos rfl,hu]
   rw[this];cases hui:(u == (i:Int)) with
   |true=>
    rw[if_pos rfl,if_neg];simp
   |false=>
    rw[if_neg (by decide),Bool.not_false,Bool.or_true,Bool.true_and]
theorem zMj (i:Nat) (v:List Nat) (d:ByteArray) (m:Int×Int) (z:Nat) (r:Its) (a:St) (h:Rg a d) (hz:z<=d.size):
 ∃a' a'',Rg a' d/\Rg a'' d/\zBH d m (zEm i v z++r) a=if zCQ i v d m=true then zBH d m r a' else .inr a'':=by
 have hl:=h.len;unfold zCQ zEm zGq zHE
 by_cases i0:i=0
 ·subst i0
  refine⟨_,_,h.put 4 0 0 0 m.1,h.put 4 0 0 0 m.1,?_⟩
  show zBH d m ((_,0)::(_,1)::r) a=_
  rw[zEZ,zHn];have e:a.does d m ⟨4,0,0,0,0⟩=a.put ⟨4,0,0,0,0⟩ m.1:=rfl;rw[e];have g:(a.put ⟨4,0,0,0,0⟩ m.1).goes ⟨8,0,0,0,n0 v 0⟩=(m.1 == n0 v 0):=by
   unfold St.goes;rw[if_pos rfl,zFH hl]
  rw[g];simp
 have net:∀ad:Nat,(ad=26\/ad=30)->∃a' a'',Rg a' d/\Rg a'' d/\zBH d m (zPi z ad v++r) a=if(decide (ad+4<=d.size)&&((((zAB d ad 4).toNat&&& zAb (v.getD 1 0):Nat):Int) == n0 v 0))=true then zBH d m r a' else .inr a'':=fun ad had=>by
  unfold zPi;rw[List.append_assoc,zDs d m z _ _ a h hz]
  by_cases hs:ad+4<=d.size
  ·rw[if_pos hs]
   refine⟨_,_,(h.put 3 0 0 (ad:Int) (zAB d ad 4)).turn 6 0 0 (zAb (v.getD 1 0):Int) (((zAB d ad 4).toNat&&& zAb (v.getD 1 0):Nat):Int),(h.put 3 0 0 (ad:Int) (zAB d ad 4)).turn 6 0 0 (zAb (v.getD 1 0):Int) (((zAB d ad 4).toNat&&& zAb (v.getD 1 0):Nat):Int),?_⟩
   show zBH d m ((_,0)::(_,0)::(_,1)::r) a=_
   rw[zEZ,zEZ,zHn];have e:a.does d m ⟨3,0,0,0,(ad:Int)⟩=a.put ⟨3,0,0,0,(ad:Int)⟩ (zAB d ad 4):=by rcases had with rfl|rfl<;>rfl
   rw[e];have e2:(a.put ⟨3,0,0,0,(ad:Int)⟩ (zAB d ad 4)).does d m ⟨6,0,0,0,(zAb (v.getD 1 0):Int)⟩=(a.put ⟨3,0,0,0,(ad:Int)⟩ (zAB d ad 4)).turn ⟨6,0,0,0,(zAb (v.getD 1 0):Int)⟩ (((zAB d ad 4).toNat&&& zAb (v.getD 1 0):Nat):Int):=by
    show(a.put ⟨3,0,0,0,(ad:Int)⟩ (zAB d ad 4)).turn _ _=_
    rw[zFH hl,Int.toNat_natCast]
   rw[e2];have g:((a.put ⟨3,0,0,0,(ad:Int)⟩ (zAB d ad 4)).turn ⟨6,0,0,0,(zAb (v.getD 1 0):Int)⟩ (((zAB d ad 4).toNat&&& zAb (v.getD 1 0):Nat):Int)).goes ⟨8,0,0,0,n0 v 0⟩=((((zAB d ad 4).toNat&&& zAb (v.getD 1 0):Nat):Int) == n0 v 0):=by
    unfold St.goes;rw[if_pos rfl,zMh (by simp[St.put,hl])]
   rw[g,show decide (ad+4<=d.size)=true by simpa using hs,Bool.true_and]
  ·refine⟨a,a,h,h,?_⟩
   rw[if_neg hs,show decide (ad+4<=d.size)=false by simpa using hs,Bool.false_and,if_neg (by decide)]
 by_cases i1:i=1
 ·subst i1;exact net 26 (Or.inl rfl)
 by_cases i2:i=2
 ·subst i2;exact net 30 (Or.inr rfl)
 by_cases i3:i=3
 ·subst i3
  show ∃a' a'',Rg a' d/\Rg a'' d/\zBH d m ((zBy z 24++_)++r) a=if(decide (24<=d.size)&&(zAB d 23 1 == n0 v 0))=true then _ else _
  rw[List.append_assoc,zDs d m z _ _ a h hz]
  by_cases hs:24<=d.size
  ·rw[if_pos hs]
   refine⟨_,_,h.put 1 0 0 23 (zAB d 23 1),h.put 1 0 0 23 (zAB d 23 1),?_⟩
   show zBH d m ((_,0)::(_,1)::r) a=_
   rw[zEZ,zHn];have e:a.does d m ⟨1,0,0,0,23⟩=a.put ⟨1,0,0,0,23⟩ (zAB d 23 1):=rfl;rw[e];have g:(a.put ⟨1,0,0,0,23⟩ (zAB d 23 1)).goes ⟨8,0,0,0,n0 v 0⟩=(zAB d 23 1 == n0 v 0):=by
    unfold St.goes;rw[if_pos rfl,zFH hl]
   rw[g,show decide (24<=d.size)=true by simpa using hs,Bool.true_and]
  ·refine⟨a,a,h,h,?_⟩
   rw[if_neg hs,show decide (24<=d.size)=false by simpa using hs,Bool.false_and,if_neg (by decide)]
 have port:∀ad:Nat,(ad=34\/ad=36)->∃a' a'',Rg a' d/\Rg a'' d/\zBH d m (zHl z ad v++r) a=if(decide (ad+2<=d.size)&&(decide (n0 v 0<=zAB d ad 2)&& !decide (n0 v 1+1<=zAB d ad 2)))=true then zBH d m r a' else .inr a'':=fun ad had=>by
  unfold zHl;rw[List.append_assoc,zDs d m z _ _ a h hz]
  by_cases hs:ad+2<=d.size
  ·rw[if_pos hs]
   refine⟨_,_,h.put 2 0 0 (ad:Int) (zAB d ad 2),h.put 2 0 0 (ad:Int) (zAB d ad 2),?_⟩
   show zBH d m ((_,0)::(_,1)::(_,2)::r) a=_
   rw[zEZ,zHn,zMi];have e:a.does d m ⟨2,0,0,0,(ad:Int)⟩=a.put ⟨2,0,0,0,(ad:Int)⟩ (zAB d ad 2):=by rcases had with rfl|rfl<;>rfl
   rw[e];have g:∀k,(a.put ⟨2,0,0,0,(ad:Int)⟩ (zAB d ad 2)).goes ⟨9,0,0,0,k⟩=decide (k<=zAB d ad 2):=fun k=>by
    show(if(9:Int)=8 then _ else if(9:Int)=9 then decide (k<=_) else _)=_
    rw[if_neg (by decide),if_pos rfl,zFH hl]
   rw[g,g,show decide (ad+2<=d.size)=true by simpa using hs,Bool.true_and];cases decide (n0 v 0<=zAB d ad 2)<;>cases decide (n0 v 1+1<=zAB d ad 2)<;>rfl
  ·refine⟨a,a,h,h,?_⟩
   rw[if_neg hs,show decide (ad+2<=d.size)=false by simpa using hs,Bool.false_and,if_neg (by decide)]
 by_cases i4:i=4
 ·subst i4;exact port 34 (Or.inl rfl)
 by_cases i5:i=5
 ·subst i5;exact port 36 (Or.inr rfl)
 by_cases i6:i=6
 ·subst i6
  show ∃a' a'',Rg a' d/\Rg a'' d/\zBH d m ((zBy z 48++_)++r) a=if(decide (48<=d.size)&&((((zAB d 47 1).toNat&&& v.getD 0 0:Nat):Int) == n0 v 1))=true then _ else _
  rw[List.append_assoc,zDs d m z _ _ a h hz]
  by_cases hs:48<=d.size
  ·rw[if_pos hs]
   refine⟨_,_,(h.put 1 0 0 47 (zAB d 47 1)).turn 6 0 0 (n0 v 0) (((zAB d 47 1).toNat&&& v.getD 0 0:Nat):Int),(h.put 1 0 0 47 (zAB d 47 1)).turn 6 0 0 (n0 v 0) (((zAB d 47 1).toNat&&& v.getD 0 0:Nat):Int),?_⟩
   show zBH d m ((_,0)::(_,0)::(_,1)::r) a=_
   rw[zEZ,zEZ,zHn];have e:a.does d m ⟨1,0,0,0,47⟩=a.put ⟨1,0,0,0,47⟩ (zAB d 47 1):=rfl;rw[e];have e2:(a.put ⟨1,0,0,0,47⟩ (zAB d 47 1)).does d m ⟨6,0,0,0,n0 v 0⟩=(a.put ⟨1,0,0,0,47⟩ (zAB d 47 1)).turn ⟨6,0,0,0,n0 v 0⟩ (((zAB d 47 1).toNat&&& v.getD 0 0:Nat):Int):=by
    show(a.put ⟨1,0,0,0,47⟩ (zAB d 47 1)).turn _ _=_
    rw[zFH hl];unfold n0;rw[Int.toNat_natCast]
   rw[e2];have g:((a.put ⟨1,0,0,0,47⟩ (zAB d 47 1)).turn ⟨6,0,0,0,n0 v 0⟩ (((zAB d 47 1).toNat&&& v.getD 0 0:Nat):Int)).goes ⟨8,0,0,0,n0 v 1⟩=((((zAB d 47 1).toNat&&& v.getD 0 0:Nat):Int) == n0 v 1):=by
    unfold St.goes;rw[if_pos rfl,zMh (by simp[St.put,hl])]
   rw[g,show decide (48<=d.size)=true by simpa using hs,Bool.true_and]
  ·refine⟨a,a,h,h,?_⟩
   rw[if_neg hs,show decide (48<=d.size)=false by simpa using hs,Bool.false_and,if_neg (by decide)]
 ·rw[if_neg i0,if_neg i1,if_neg i2,if_neg i3,if_neg i4,if_neg i5,if_neg i6,if_neg i1,if_neg i2,if_neg i3,if_neg i4,if_neg i5,if_neg i6,if_neg i0,if_neg i1,if_neg i2,if_neg i3,if_neg i4,if_neg i5,if_neg i6]
  refine⟨_,_,h.put 4 0 0 1 m.2,h.put 4 0 0 1 m.2,?_⟩;rw[List.append_assoc]
  show zBH d m ((_,0)::(_,2)::(_++r)) a=_
  rw[zEZ,zMi];have e:a.does d m ⟨4,0,0,0,1⟩=a.put ⟨4,0,0,0,1⟩ m.2:=rfl;rw[e,zI9 d m r _ m.2 (fun o t f k=>zFH hl ..)];have g:(a.put ⟨4,0,0,0,1⟩ m.2).goes ⟨9,0,0,0,3⟩=decide (3<=m.2):=by
   unfold St.goes;rw[if_neg (by decide),if_pos rfl,zFH hl]
  rw[g];have:(List.zipIdx [v.getD 0 0 == 1,v.getD 1 0 == 1,v.getD 2 0 == 1] 0).all (fun p=>p.1|| !(m.2 == (p.2:Int)))=((v.getD 0 0 == 1|| !(m.2 == 0))&&((v.getD 1 0 == 1|| !(m.2 == 1))&&(v.getD 2 0 == 1|| !(m.2 == 2)))):=by
   simp[List.zipIdx]
  rw[this,show decide (0<=d.size)=true by simp,Bool.true_and];cases decide (3<=m.2)<;>rfl
def zDt (cs:Cs) (d:ByteArray) (m:Int×Int):Nat->Nat->Bool
 |0,_=>true
 |n+1,i=>(match cs.getD i none with|none=>true|some v=>zCQ i v d m)&&zDt cs d m n (i+1)
def zOY (r:Rl) (d:ByteArray) (m:Int×Int):Bool:=zDt r.cs d m 8 0
def zFs (pol:Nat) (d:ByteArray) (m:Int×Int):List Rl->Nat
 |[]=>pol
 |r::l=>if zOY r d m=true then r.v else zFs pol d m l
theorem zRd {z d:Nat} (e:Nat) (h:z<=d) (g:e<=d):zUp z e<=d:=by unfold zUp;split<;>omega
theorem zEB (cs:Cs) (d:ByteArray) (m:Int×Int) (u:Int):∀(n i z:Nat) (a:St),Rg a d->z<=d.size->∃a',Rg a' d/\zBH d m (zBu cs n i z++[(⟨0,0,0,0,u⟩,3)]) a=if zDt cs d m n i=true then .inl u else .inr a'
 |0,i,z,a,h,_=>⟨a,h,by simp[zBu,zDt,zBH]⟩
 |n+1,i,z,a,h,hz=>by
  rw[zBu,zDt];cases e:cs.getD i none with
  |none=>
   dsimp only;rw[Bool.true_and];exact zEB cs d m u n (i+1) z a h hz
  |some v=>
   dsimp only;obtain⟨a',a'',h1,h2,h3⟩:=zMj i v d m z (zBu cs n (i+1) (zUp z (zHE i))++[(⟨0,0,0,0,u⟩,3)]) a h hz;rw[List.append_assoc,h3];rcases Bool.eq_false_or_eq_true (zCQ i v d m) with hc|hc
   rotate_left
   ·exact⟨a'',h2,by rw[if_neg (by rw[hc];decide),if_neg (by rw[hc,Bool.false_and];decide)]⟩
   ·have hle:zHE i<=d.size:=by
     unfold zCQ at hc;simp only[Bool.and_eq_true,decide_eq_true_eq] at hc;exact hc.1
    obtain⟨b,hb,hb2⟩:=zEB cs d m u n (i+1) (zUp z (zHE i)) a' h1 (zRd _ hz hle);exact⟨b,hb,by rw[if_pos hc,hb2,show(zCQ i v d m&&zDt cs d m n (i+1))=zDt cs d m n (i+1) by rw[hc,Bool.true_and]]⟩
theorem zEC {z e:Nat}:∀p ∈ zBy z e,Wf p:=fun p hp=>by
 unfold zBy at hp
 split at hp
 ·rw[List.mem_singleton] at hp
  subst hp;exact .inr (.inl ⟨.inl rfl,rfl,rfl,rfl⟩)
 ·cases hp
theorem zRe:∀(l:List Bool) (i:Nat),∀p ∈ stI l i,Wf p
 |[],i,p,hp=>by cases hp
 |b::r,i,p,hp=>by
  rw[stI] at hp;rcases List.mem_append.1 hp with h|h
  ·cases b with
   |true=>cases h
   |false=>
    rw[if_neg (by decide),List.mem_singleton] at h;subst h;exact .inr (.inl ⟨.inr rfl,rfl,rfl,rfl⟩)
  ·exact zRe r (i+1) p h
theorem zBv {a b:Its} (ha:∀p ∈ a,Wf p) (hb:∀p ∈ b,Wf p):∀p ∈ a++b,Wf p:=fun p hp=>by
 rcases List.mem_append.1 hp with h|h
 ·exact ha p h
 ·exact hb p h
theorem zMk (o r k:Int) (h:1<=o/\o<=7):Wf (⟨o,r,0,0,k⟩,0):= .inl ⟨rfl,h.1,h.2⟩
theorem zQI (o r k:Int) (h:(o == 8||o == 9||o == 10)=true):Wf (⟨o,r,0,0,k⟩,1):= .inr (.inl ⟨.inl rfl,h,rfl,rfl⟩)
theorem zR7 (o r k:Int) (h:(o == 8||o == 9||o == 10)=true):Wf (⟨o,r,0,0,k⟩,2):= .inr (.inl ⟨.inr rfl,h,rfl,rfl⟩)
theorem zQJ (i:Nat) (v:List Nat) (z:Nat):∀p ∈ zEm i v z,Wf p:=by
 unfold zEm zPi zHl
 repeat' split
 ·simp only[List.forall_mem_cons]
  exact⟨zMk _ _ _ (by decide),zQI _ _ _ rfl,fun p hp=>by cases hp⟩
 ·refine zBv zEC ?_
  simp only[List.forall_mem_cons];exact⟨zMk _ _ _ (by decide),zMk _ _ _ (by decide),zQI _ _ _ rfl,fun p hp=>by cases hp⟩
 ·refine zBv zEC ?_
  simp only[List.forall_mem_cons];exact⟨zMk _ _ _ (by decide),zMk _ _ _ (by decide),zQI _ _ _ rfl,fun p hp=>by cases hp⟩
 ·refine zBv zEC ?_
  simp only[List.forall_mem_cons];exact⟨zMk _ _ _ (by decide),zQI _ _ _ rfl,fun p hp=>by cases hp⟩
 ·refine zBv zEC ?_
  simp only[List.forall_mem_cons];exact⟨zMk _ _ _ (by decide),zQI _ _ _ rfl,zR7 _ _ _ rfl,fun p hp=>by cases hp⟩
 ·refine zBv zEC ?_
  simp only[List.forall_mem_cons];exact⟨zMk _ _ _ (by decide),zQI _ _ _ rfl,zR7 _ _ _ rfl,fun p hp=>by cases hp⟩
 ·refine zBv zEC ?_
  simp only[List.forall_mem_cons];exact⟨zMk _ _ _ (by decide),zMk _ _ _ (by decide),zQI _ _ _ rfl,fun p hp=>by cases hp⟩
 ·refine zBv ?_ (zRe _ _)
  simp only[List.forall_mem_cons];exact⟨zMk _ _ _ (by decide),zR7 _ _ _ rfl,fun p hp=>by cases hp⟩
theorem zGr (cs:Cs):∀(n i z:Nat),∀p ∈ zBu cs n i z,Wf p
 |0,i,z,p,hp=>by cases hp
 |n+1,i,z,p,hp=>by
  rw[zBu] at hp
  split at hp
  ·exact zGr cs n (i+1) z p hp
  ·rcases List.mem_append.1 hp with h|h
   ·exact zQJ _ _ _ p h
   ·exact zGr cs n (i+1) _ p h
theorem zQK (r:Rl):∀p ∈ zCc r,Wf p:=zBv (zGr _ _ _ _) (fun p hp=>by
 rw[List.mem_singleton] at hp;subst hp;exact .inr (.inr ⟨rfl,rfl⟩))
structure zRz (s:ByteArray) (L:List Ins):Prop where
 size:s.size=8*L.length
 ins:∀i x,L[i]? =some x->zAG s i=x
theorem zGF (s:ByteArray) (n:Nat) (d:ByteArray) (m:Int×Int) (v:Int) (z:Nat) (pol:Nat) (h34:34<=d.size):∀(l:List Rl) (i c:Nat) (a:St),(∀j x,(zBC l++[⟨0,0,0,0,(pol:Int)⟩])[j]? =some x->zAG s (i+j)=x)->i+(zBC l).length<n->Rg a d->
 zHV s n d m i c a v z 0->v=(zFs pol d m l:Int)
 |[],i,c,a,hp,hn,hr,hg=>by
  have hx:zAG s i=⟨0,0,0,0,(pol:Int)⟩:=hp 0 _ (by simp[zBC]);have hout:=hg.out;rw[hx] at hout;rcases hout with⟨h,_⟩|⟨_,_,h,_⟩|⟨_,h,_⟩|⟨_,h,_⟩
  ·simp[zBC] at hn;omega
  ·exact h
  ·exact absurd rfl h
  ·exact absurd rfl h
 |r::l,i,c,a,hp,hn,hr,hg=>by
  rw[zBC,List.append_assoc] at hp;rw[zBC,List.length_append,zCF] at hn;have h1:∀j x,(zB5 (zCc r))[j]? =some x->zAG s (i+j)=x:=fun j x h=>by
   refine hp j x ?_;rw[List.getElem?_append_left]
   ·exact h
   ·exact(List.getElem?_eq_some_iff.1 h).1
  have h2:∀j x,(zBC l++[⟨0,0,0,0,(pol:Int)⟩])[j]? =some x->zAG s (i+(zCc r).length+j)=x:=fun j x h=>by
   rw[Nat.add_assoc];refine hp _ x ?_;rw[List.getElem?_append_right (by rw[zCF];omega),zCF,show(zCc r).length+j-(zCc r).length=j by omega];exact h
  have h3:=zGE s n d m v z (zCc r) i c a h1 (zQK r) (by omega) hg;obtain⟨a',ha',he⟩:=zEB r.cs d m (r.v:Int) 8 0 34 a hr h34;rw[zFs];have he':zBH d m (zCc r) a=if zOY r d m=true then .inl (r.v:Int) else .inr a':=he
  rw[he'] at h3;cases hb:zOY r d m with
  |true=>rw[hb] at h3;exact h3
  |false=>
   rw[hb] at h3;obtain⟨c',h3⟩:=h3;have:=zGF s n d m v z pol h34 l _ _ a' h2 (by omega) ha' h3
   simpa using this
theorem zMl (s:ByteArray) (b:Bk) (d:ByteArray) (m:Int×Int) (v:Int) (z:Nat) (h34:34<=d.size) (hc:zRz s (zA8 b)) (hg:zHV s (zA8 b).length d m 0 0 st0 v z 0):v=(zFs b.pol d m b.rs:Int):=by
 have hi:=hc.ins;have hlen:(zA8 b).length=3+(zBC b.rs).length+1:=by rw[zA0];simp[zBW];omega
 have hi':∀j x,(zBC b.rs++[⟨0,0,0,0,(b.pol:Int)⟩])[j]? =some x->zAG s (3+j)=x:=fun j x h=>by
  refine hi (3+j) x ?_;rw[zA0,List.append_assoc,List.getElem?_append_right (by simp[zBW])];rw[show 3+j-zBW.length=j by simp[zBW]];exact h
 have i0:zAG s 0=⟨5,1,0,0,0⟩:=hi 0 _ (by rw[zA0];rfl);have i1:zAG s 1=⟨9,1,1,0,34⟩:=hi 1 _ (by rw[zA0];rfl);have o0:=hg.out;rw[i0] at o0;rcases o0 with⟨h,_⟩|⟨_,h,_⟩|⟨_,_,h,_,_,h'⟩|⟨_,_,_,h⟩
 ·omega
 ·exact absurd h (by decide)
 ·exact absurd h'.symm h
 ·have e1:(st0.does d m ⟨5,1,0,0,0⟩)=⟨[0,(d.size:Int),0,0],[false,true,false,false]⟩:=rfl
  have e2:0+1+(st0.over ⟨5,1,0,0,0⟩).toNat=1:=rfl;rw[e1,e2] at h;have o1:=h.out;rw[i1] at o1;rcases o1 with⟨h,_⟩|⟨_,h,_⟩|⟨_,_,h,_,_,h'⟩|⟨_,_,_,h⟩
  ·omega
  ·exact absurd h (by decide)
  ·exact absurd h'.symm h
  ·have g:(⟨[0,(d.size:Int),0,0],[false,true,false,false]⟩:St).goes ⟨9,1,1,0,34⟩=true:=by
    unfold St.goes St.at;rw[if_neg (by decide),if_pos rfl];simp;omega
   rw[zFG _ rfl,zFF _ _ _ rfl,if_pos g] at h;exact zGF s _ d m v z b.pol h34 b.rs 3 _ _ hi' (by omega) ⟨rfl,rfl⟩ h
structure Sat (b:Bool) (z:Nat) (F:Fc):Prop where
 set1:F.set.getD 1 false=true
 long1:F.long.getD 1 false=true
 zero:b=true->F.set.getD 0 false=true
 z:(z:Int)<=F.there
theorem zGs {l m:List Bool} {i:Nat} (h:l.getD i false=true) (g:m.getD i false=true):(List.zipWith (·&&·) l m).getD i false=true:=by
 simp only[List.getD_eq_getElem?_getD,List.getElem?_zipWith] at h g ⊢;cases e1:l[i]? <;>cases e2:m[i]? <;>simp_all
theorem Sat.meet {b:Bool} {z:Nat} {F G:Fc} (h:F.come=true->Sat b z F) (g:Sat b z G):Sat b z (F.meet G):=by
 unfold Fc.meet
 by_cases c:F.come=true
 ·rw[if_pos c]
  have h:=h c;have h4:=h.z;have g4:=g.z;exact⟨zGs h.set1 g.set1,zGs h.long1 g.long1,fun e=>zGs (h.zero e) (g.zero e),by dsimp only;split<;>omega⟩
 ·rw[if_neg c];exact g
theorem Sat.mono {b b':Bool} {z z':Nat} {F:Fc} (h:Sat b z F) (hb:b'=true->b=true) (hz:z'<=z):Sat b' z' F:=⟨h.set1,h.long1,fun e=>h.zero (hb e),by have:=h.z;omega⟩
theorem zMm (l:List Bool) (v:Bool):(l.set 0 v).getD 1 false=l.getD 1 false:=by
 cases l with
 |nil=>rfl
 |cons a l=>cases l<;>rfl
theorem zRf {l:List Bool} (h:l.length=4) (v:Bool):(l.set 0 v).getD 0 false=v:=by
 cases l with
 |nil=>simp at h
 |cons a l=>rfl
theorem Sat.puts {b:Bool} {z:Nat} {F:Fc} (h:Sat b z F) (ok:F.Ok) {x:Ins} (hr:x.r=0) (ho:1<=x.op/\x.op<=4) (w:Nat):Sat true z (F.behind x w):=by
 unfold Fc.behind;rw[if_pos ho,hr];exact⟨by rw[show(0:Int).toNat=0 from rfl,zMm];exact h.set1,by rw[show(0:Int).toNat=0 from rfl,zMm];exact h.long1,fun _=>zRf ok.set true,h.z⟩
theorem Sat.turns {b:Bool} {z:Nat} {F:Fc} (h:Sat b z F) {x:Ins} (hr:x.r=0) (ho:x.op=6) (w:Nat):Sat b z (F.behind x w):=by
 unfold Fc.behind;rw[if_neg (by omega),if_neg (by omega),if_pos (Or.inl ho),hr];exact⟨h.set1,by rw[show(0:Int).toNat=0 from rfl,zMm];exact h.long1,h.zero,h.z⟩
theorem Sat.tests {b:Bool} {z:Nat} {F:Fc} (h:Sat b z F) {x:Ins} (ho:x.op=8\/x.op=9) (w:Nat):Sat b z (F.behind x w):=by
 unfold Fc.behind;rw[if_neg (by omega),if_neg (by omega),if_neg (by omega),if_pos ho];have:=h.z;exact⟨h.set1,h.long1,h.zero,by dsimp only;split<;>omega⟩
theorem Sat.sures {b:Bool} {z:Nat} {F:Fc} (h:Sat b z F) {x:Ins} (hr:x.r=1) (ho:x.op=9) (e:Nat) (he:x.k=(e:Int)):Sat b (zUp z e) (F.behind x 0):=by
 unfold Fc.behind;rw[if_neg (by omega),if_neg (by omega),if_neg (by omega),if_pos (Or.inr ho)];have hz:=h.z;have hl:F.is x=true:=by unfold Fc.is;rw[hr];exact h.long1
 refine⟨h.set1,h.long1,h.zero,?_⟩;dsimp only;rw[he];have hu:zUp z e=if z<e then e else z:=rfl
 by_cases g:F.there<(e:Int)
 ·rw[if_pos ⟨rfl,hl,g⟩,hu];split<;>omega
 ·rw[if_neg (fun q=>g q.2.2),hu];split<;>omega
theorem Sat.fault {b:Bool} {z:Nat} {F:Fc} (h:Sat b z F) {x:Ins} (hu:x.uses=true->(x.r=0/\b=true)\/x.r=1) (hw:x.wide<=z):F.fault x=0:=by
 unfold Fc.fault;have hz:=h.z;have:(x.uses&& !F.has x)=false:=by
  cases e:x.uses with
  |false=>rfl
  |true=>
   have:F.has x=true:=by
    unfold Fc.has;rcases hu e with⟨r0,hb⟩|r1
    ·rw[r0];exact h.zero hb
    ·rw[r1];exact h.set1
   rw[this];rfl
 rw[this,if_neg (by decide),if_neg (by omega)]
def okI:Its->Bool->Nat->Prop
 |[],_,_=>False
 |p::r,b,z=>
  (p.2=0/\p.1.fits=true/\p.1.r=0/\((1<=p.1.op/\p.1.op<=4)\/(p.1.op=6/\b=true))/\p.1.wide<=z/\okI r true z)\/
  ((p.2=1\/p.2=2)/\(p.1.op=8\/p.1.op=9)/\p.1.t=0/\p.1.f=0/\p.1.r=0/\b=true/\okI r b z)\/
  (p.2=1/\p.1.op=9/\p.1.t=0/\p.1.f=0/\p.1.r=1/\∃e:Nat,p.1.k=(e:Int)/\okI r b (zUp z e))\/
  (p.2=3/\p.1.op=0/\p.1.fits=true/\r=[])
theorem zJ4 {r:Its} {b:Bool} {z:Nat} (h:okI r b z):0<r.length:=by
 cases r with
 |nil=>exact h.elim
 |cons p r=>simp
theorem zFI {x:Ins} (ho:x.op=8\/x.op=9) (hr:x.r=0\/x.r=1):x.fits=true:=by
 unfold Ins.fits Ins.branch;rcases ho with h|h<;>rcases hr with g|g<;>simp[h,g]
abbrev Fat (s:ByteArray) (n i j:Nat):Fc:=(zAL s n i).getD j fc0
theorem zFJ {F:List Fc} {j:Nat} {b:Fc} (h:j<F.length):(F.set j b).getD j fc0=b:=by
 simp[List.getD_eq_getElem?_getD,h]
theorem zCU {F:List Fc} {j k:Nat} {b:Fc} (h:j≠k):(F.set j b).getD k fc0=F.getD k fc0:=by
 simp[List.getD_eq_getElem?_getD,List.getElem?_set,h]
structure zMn (s:ByteArray) (n i e:Nat) (b:Bool) (z:Nat):Prop where
 here:(Fat s n i i).come=true->Sat b z (Fat s n i i)
 mid:∀j,i<j->j≠e->(Fat s n i j).come=false
 last:(Fat s n i e).come=true->Sat false 34 (Fat s n i e)
theorem zJ5 {s:ByteArray} {n i:Nat} (h:(Fat s n i i).come=false):zAL s n (i+1)=zAL s n i:=by
 rw[zAL,if_neg]
 show ¬(Fat s n i i).come=true
 rw[h];decide
theorem zFK {s:ByteArray} {n i:Nat} (h:(Fat s n i i).come=true):zAL s n (i+1)=zIn (zAL s n i) (Fat s n i i) (zAG s i) i 0 (zAG s i).overs:=by
 rw[zAL,if_pos h]
theorem zMn.pass {s:ByteArray} {n i e:Nat} {b b':Bool} {z z':Nat} (h:zMn s n i e b z) (hi:i+1<e) (hn:e<n) (hc:(Fat s n i i).come=false):zMn s n (i+1) e b' z':=by
 have e1:=zJ5 hc;refine⟨fun g=> ?_,fun j hj hne=> ?_,fun g=> ?_⟩
 ·unfold Fat at g
  rw[e1] at g;have:=h.mid (i+1) (by omega) (by omega);unfold Fat at this;rw[this] at g;cases g
 ·unfold Fat
  rw[e1];exact h.mid j (by omega) hne
 ·unfold Fat at g ⊢
  rw[e1] at g ⊢;exact h.last g
theorem zJA {F G:Fc} (h:F.come=false):F.meet G=G:=by unfold Fc.meet;rw[if_neg (by rw[h];decide)]
theorem zMn.next {s:ByteArray} {n i e:Nat} {b b':Bool} {z z':Nat} (h:zMn s n i e b z) (hi:i+1<e) (hn:e<n) (ho:(zAG s i).overs=[0]) (hs:(Fat s n i i).come=true->Sat b' z' ((Fat s n i i).behind (zAG s i) 0)):zMn s n (i+1) e b' z':=by
 cases hc:(Fat s n i i).come with
 |false=>exact h.pass hi hn hc
 |true=>
  have e1:=zFK hc;rw[ho] at e1;have hl:(zAL s n i).length=n:=zCk s n i;have e2:zAL s n (i+1)=(zAL s n i).set (i+1) ((Fat s n i i).behind (zAG s i) 0):=by
   rw[e1,zIn,zIn,show(0:Int).toNat=0 from rfl,Nat.add_zero]
   congr 1
   exact zJA (h.mid (i+1) (by omega) (by omega))
  refine⟨fun _=> ?_,fun j hj hne=> ?_,fun g=> ?_⟩
  ·unfold Fat
   rw[e2,zFJ (by omega)];exact hs hc
  ·unfold Fat
   rw[e2,zCU (by omega)];exact h.mid j (by omega) hne
  ·unfold Fat at g ⊢
   rw[e2,zCU (by omega)] at g ⊢;exact h.last g
theorem zMn.two {s:ByteArray} {n i e:Nat} {b b':Bool} {z z':Nat} (h:zMn s n i e b z) (hi:i+1<e) (hn:e<n) (t f:Int) (ho:(zAG s i).overs=[t,f]) (w:Nat)
 (hw:(w=0/\t=0/\i+1+f.toNat=e)\/(w=1/\f=0/\i+1+t.toNat=e))
 (hs:(Fat s n i i).come=true->Sat b' z' ((Fat s n i i).behind (zAG s i) w)) (hz:34<=z) (hx:(zAG s i).op=8\/(zAG s i).op=9):zMn s n (i+1) e b' z':=by
 cases hc:(Fat s n i i).come with
 |false=>exact h.pass hi hn hc
 |true=>
  have e1:=zFK hc;rw[ho] at e1;have hl:(zAL s n i).length=n:=zCk s n i;have hbe:∀w,Sat false 34 ((Fat s n i i).behind (zAG s i) w):=fun w=>((h.here hc).tests hx w).mono (fun q=>by cases q) hz
  have hm:=h.mid (i+1) (by omega) (by omega);have hlast:∀w,Sat false 34 ((Fat s n i e).meet ((Fat s n i i).behind (zAG s i) w)):=fun w=>Sat.meet h.last (hbe w)
  rcases hw with⟨rfl,rfl,he⟩|⟨rfl,rfl,he⟩
  ·have e2:zAL s n (i+1)=((zAL s n i).set (i+1) ((Fat s n i i).behind (zAG s i) 0)).set e ((Fat s n i e).meet ((Fat s n i i).behind (zAG s i) 1)):=by
    rw[e1,zIn,zIn,zIn,show(0:Int).toNat=0 from rfl,Nat.add_zero,he,zJA hm,zCU (by omega)]
   refine⟨fun _=> ?_,fun j hj hne=> ?_,fun g=> ?_⟩
   ·unfold Fat
    rw[e2,zCU (by omega),zFJ (by omega)];exact hs hc
   ·unfold Fat
    rw[e2,zCU (by omega),zCU (by omega)];exact h.mid j (by omega) hne
   ·unfold Fat
    rw[e2,zFJ (by simp;omega)];exact hlast 1
  ·have e2:zAL s n (i+1)=((zAL s n i).set e ((Fat s n i e).meet ((Fat s n i i).behind (zAG s i) 0))).set (i+1) ((Fat s n i i).behind (zAG s i) 1):=by
    rw[e1,zIn,zIn,zIn,show(0:Int).toNat=0 from rfl,Nat.add_zero,he,zCU (by omega),zJA hm]
   refine⟨fun _=> ?_,fun j hj hne=> ?_,fun g=> ?_⟩
   ·unfold Fat
    rw[e2,zFJ (by simp;omega)];exact hs hc
   ·unfold Fat
    rw[e2,zCU (by omega),zCU (by omega)];exact h.mid j (by omega) hne
   ·unfold Fat
    rw[e2,zCU (by omega),zFJ (by omega)];exact hlast 0
structure zFL (s:ByteArray) (n j:Nat):Prop where
 fits:(zAG s j).fits=true
 jump:zOE s n j=false
 uses:zOF s n j=0
theorem zCR {s:ByteArray} {n i:Nat} (hf:(zAG s i).fits=true) (hj:∀o ∈ (zAG s i).overs,i+1+o.toNat<n) (hu:(Fat s n i i).come=true->(Fat s n i i).fault (zAG s i)=0):zFL s n i:=by
 refine⟨hf,?_,?_⟩
 ·unfold zOE
  rw[List.any_eq_false];intro o ho;have:=hj o ho;have:=Ins.overs_bd (zDC s i) o ho;simp only[decide_eq_true_eq];omega
 ·unfold zOF
  split
  ·rename_i g;exact hu g
  ·rfl
theorem zFM (s:ByteArray) (n:Nat):∀(its:Its) (i:Nat) (b:Bool) (z:Nat),(∀j x,(zB5 its)[j]? =some x->zAG s (i+j)=x)->okI its b z->34<=z->i+its.length<n->zMn s n i (i+its.length) b z->
 (∀j,i<=j->j<i+its.length->zFL s n j)/\((Fat s n (i+its.length) (i+its.length)).come=true->Sat false 34 (Fat s n (i+its.length) (i+its.length)))/\∀j,i+its.length<j->(Fat s n (i+its.length) j).come=false
 |[],i,b,z,_,hok,_,_,_=>hok.elim
 |p::r,i,b,z,hp,hok,hz,hn,hI=>by
  obtain⟨x,k⟩:=p;have hx:zAG s i=zCb x k r.length:=hp 0 _ (by simp[zB5]);have hr:∀j x,(zB5 r)[j]? =some x->zAG s (i+1+j)=x:=fun j x h=>by
   rw[show i+1+j=i+(j+1) by omega];exact hp (j+1) x (by simpa[zB5] using h)
  have hl:((x,k)::r).length=r.length+1:=rfl;rw[hl,show i+(r.length+1)=i+1+r.length by omega] at hI ⊢;rw[hl] at hn;have go:∀b' z',okI r b' z'->34<=z'->zMn s n (i+1) (i+1+r.length) b' z'->zFL s n i->(∀j,i<=j->j<i+1+r.length->zFL s n j)/\((Fat s n (i+1+r.length) (i+1+r.length)).come=true->Sat false 34 (Fat s n (i+1+r.length) (i+1+r.length)))/\∀j,i+1+r.length<j->(Fat s n (i+1+r.length) j).come=false:=fun b' z' ho hz' hI' hk=>by
   obtain⟨h1,h2⟩:=zFM s n r (i+1) b' z' hr ho hz' (by omega) hI';refine⟨fun j hj hj2=> ?_,h2⟩
   by_cases e:j=i
   ·subst e;exact hk
   ·exact h1 j (by omega) hj2
  rcases hok with⟨hk,hf,h0,ho,hw,hok⟩|⟨hk,ho,ht,hf,h0,hb,hok⟩|⟨hk,ho,ht,hf,h1,e,he,hok⟩|⟨hk,ho,hf,hnil⟩
  ·dsimp only at hk hf h0 ho hw
   subst hk;have hx:zAG s i=x:=hx;have hov:(zAG s i).overs=[0]:=by
    rw[hx];unfold Ins.overs;rw[if_neg (by omega),if_neg (by omega),zHm (by omega)];rfl
   have hlen:=zJ4 hok;refine go true z hok hz (hI.next (by omega) (by omega) hov (fun g=> ?_)) (zCR (by rw[hx];exact hf) (by rw[hov];simp;omega) (fun g=> ?_))
   ·rw[hx]
    rcases ho with ho|⟨ho,hb⟩
    ·exact(hI.here g).puts (zIo (zKa s n i) i) h0 ho 0
    ·exact((hI.here g).turns h0 ho 0).mono (fun _=>hb) (Nat.le_refl _)
   ·rw[hx]
    refine(hI.here g).fault (fun hu=> ?_) hw;rcases ho with ho|⟨ho,hb⟩
    ·exfalso
     unfold Ins.uses Ins.branch at hu;simp only[Bool.or_eq_true,beq_iff_eq] at hu;omega
    ·exact Or.inl ⟨h0,hb⟩
  ·dsimp only at hk ho ht hf h0
   have hlen:=zJ4 hok;have e1:(zCb x k r.length).op=x.op:=by unfold zCb;split;rfl;split<;>rfl
   have e2:(zCb x k r.length).r=x.r:=by unfold zCb;split;rfl;split<;>rfl
   have hbr:(zCb x k r.length).branch=true:=by unfold Ins.branch;rw[e1];rcases ho with h|h<;>simp[h]
   have hov:(zAG s i).overs=[(zCb x k r.length).t,(zCb x k r.length).f]:=by
    rw[hx];unfold Ins.overs;rw[if_neg (by omega),if_neg (by omega),if_pos hbr]
   have hwd:(zCb x k r.length).wide=0:=by unfold Ins.wide;rw[if_neg (by omega),if_neg (by omega),if_neg (by omega)]
   have hkp:zFL s n i:=zCR (by rw[hx];exact zFI (by omega) (by omega)) (fun o h=>by
    rw[hov] at h;simp only[List.mem_cons,List.not_mem_nil,or_false] at h;rcases hk with rfl|rfl
    ·have a1:(zCb x 1 r.length).t=0:=ht
     have a2:(zCb x 1 r.length).f=(r.length:Int):=rfl;rw[a1,a2] at h;omega
    ·have a1:(zCb x 2 r.length).f=0:=hf
     have a2:(zCb x 2 r.length).t=(r.length:Int):=rfl;rw[a1,a2] at h;omega) (fun g=>by
    rw[hx];exact(hI.here g).fault (fun _=>Or.inl ⟨by omega,hb⟩) (by omega))
   rcases hk with rfl|rfl
   ·refine go b z hok hz (hI.two (by omega) (by omega) _ _ hov 0 (Or.inl ⟨rfl,ht,?_⟩) (fun g=>(hI.here g).tests (by rw[hx];omega) 0) hz (by rw[hx];omega)) hkp
    have a2:(zCb x 1 r.length).f=(r.length:Int):=rfl;rw[a2];omega
   ·refine go b z hok hz (hI.two (by omega) (by omega) _ _ hov 1 (Or.inr ⟨rfl,hf,?_⟩) (fun g=>(hI.here g).tests (by rw[hx];omega) 1) hz (by rw[hx];omega)) hkp
    have a2:(zCb x 2 r.length).t=(r.length:Int):=rfl;rw[a2];omega
  ·dsimp only at hk ho ht hf h1 he
   subst hk;have hlen:=zJ4 hok;have e1:(zCb x 1 r.length).op=9:=ho;have e2:(zCb x 1 r.length).r=1:=h1;have e3:(zCb x 1 r.length).t=0:=ht;have e4:(zCb x 1 r.length).f=(r.length:Int):=rfl;have e5:(zCb x 1 r.length).k=(e:Int):=he;have hbr:(zCb x 1 r.length).branch=true:=by unfold Ins.branch;rw[e1];rfl
   have hov:(zAG s i).overs=[0,(r.length:Int)]:=by
    rw[hx];unfold Ins.overs;rw[if_neg (by omega),if_neg (by omega),if_pos hbr,e3,e4]
   have hwd:(zCb x 1 r.length).wide=0:=by unfold Ins.wide;rw[if_neg (by omega),if_neg (by omega),if_neg (by omega)]
   refine go b (zUp z e) hok (by unfold zUp;split<;>omega) (hI.two (by omega) (by omega) _ _ hov 0 (Or.inl ⟨rfl,rfl,by omega⟩) (fun g=> ?_) hz (by rw[hx];omega)) (zCR (by rw[hx];exact zFI (by omega) (by omega)) (fun o h=> ?_) (fun g=> ?_))
   ·rw[hx];exact(hI.here g).sures e2 e1 e e5
   ·rw[hov] at h
    simp only[List.mem_cons,List.not_mem_nil,or_false] at h;omega
   ·rw[hx];exact(hI.here g).fault (fun _=>Or.inr e2) (by omega)
  ·dsimp only at hk ho hf hnil
   subst hk hnil;have hx:zAG s i=x:=hx;have hov:(zAG s i).overs=[]:=by rw[hx];unfold Ins.overs;rw[if_pos ho]
   have hfe:zAL s n (i+1)=zAL s n i:=by
    cases hc:(Fat s n i i).come with
    |false=>exact zJ5 hc
    |true=>rw[zFK hc,hov];rfl
   have hwd:x.wide=0:=by unfold Ins.wide;rw[if_neg (by omega),if_neg (by omega),if_neg (by omega)]
   have hus:x.uses=false:=by
    unfold Ins.uses Ins.branch;rw[ho];rfl
   have hkp:zFL s n i:=zCR (by rw[hx];exact hf) (by rw[hov];intro o h;cases h) (fun g=>by
    rw[hx];exact(hI.here g).fault (fun q=>by rw[hus] at q;cases q) (by omega))
   have hI1:=hI.last;have hI2:=hI.mid;rw[List.length_nil,Nat.add_zero] at hI1 hI2 ⊢;refine⟨fun j hj hj2=> ?_,fun g=> ?_,fun j hj=> ?_⟩
   ·obtain rfl:j=i:=by omega
    exact hkp
   ·unfold Fat at g hI1 ⊢
    rw[hfe] at g ⊢;exact hI1 g
   ·unfold Fat
    rw[hfe];exact hI2 j (by omega) (by omega)
theorem zMo {o k:Int} {b:Bool} {z:Nat} {r:Its} (hf:(⟨o,0,0,0,k⟩:Ins).fits=true) (ho:(1<=o/\o<=4)\/(o=6/\b=true)) (hw:(⟨o,0,0,0,k⟩:Ins).wide<=z) (h:okI r true z):okI ((⟨o,0,0,0,k⟩,0)::r) b z:=Or.inl ⟨rfl,hf,rfl,ho,hw,h⟩
theorem zQL {o k:Int} {z:Nat} {r:Its} (ho:o=8\/o=9) (h:okI r true z):okI ((⟨o,0,0,0,k⟩,1)::r) true z:=Or.inr (Or.inl ⟨Or.inl rfl,ho,rfl,rfl,rfl,rfl,h⟩)
theorem zR0 {o k:Int} {z:Nat} {r:Its} (ho:o=8\/o=9) (h:okI r true z):okI ((⟨o,0,0,0,k⟩,2)::r) true z:=Or.inr (Or.inl ⟨Or.inr rfl,ho,rfl,rfl,rfl,rfl,h⟩)
theorem zED {b:Bool} {z:Nat} (e:Nat) {r:Its} (h:okI r b (zUp z e)):okI (zBy z e++r) b z:=by
 unfold zBy
 by_cases g:z<e
 ·rw[if_pos g]
  exact Or.inr (Or.inr (Or.inl ⟨rfl,rfl,rfl,rfl,rfl,e,rfl,h⟩))
 ·rw[if_neg g]
  unfold zUp at h;rw[if_neg g] at h;exact h
theorem zQM {z:Nat} {r:Its} (h:okI r true z):∀(l:List Bool) (i:Nat),okI (stI l i++r) true z
 |[],i=>h
 |b::l,i=>by
  rw[stI];cases b with
  |true=>exact zQM h l (i+1)
  |false=>exact zR0 (Or.inl rfl) (zQM h l (i+1))
theorem zGG (z e:Nat):e<=zUp z e/\z<=zUp z e:=by unfold zUp;split<;>omega
theorem zQN (i:Nat) (v:List Nat) (z:Nat) (r:Its) (b:Bool) (h:okI r true (zUp z (zHE i))):okI (zEm i v z++r) b z:=by
 unfold zHE at h;unfold zEm
 by_cases i0:i=0
 ·subst i0
  simp only[if_pos,if_neg,show ¬(0:Nat)=1 by decide,show ¬(0:Nat)=2 by decide,show ¬(0:Nat)=3 by decide,show ¬(0:Nat)=4 by decide,show ¬(0:Nat)=5 by decide,show ¬(0:Nat)=6 by decide,if_false,zOX] at h;exact zMo rfl (Or.inl (by decide)) (by show(0:Int)<=_;omega) (zQL (Or.inl rfl) h)
 by_cases i1:i=1
 ·subst i1
  have h:okI r true (zUp z 30):=h;have g:=zGG z 30
  show okI ((zBy z 30++_)++r) b z
  rw[List.append_assoc];exact zED 30 (zMo rfl (Or.inl (by decide)) (by show(30:Int)<=_;omega) (zMo rfl (Or.inr ⟨rfl,rfl⟩) (by show(0:Int)<=_;omega) (zQL (Or.inl rfl) h)))
 by_cases i2:i=2
 ·subst i2
  have h:okI r true (zUp z 34):=h;have g:=zGG z 34
  show okI ((zBy z 34++_)++r) b z
  rw[List.append_assoc];exact zED 34 (zMo rfl (Or.inl (by decide)) (by show(34:Int)<=_;omega) (zMo rfl (Or.inr ⟨rfl,rfl⟩) (by show(0:Int)<=_;omega) (zQL (Or.inl rfl) h)))
 by_cases i3:i=3
 ·subst i3
  have h:okI r true (zUp z 24):=h;have g:=zGG z 24
  show okI ((zBy z 24++_)++r) b z
  rw[List.append_assoc];exact zED 24 (zMo rfl (Or.inl (by decide)) (by show(24:Int)<=_;omega) (zQL (Or.inl rfl) h))
 by_cases i4:i=4
 ·subst i4
  have h:okI r true (zUp z 36):=h;have g:=zGG z 36
  show okI ((zBy z 36++_)++r) b z
  rw[List.append_assoc];exact zED 36 (zMo rfl (Or.inl (by decide)) (by show(36:Int)<=_;omega) (zQL (Or.inr rfl) (zR0 (Or.inr rfl) h)))
 by_cases i5:i=5
 ·subst i5
  have h:okI r true (zUp z 38):=h;have g:=zGG z 38
  show okI ((zBy z 38++_)++r) b z
  rw[List.append_assoc];exact zED 38 (zMo rfl (Or.inl (by decide)) (by show(38:Int)<=_;omega) (zQL (Or.inr rfl) (zR0 (Or.inr rfl) h)))
 by_cases i6:i=6
 ·subst i6
  have h:okI r true (zUp z 48):=h;have g:=zGG z 48
  show okI ((zBy z 48++_)++r) b z
  rw[List.append_assoc];exact zED 48 (zMo rfl (Or.inl (by decide)) (by show(48:Int)<=_;omega) (zMo rfl (Or.inr ⟨rfl,rfl⟩) (by show(0:Int)<=_;omega) (zQL (Or.inl rfl) h)))
 ·rw[if_neg i1,if_neg i2,if_neg i3,if_neg i4,if_neg i5,if_neg i6,zOX] at h
  rw[if_neg i0,if_neg i1,if_neg i2,if_neg i3,if_neg i4,if_neg i5,if_neg i6,List.append_assoc];exact zMo rfl (Or.inl (by decide)) (by show(0:Int)<=_;omega) (zR0 (Or.inr rfl) (zQM h _ _))
theorem zRg (u:Nat) (hu:u<=2) (b:Bool) (z:Nat):okI [(⟨0,0,0,0,(u:Int)⟩,3)] b z:=by
 refine Or.inr (Or.inr (Or.inr ⟨rfl,rfl,?_,rfl⟩));unfold Ins.fits;simp;omega
theorem zGt (cs:Cs) (u:Nat) (hu:u<=2):∀(n i z:Nat) (b:Bool),okI (zBu cs n i z++[(⟨0,0,0,0,(u:Int)⟩,3)]) b z
 |0,i,z,b=>zRg u hu b z
 |n+1,i,z,b=>by
  rw[zBu];cases e:cs.getD i none with
  |none=>exact zGt cs u hu n (i+1) z b
  |some v=>
   dsimp only;rw[List.append_assoc];exact zQN i v z _ b (zGt cs u hu n (i+1) _ true)
theorem zFN (s:ByteArray) (n:Nat) (pol:Nat) (hpol:pol<=2):∀(l:List Rl) (i:Nat),(∀r ∈ l,r.v<=2)->(∀j x,(zBC l++[⟨0,0,0,0,(pol:Int)⟩])[j]? =some x->zAG s (i+j)=x)->i+(zBC l).length+1=n->
 ((Fat s n i i).come=true->Sat false 34 (Fat s n i i))->(∀j,i<j->(Fat s n i j).come=false)->∀j,i<=j->j<n->zFL s n j
 |[],i,_,hp,hn,h1,h2,j,hj,hj2=>by
  simp[zBC] at hn;obtain rfl:j=i:=by omega
  have hx:zAG s j=⟨0,0,0,0,(pol:Int)⟩:=hp 0 _ (by simp[zBC]);refine zCR ?_ (by rw[hx];intro o h;cases h) (fun g=> ?_)
  ·rw[hx];unfold Ins.fits;simp;omega
  ·rw[hx];exact(h1 g).fault (fun q=>by cases q) (by show(0:Int)<=_;omega)
 |r::l,i,hv,hp,hn,h1,h2,j,hj,hj2=>by
  rw[zBC,List.append_assoc] at hp;rw[zBC,List.length_append,zCF] at hn;have p1:∀j x,(zB5 (zCc r))[j]? =some x->zAG s (i+j)=x:=fun j x h=>by
   refine hp j x ?_;rw[List.getElem?_append_left]
   ·exact h
   ·exact(List.getElem?_eq_some_iff.1 h).1
  have p2:∀j x,(zBC l++[⟨0,0,0,0,(pol:Int)⟩])[j]? =some x->zAG s (i+(zCc r).length+j)=x:=fun j x h=>by
   rw[Nat.add_assoc];refine hp _ x ?_;rw[List.getElem?_append_right (by rw[zCF];omega),zCF,show(zCc r).length+j-(zCc r).length=j by omega];exact h
  have hok:okI (zCc r) false 34:=zGt r.cs r.v (hv r (List.mem_cons_self ..)) 8 0 34 false;have hlen:=zJ4 hok;obtain⟨k1,k2,k3⟩:=zFM s n (zCc r) i false 34 p1 hok (Nat.le_refl _) (by omega) ⟨h1,fun j hj _=>h2 j hj,fun g=>by have:=h2 (i+(zCc r).length) (by omega);rw[this] at g;cases g⟩
  by_cases e:j<i+(zCc r).length
  ·exact k1 j hj e
  ·exact zFN s n pol hpol l (i+(zCc r).length) (fun r hr=>hv r (List.mem_cons_of_mem _ hr)) p2 (by omega) k2 k3 j (by omega) hj2
theorem zHo (s:ByteArray) (b:Bk) (hg:zBr b) (hc:zRz s (zA8 b)):zR3 s (zA8 b).length:=by
 have hi:=hc.ins;have hlen:(zA8 b).length=3+(zBC b.rs).length+1:=by rw[zA0];simp[zBW];omega
 have hi':∀j x,(zBC b.rs++[⟨0,0,0,0,(b.pol:Int)⟩])[j]? =some x->zAG s (3+j)=x:=fun j x h=>by
  refine hi (3+j) x ?_;rw[zA0,List.append_assoc,List.getElem?_append_right (by simp[zBW])];rw[show 3+j-zBW.length=j by simp[zBW]];exact h
 have i0:zAG s 0=⟨5,1,0,0,0⟩:=hi 0 _ (by rw[zA0];rfl);have i1:zAG s 1=⟨9,1,1,0,34⟩:=hi 1 _ (by rw[zA0];rfl);have i2:zAG s 2=⟨0,0,0,0,0⟩:=hi 2 _ (by rw[zA0];rfl);have hle:(zA8 b).length<=4000:=by
  have h1:=zGD b.rs ⟨zBW,[],[],0⟩;have h2:=hg.len;have h3:(zA8 b).length=(zBg b.rs ⟨zBW,[],[],0⟩).L.length+1:=by unfold zA8 zJ0;simp[Cod.add]
  simp only[show zBW.length=3 from rfl] at h1;omega
 obtain⟨n,hn⟩:∃n,(zA8 b).length=n+4:=⟨(zBC b.rs).length,by omega⟩;have a0:⟨true,[false,false,false,false],[false,false,false,false],0⟩=Fat s (n+4) 0 0:=rfl;have f0:zAL s (n+4) 0=⟨true,[false,false,false,false],[false,false,false,false],0⟩::fc0::fc0::fc0::List.replicate n fc0:=rfl;have f1:zAL s (n+4) 1=⟨true,[false,false,false,false],[false,false,false,false],0⟩::⟨true,[false,true,false,false],[false,true,false,false],0⟩::fc0::fc0::List.replicate n fc0:=by
  rw[zAL,f0,i0];rfl
 have f2:zAL s (n+4) 2=⟨true,[false,false,false,false],[false,false,false,false],0⟩::⟨true,[false,true,false,false],[false,true,false,false],0⟩::⟨true,[false,true,false,false],[false,true,false,false],0⟩::⟨true,[false,true,false,false],[false,true,false,false],34⟩::List.replicate n fc0:=by
  rw[zAL,f1,i1];rfl
 have f3:zAL s (n+4) 3=zAL s (n+4) 2:=by
  rw[zAL,f2,i2];rfl
 have k0:zFL s (n+4) 0:=zCR (by rw[i0];decide) (by rw[i0];show ∀o ∈ [(0:Int)],_;simp) (fun _=>by unfold Fat;rw[f0,i0];rfl);have k1:zFL s (n+4) 1:=zCR (by rw[i1];decide) (by rw[i1];show ∀o ∈ [(1:Int),0],_;simp) (fun _=>by unfold Fat;rw[f1,i1];rfl);have k2:zFL s (n+4) 2:=zCR (by rw[i2];decide) (by rw[i2];show ∀o ∈ ([]:List Int),_;simp) (fun _=>by unfold Fat;rw[f2,i2];rfl);have kr:=zFN s (n+4) b.pol hg.pol b.rs 3 (fun r hr=>(hg.rs r hr).v) hi' (by omega)
  (fun _=>by unfold Fat;rw[f3,f2];exact⟨rfl,rfl,(fun q=>by cases q),(by show(34:Int)<=34;decide)⟩)
  (fun j hj=>by
    unfold Fat;rw[f3,f2];obtain⟨i,rfl⟩:∃i,j=i+4:=⟨j-4,by omega⟩
    show((List.replicate n fc0).getD i fc0).come=false
    rw[List.getD_eq_getElem?_getD,List.getElem?_replicate]
    split<;>rfl)
 have all:∀j,j<n+4->zFL s (n+4) j:=fun j hj=>by
  rcases j with _|_|_|j
  ·exact k0
  ·exact k1
  ·exact k2
  ·exact kr (j+3) (by omega) hj
 rw[hn];exact⟨⟨⟨⟨hc.size.trans (by rw[hn]),by omega,by omega⟩,fun i hi=>(all i hi).fits⟩,fun i hi=>(all i hi).jump⟩,fun i hi=>(all i hi).uses⟩
def zOZ (x:Ins):List Int:=[x.op,x.r,x.t,x.f,x.k / 16777216,x.k / 65536 % 256,x.k / 256 % 256,x.k % 256]
def zFO:List Ins->List Int
 |[]=>[]
 |x::l=>zOZ x++zFO l
theorem zMp:∀L:List Ins,zDN L=(zFO L).map (Value.int .u8)
 |[]=>rfl
 |x::l=>by rw[zDN,zFO,zMp l,List.map_append];rfl
theorem zFP:∀(l:List Ins),(zFO l).length=8*l.length
 |[]=>rfl
 |x::l=>by simp[zFO,zOZ,zFP l];omega
theorem zFQ:∀(L:List Ins),(∀x ∈ L,x.Bd)->Byt (zFO L)
 |[],_=>fun x hx=>by cases hx
 |x::l,h=>by
  have hx:=h x (List.mem_cons_self ..);have h1:=hx.op;have h2:=hx.r;have h3:=hx.t;have h4:=hx.f;have h5:=hx.k;refine Byt.append ?_ (zFQ l (fun y hy=>h y (List.mem_cons_of_mem _ hy)));intro y hy;simp only[zOZ,List.mem_cons,List.not_mem_nil,or_false] at hy;omega
theorem zJ6:∀(L:List Ins) (j c:Nat) (x:Ins),L[j]? =some x->c<8->(zFO L).getD (8*j+c) 0=(zOZ x).getD c 0
 |[],j,c,x,h,_=>by simp at h
 |y::l,0,c,x,h,hc=>by
  simp only[List.getElem?_cons_zero,Option.some.injEq] at h;subst h;rw[zFO,Nat.mul_zero,Nat.zero_add,List.getD_eq_getElem?_getD,List.getD_eq_getElem?_getD,List.getElem?_append_left (by simp[zOZ];omega)]
 |y::l,j+1,c,x,h,hc=>by
  have ih:=zJ6 l j c x (by simpa using h) hc;rw[List.getD_eq_getElem?_getD] at ih ⊢;rw[zFO,List.getElem?_append_right (by simp[zOZ];omega),show 8*(j+1)+c-(zOZ y).length=8*j+c by simp[zOZ];omega];exact ih
def zBl (L:List Ins):ByteArray:=ofL (zFO L)
theorem zQO (L:List Ins) (h:∀x ∈ L,x.Bd):zRz (zBl L) L:=by
 refine⟨by unfold zBl;rw[zGe,zFP],fun i x hx=> ?_⟩;have hB:=zFQ L h;have hb:=h x (List.mem_of_getElem? hx);have hk:=hb.k;have at_:∀c,c<8->nth (zBl L) (8*i+c)=(zOZ x).getD c 0:=fun c hc=>by
  unfold zBl;rw[zLw _ hB,zJ6 L i c x hx hc]
 have e0:nth (zBl L) (8*i)=x.op:=at_ 0 (by decide);have e1:nth (zBl L) (8*i+1)=x.r:=at_ 1 (by decide);have e2:nth (zBl L) (8*i+2)=x.t:=at_ 2 (by decide);have e3:nth (zBl L) (8*i+3)=x.f:=at_ 3 (by decide);have e4:nth (zBl L) (8*i+4)=x.k / 16777216:=at_ 4 (by decide);have e5:nth (zBl L) (8*i+4+1)=x.k / 65536 % 256:=at_ 5 (by decide);have e6:nth (zBl L) (8*i+4+2)=x.k / 256 % 256:=at_ 6 (by decide);have e7:nth (zBl L) (8*i+4+3)=x.k % 256:=at_ 7 (by decide);have ek:zAB (zBl L) (8*i+4) 4=x.k:=by
  rw[zEy,zEy,zEy,zEy,zPa,Nat.add_zero,e4,e5,e6,e7];omega
 unfold zAG;rw[e0,e1,e2,e3,ek]
structure Bd0 (x:Ins):Prop where
 op:0<=x.op/\x.op<=255
 r:0<=x.r/\x.r<=255
 t:x.t=0
 f:x.f=0
 k:0<=x.k/\x.k<=4294967295
theorem bd0 {o r k:Int} (ho:0<=o/\o<=255) (hr:0<=r/\r<=255) (hk:0<=k/\k<=4294967295):Bd0 ⟨o,r,0,0,k⟩:=⟨ho,hr,rfl,rfl,hk⟩
def zA1 (l:Its):Prop:=∀p ∈ l,Bd0 p.1
theorem zA1.append {a b:Its} (ha:zA1 a) (hb:zA1 b):zA1 (a++b):=fun p hp=>by
 rcases List.mem_append.1 hp with h|h
 ·exact ha p h
 ·exact hb p h
theorem zA1.nil:zA1 []:=fun p hp=>by cases hp
theorem zA1.cons {p:Ins×Nat} {l:Its} (h:Bd0 p.1) (hl:zA1 l):zA1 (p::l):=fun q hq=>by
 rcases List.mem_cons.1 hq with h1|h1
 ·subst h1;exact h
 ·exact hl q h1
theorem zJ7:∀(l:Its),zA1 l->l.length<=255->∀x ∈ zB5 l,x.Bd
 |[],_,_,x,hx=>by cases hx
 |p::r,h,hl,x,hx=>by
  rw[zB5] at hx;have hr:r.length<=254:=by simp at hl;omega
  rcases List.mem_cons.1 hx with h1|h1
  ·subst h1
   have hb:=h p (List.mem_cons_self ..);have a1:=hb.op;have a2:=hb.r;have a3:=hb.t;have a4:=hb.f;have a5:=hb.k;unfold zCb
   split
   ·exact⟨a1,a2,by show 0<=p.1.t/\p.1.t<=255;omega,by show 0<=(r.length:Int)/\(r.length:Int)<=255;omega,a5⟩
   ·split
    ·exact⟨a1,a2,by show 0<=(r.length:Int)/\(r.length:Int)<=255;omega,by show 0<=p.1.f/\p.1.f<=255;omega,a5⟩
    ·exact⟨a1,a2,by omega,by omega,a5⟩
  ·exact zJ7 r (fun q hq=>h q (List.mem_cons_of_mem _ hq)) (by omega) x h1
theorem zGu (z e:Nat) (he:e<=100):zA1 (zBy z e)/\(zBy z e).length<=1:=by
 unfold zBy
 split
 ·exact⟨zA1.cons (bd0 (by decide) (by decide) (by omega)) zA1.nil,by simp⟩
 ·exact⟨zA1.nil,by simp⟩
theorem zRh:∀(l:List Bool) (i:Nat),i+l.length<=100->zA1 (stI l i)/\(stI l i).length<=l.length
 |[],i,_=>⟨zA1.nil,Nat.le_refl _⟩
 |b::r,i,h=>by
  rw[stI];simp only[List.length_cons] at h;obtain⟨h1,h2⟩:=zRh r (i+1) (by omega);cases b with
  |true=>exact⟨h1,by simp;omega⟩
  |false=>exact⟨zA1.cons (bd0 (by decide) (by decide) (by omega)) h1,by simp;omega⟩
theorem zOa (n:Nat):0<=(zAb n:Int)/\(zAb n:Int)<=4294967295:=by
 unfold zAb;have:0<2 ^ (32-n):=Nat.two_pow_pos _;omega
theorem zQP (i:Nat) (hi:i<8) (v:List Nat) (hg:zJj i v) (z:Nat):zA1 (zEm i v z)/\(zEm i v z).length<=5:=by
 have net:∀a:Nat,a<=90->v.getD 0 0<4294967296->zA1 (zPi z a v)/\(zPi z a v).length<=5:=fun a ha h=>by
  unfold zPi;have h1:=zGu z (a+4) (by omega);have h2:=zOa (v.getD 1 0);refine⟨h1.1.append (zA1.cons (bd0 (by decide) (by decide) (by omega)) (zA1.cons (bd0 (by decide) (by decide) h2) (zA1.cons (bd0 (by decide) (by decide) (by unfold n0;omega)) zA1.nil))),?_⟩;rw[List.length_append];simp only[List.length_cons,List.length_nil];omega
 have port:∀a:Nat,a<=90->v.getD 0 0<=65535->v.getD 1 0<=65535->zA1 (zHl z a v)/\(zHl z a v).length<=5:=fun a ha h g=>by
  unfold zHl;have h1:=zGu z (a+2) (by omega);refine⟨h1.1.append (zA1.cons (bd0 (by decide) (by decide) (by omega)) (zA1.cons (bd0 (by decide) (by decide) (by unfold n0;omega)) (zA1.cons (bd0 (by decide) (by decide) (by unfold n0;omega)) zA1.nil))),?_⟩;rw[List.length_append];simp only[List.length_cons,List.length_nil];omega
 rcases i with _|_|_|_|_|_|_|_|i
 ·obtain⟨n,rfl,hn⟩:=hg
  exact⟨zA1.cons (bd0 (by decide) (by decide) (by decide)) (zA1.cons (bd0 (by decide) (by decide) (by show 0<=(n:Int)/\(n:Int)<=4294967295;omega)) zA1.nil),by simp[zEm]⟩
 ·obtain⟨a,n,rfl,ha,hn,_⟩:=hg
  exact net 26 (by decide) ha
 ·obtain⟨a,n,rfl,ha,hn,_⟩:=hg
  exact net 30 (by decide) ha
 ·have h1:=zGu z 24 (by decide)
  have hv:v.getD 0 0<=255:=by rcases hg with rfl|rfl|rfl<;>decide
  refine⟨h1.1.append (zA1.cons (bd0 (by decide) (by decide) (by decide)) (zA1.cons (bd0 (by decide) (by decide) (by unfold n0;omega)) zA1.nil)),?_⟩
  show(zBy z 24++_).length<=5
  rw[List.length_append];simp only[List.length_cons,List.length_nil];omega
 ·obtain⟨a,b,rfl,hab,hb⟩:=hg
  exact port 34 (by decide) (by show a<=65535;omega) hb
 ·obtain⟨a,b,rfl,hab,hb⟩:=hg
  exact port 36 (by decide) (by show a<=65535;omega) hb
 ·obtain⟨m,s,rfl,hm,hsm⟩:=hg
  have h1:=zGu z 48 (by decide);have hs:=zHQ _ _ hsm;refine⟨h1.1.append (zA1.cons (bd0 (by decide) (by decide) (by decide)) (zA1.cons (bd0 (by decide) (by decide) (by show 0<=(m:Int)/\(m:Int)<=4294967295;omega)) (zA1.cons (bd0 (by decide) (by decide) (by show 0<=(s:Int)/\(s:Int)<=4294967295;omega)) zA1.nil))),?_⟩
  show(zBy z 48++_).length<=5
  rw[List.length_append];simp only[List.length_cons,List.length_nil];omega
 ·have h1:=zRh [v.getD 0 0 == 1,v.getD 1 0 == 1,v.getD 2 0 == 1] 0 (by simp)
  refine⟨(zA1.cons (bd0 (by decide) (by decide) (by decide)) (zA1.cons (bd0 (by decide) (by decide) (by decide)) zA1.nil)).append h1.1,?_⟩
  show([_,_]++stI _ 0).length<=5
  rw[List.length_append];have:=h1.2;simp only[List.length_cons,List.length_nil] at this ⊢;omega
 ·omega
theorem zGv (cs:Cs) (hg:∀c v,cs.getD c none=some v->zJj c v):∀(n i z:Nat),n+i<=8->zA1 (zBu cs n i z)/\(zBu cs n i z).length<=5*n
 |0,i,z,_=>⟨zA1.nil,Nat.le_refl _⟩
 |n+1,i,z,h=>by
  rw[zBu];cases e:cs.getD i none with
  |none=>
   have:=zGv cs hg n (i+1) z (by omega);exact⟨this.1,by dsimp only;omega⟩
  |some v=>
   have h1:=zQP i (by omega) v (hg i v e) z;have h2:=zGv cs hg n (i+1) (zUp z (zHE i)) (by omega);refine⟨h1.1.append h2.1,?_⟩;dsimp only;rw[List.length_append];omega
theorem zQQ (r:Rl) (hr:zGa r):∀x ∈ zB5 (zCc r),x.Bd:=by
 have h:=zGv r.cs hr.cs.2 8 0 34 (by decide);have hv:=hr.v;refine zJ7 _ (h.1.append (zA1.cons (bd0 (by decide) (by decide) (by omega)) zA1.nil)) ?_;unfold zCc;rw[List.length_append];simp only[List.length_cons,List.length_nil];omega
theorem zJ8:∀(l:List Rl),(∀r ∈ l,zGa r)->∀x ∈ zBC l,x.Bd
 |[],_,x,hx=>by cases hx
 |r::l,h,x,hx=>by
  rw[zBC] at hx;rcases List.mem_append.1 hx with h1|h1
  ·exact zQQ r (h r (List.mem_cons_self ..)) x h1
  ·exact zJ8 l (fun q hq=>h q (List.mem_cons_of_mem _ hq)) x h1
theorem zJB (b:Bk) (hg:zBr b):∀x ∈ zA8 b,x.Bd:=fun x hx=>by
 rw[zA0] at hx;have hp:=hg.pol;rcases List.mem_append.1 hx with h|h
 ·rcases List.mem_append.1 h with h|h
  ·simp only[zBW,List.mem_cons,List.not_mem_nil,or_false] at h
   rcases h with rfl|rfl|rfl<;>exact⟨by decide,by decide,by decide,by decide,by decide⟩
  ·exact zJ8 b.rs hg.rs x h
 ·rw[List.mem_singleton] at h
  subst h;exact⟨(by show(0:Int)<=0/\(0:Int)<=255;decide),(by show(0:Int)<=0/\(0:Int)<=255;decide),(by show(0:Int)<=0/\(0:Int)<=255;decide),(by show(0:Int)<=0/\(0:Int)<=255;decide),by show 0<=(b.pol:Int)/\(b.pol:Int)<=4294967295;omega⟩
theorem zOb (b:Bk) (hg:zBr b):Kbd (zA8 b):=fun x hx=>(zJB b hg x hx).k
theorem zHp (b:Bk) (hg:zBr b):zRz (zBl (zA8 b)) (zA8 b):=zQO _ (zJB b hg)
theorem zMq (b:Bk) (hg:zBr b) (d:ByteArray) (m:Int×Int) (hd:d.size<=4294967295) (h34:34<=d.size) (h1:0<=m.1/\m.1<=4294967295) (h2:0<=m.2/\m.2<=4294967295):
 ∃z,zHV (zBl (zA8 b)) (zA8 b).length d m 0 0 st0 (zFs b.pol d m b.rs:Int) z 0:=by
 have hc:=zHp b hg;have hF:=zHo _ b hg hc;obtain⟨v,z,k,hG⟩:=zKb (zBl (zA8 b)) (zA8 b).length d m (zA8 b).length 0 0 st0 (by omega);obtain⟨rfl,_⟩:=zMg hF hd h1 h2 hG hF.pos (Nat.le_refl _) zPe (zI8 _ _ hF.pos d);have:=zMl _ b d m v z h34 hc hG;rw[this] at hG;exact⟨z,hG⟩
theorem zDa:∀(l:List ByteArray) (n:Nat) (b:Bk),zBr b->zBr (zAO l n b).2.2
 |[],n,b,h=>by
  rw[zAO];split
  ·exact h
  ·exact zCN
 |p::r,n,b,h=>by
  rw[zAO]
  split
  ·exact zDa r (n+1) b h
  ·split
   ·exact zCN
   ·exact zDa r (n+1) _ (zCi b _ h)
theorem zFR (s:ByteArray):zBr (zAJ s).2.2:=by
 unfold zAJ
 split
 ·exact zCN
 ·exact zDa _ _ _ zCN
theorem zOc {w:World} {B g n c:Nat} {L:List Ins} (h:w.ownsRow B 5 1 (.slice (some ⟨g,0,none⟩) n c) n (zDN L)) (hb:∀x ∈ L,x.Bd) (hn:n=(zBl L).size):Row w g 0 (zBl L):=fun i hi=>by
 rw[Nat.zero_add,h.cellAt i (by omega),zMp,List.getElem?_map];have hl:i<(zFO L).length:=by unfold zBl at hi;rw[zGe] at hi;exact hi
 rw[List.getElem?_eq_getElem hl];unfold zBl;rw[zLw _ (zFQ L hb),List.getD_eq_getElem?_getD,List.getElem?_eq_getElem hl];rfl
end Go.Proofs.YtclpnafiiobfhaaGreatDoor
namespace Go.Proofs.YtclpnafiiobfhaaGreatDoor
theorem zMr (i a b:Nat) (h:b<2 ^ i):(a*2 ^ i)|||b=a*2 ^ i+b:=by
 rw[Nat.mul_comm a,Nat.two_pow_add_eq_or_of_lt h]
theorem zSQ (a b:Int) (ha:0<=a/\a<=255) (hb:0<=b/\b<=255):bits .or .u16 (a*256) b=256*a+b:=by
 rw[u16_or _ _ (by omega) (by omega) (by omega) (by omega)];have e:(a*256).toNat=a.toNat*2 ^ 8:=by omega
 rw[e,zMr 8 a.toNat b.toNat (by omega)];omega
theorem zSR (a b:Int) (ha:0<=a/\a<=65535) (hb:0<=b/\b<=65535):bits .or .u32 (a*65536) b=65536*a+b:=by
 rw[u32_or _ _ (by omega) (by omega) (by omega) (by omega)];have e:(a*65536).toNat=a.toNat*2 ^ 16:=by omega
 rw[e,zMr 16 a.toNat b.toNat (by omega)];omega
theorem zPj (n:Nat) (a m:Int) (ha:0<=a/\a<=255) (hm:m=2 ^ n-1) (hn:n<=8):bits .and .u8 a m=a % 2 ^ n:=by
 have h2:(2:Int) ^ n=((2 ^ n:Nat):Int):=by simp
 have hp:0<2 ^ n:=Nat.two_pow_pos n;have hq:2 ^ n<=2 ^ 8:=Nat.pow_le_pow_right (by omega) hn;rw[u8_and _ _ (by omega) (by omega) (by omega) (by omega)];have e:m.toNat=2 ^ n-1:=by omega
 rw[e,Nat.and_two_pow_sub_one_eq_mod,h2,Int.natCast_emod,Int.toNat_of_nonneg ha.1]
theorem zQR (n:Nat) (a m:Int) (ha:0<=a/\a<=65535) (hm:m=2 ^ n-1) (hn:n<=16):bits .and .u16 a m=a % 2 ^ n:=by
 have h2:(2:Int) ^ n=((2 ^ n:Nat):Int):=by simp
 have hp:0<2 ^ n:=Nat.two_pow_pos n;have hq:2 ^ n<=2 ^ 16:=Nat.pow_le_pow_right (by omega) hn;rw[u16_and _ _ (by omega) (by omega) (by omega) (by omega)];have e:m.toNat=2 ^ n-1:=by omega
 rw[e,Nat.and_two_pow_sub_one_eq_mod,h2,Int.natCast_emod,Int.toNat_of_nonneg ha.1]
theorem zQS (n:Nat) (a m:Int) (ha:0<=a/\a<=4294967295) (hm:m=2 ^ n-1) (hn:n<=32):bits .and .u32 a m=a % 2 ^ n:=by
 have h2:(2:Int) ^ n=((2 ^ n:Nat):Int):=by simp
 have hp:0<2 ^ n:=Nat.two_pow_pos n;have hq:2 ^ n<=2 ^ 32:=Nat.pow_le_pow_right (by omega) hn;rw[u32_and _ _ (by omega) (by omega) (by omega) (by omega)];have e:m.toNat=2 ^ n-1:=by omega
 rw[e,Nat.and_two_pow_sub_one_eq_mod,h2,Int.natCast_emod,Int.toNat_of_nonneg ha.1]
theorem zKo (a:Int) (ha:0<=a/\a<=255):bits .and .u8 a 15=a % 16:=zPj 4 a 15 ha (by decide) (by decide)
theorem zR8 (a:Int) (ha:0<=a/\a<=255):bits .and .u8 a 63=a % 64:=zPj 6 a 63 ha (by decide) (by decide)
theorem zQT (a:Int) (ha:0<=a/\a<=65535):bits .and .u16 a 16383=a % 16384:=zQR 14 a 16383 ha (by decide) (by decide)
theorem zR9 (a:Int) (ha:0<=a/\a<=4294967295):bits .and .u32 a 65535=a % 65536:=zQS 16 a 65535 ha (by decide) (by decide)
end Go.Proofs.YtclpnafiiobfhaaGreatDoor
namespace Go.Proofs.YtclpnafiiobfhaaGreatDoor
open Go.RowKit
theorem zAm (s:ByteArray) (b off cap:Nat) (k:Int) (w:World) (hs:s.size<=maxLen) (hr:Row w b off s) (hk:0<=k) (h:k+2<=s.size):
 Calls Tryz.prog 169 #[.slice (some ⟨b,off,none⟩) s.size cap,.int .i64 k] w fun e w'=>e= .returned (.int .u16 (zAB s k.toNat 2))/\∃n,w'=w.drewN n:=by
 unfold maxLen at hs;obtain⟨k,rfl⟩:=Int.eq_ofNat_of_zero_le hk;rw[Int.toNat_natCast];have c0:=hr k (by omega);have c1:=hr (k+1) (by omega);have b0:=zAN s k;have b1:=zAN s (k+1);have l0:(k:Int)<(s.size:Int):=by omega
 have l1:(k:Int)+1<(s.size:Int):=by omega
 go_enter Tryz.func169,Tryz.ntmps169;go_wp2;go_quiet (fail);go_wp2;go_ret;exact⟨zDV (by rw[zSQ _ _ b0 b1,zPb]),nq,rfl⟩
theorem zKp (f:Int) (w:World):
 Calls Tryz.prog 174 #[.int .u8 f] w fun e w'=>e= .returned (.bool (f == 8||f == 0))/\w'=w:=by
 by_cases c:f=8
 ·subst c
  go_enter Tryz.func174,Tryz.ntmps174;go_wp2;go_ret;exact⟨rfl,rfl⟩
 ·have d:(f == 8)=false:=by simpa using c
  go_enter Tryz.func174,Tryz.ntmps174;go_wp2;go_ret;exact⟨zAl (by simp[d]),rfl⟩
theorem zHq (f:Int) (t:Bool) (w:World) (h:(f == 8||f == 0)=t):
 Calls Tryz.prog 174 #[.int .u8 f] w fun e w'=>e= .returned (.bool t)/\w'=w:=by
 rw[<-h];exact zKp f w
theorem zCn (s:ByteArray) (b off cap:Nat) (w:World) (hs:s.size<=maxLen) (hr:Row w b off s) (h:34<=s.size):
 Calls Tryz.prog 171 #[.slice (some ⟨b,off,none⟩) s.size cap] w fun e w'=>e= .returned (.int .u16 (zD7 (zBm s 10)))/\∃n,w'=w.drewN n:=by
 have hs':=hs;unfold maxLen at hs;go_enter Tryz.func171,Tryz.ntmps171;go_wp2;go_loopw [3,4] (fun v i wr=>∃j:Nat,j<=10/\i= .int .i64 (14+2*j:Int)/\v= .int .u32 (zBm s j)/\∃n,wr=w.drewN n) (fun _ i _=>34-(intOf i).toNat)
 case atStart=>exact⟨0,Nat.zero_le _,rfl,rfl,0,rfl⟩
 case round=>
  obtain⟨j,hj,rfl,rfl,n0,rfl⟩:=hrel;have hb:=zGX s j
  by_cases hlt:j<10
  ·have hx:=zAD s (14+2*j)
   go_wp2_with (go_at_call 169;refine(zAm s b off cap _ _ hs' (by exact hr) (by omega) (by omega)).mono ?_;rintro e w' ⟨rfl,n1,rfl⟩;rw[show((14:Int)+2*(j:Int)).toNat=14+2*j from by omega]);go_roundw
   case rel=>exact⟨j+1,by omega,by go_num,rfl,_,rfl⟩
   case measure=>simp[intOf];omega
  ·have e:j=10:=by omega
   subst e;go_wp2;go_loopw [3] (fun v wr=>∃x:Int,0<=x/\x<=655350/\zD7 x=zD7 (zBm s 10)/\v= .int .u32 x/\∃n,wr=w.drewN n) (fun v _=>(intOf v).toNat)
   case atStart=>exact⟨_,by omega,by omega,rfl,rfl,_,rfl⟩
   case round=>
    obtain⟨x,hx0,hx1,hx2,rfl,n2,rfl⟩:=hrel;have HX:=hid hx2;clear hx2
    by_cases hgt:65535<x
    ·have ex:=zR9 x (by omega)
     go_wp2;go_roundw
     case rel=>exact⟨_,by omega,by omega,by rw[zHI x hgt hx1];exact HX.out,rfl,_,rfl⟩
     case measure=>simp[intOf];omega
    ·go_wp2
     go_ret;exact⟨zDV (by rw[<-HX.out,zHH x (by omega)]),_,rfl⟩
theorem zDu (s:ByteArray) (b off cap:Nat) (k:Int) (w:World) (hs:s.size<=maxLen) (hr:Row w b off s) (hk:0<=k) (h:k+4<=s.size):
 Calls Tryz.prog 173 #[.slice (some ⟨b,off,none⟩) s.size cap,.int .i64 k] w fun e w'=>e= .returned (.int .u32 (zAB s k.toNat 4))/\∃n,w'=w.drewN n:=by
 have hs':=hs;unfold maxLen at hs;have b0:=zAD s k.toNat;have b1:=zAD s (k.toNat+2);have b2:=zAD s (k+2).toNat;go_enter Tryz.func173,Tryz.ntmps173;go_wp2_with (go_at_call 169;refine(zAm s b off cap _ _ hs' (by exact hr) (by omega) (by omega)).mono ?_;rintro e w' ⟨rfl,n1,rfl⟩);go_ret;exact⟨zDV (by rw[zSR _ _ b0 b2,zQ6,show(k+2).toNat=k.toNat+2 from by omega]),_,rfl⟩
theorem zBk (s:ByteArray) (b off cap:Nat) (w:World) (hs:s.size<=maxLen) (hr:Row w b off s) (h:34<=s.size):
 Calls Tryz.prog 170 #[.slice (some ⟨b,off,none⟩) s.size cap] w fun e w'=>e= .returned (.bool (decide (20<=zAB s 16 2)&&decide (zAB s 16 2<=(s.size:Int)-14)))/\∃n,w'=w.drewN n:=by
 have hs':=hs;unfold maxLen at hs;have b0:=zAD s 16
 by_cases c:20<=zAB s 16 2
 all_goals
  go_enter Tryz.func170,Tryz.ntmps170;go_wp2_with (go_at_call 169;refine(zAm s b off cap _ _ hs' (by exact hr) (by omega) (by omega)).mono ?_;rintro e w' ⟨rfl,n1,rfl⟩;simp only[zEi]);go_ret;exact⟨zAl (by first|(simp[c];done)|(simp;omega)),_,rfl⟩
theorem zJC (s:ByteArray) (b off cap:Nat) (t:Int) (w:World) (hs:s.size<=maxLen) (hr:Row w b off s) (h:34<=s.size) (ht:0<=t) (ht1:t+34<=s.size):
 Calls Tryz.prog 198 #[.slice (some ⟨b,off,none⟩) s.size cap,.int .i64 t] w fun e w'=>e= .returned (.bool (decide (20<=t)&&(decide (5<=nth s 46 / 16)&&decide (4*(nth s 46 / 16)<=t))))/\∃n,w'=w.drewN n:=by
 unfold maxLen at hs;have b0:=zAN s 46
 by_cases c:20<=t
 ·have c46:=hr 46 (by omega)
  have l:(46:Int)<(s.size:Int):=by omega
  by_cases c':5<=nth s 46 / 16
  ·have c'':20<=4*(nth s 46 / 16):=by omega
   go_enter Tryz.func198,Tryz.ntmps198;go_wp2;go_ret;exact⟨zAl (by simp[c,c',c'']),0,rfl⟩
  ·have c'':¬20<=4*(nth s 46 / 16):=by omega
   go_enter Tryz.func198,Tryz.ntmps198;go_wp2;go_ret;exact⟨zAl (by simp;omega),0,rfl⟩
 ·go_enter Tryz.func198,Tryz.ntmps198
  go_wp2;go_ret;exact⟨zAl (by simp;omega),0,rfl⟩
theorem zJD (s:ByteArray) (b off cap:Nat) (t:Int) (w:World) (hs:s.size<=maxLen) (hr:Row w b off s) (h:34<=s.size) (ht:0<=t) (ht1:t+34<=s.size):
 Calls Tryz.prog 199 #[.slice (some ⟨b,off,none⟩) s.size cap,.int .i64 t] w fun e w'=>e= .returned (.bool (decide (8<=t)&&(decide (8<=zAB s 38 2)&&decide (zAB s 38 2<=t))))/\∃n,w'=w.drewN n:=by
 have hs':=hs;unfold maxLen at hs;have b0:=zAD s 38
 by_cases c:8<=t
 ·by_cases c':8<=zAB s 38 2
  all_goals
   go_enter Tryz.func199,Tryz.ntmps199;go_wp2_with (go_at_call 169;refine(zAm s b off cap _ _ hs' (by exact hr) (by omega) (by omega)).mono ?_;rintro e w' ⟨rfl,n1,rfl⟩;simp only[zLU]);go_ret;exact⟨zAl (by first|(simp[c,c'];done)|(simp;omega)),_,rfl⟩
 ·go_enter Tryz.func199,Tryz.ntmps199
  go_wp2;go_ret;exact⟨zAl (by simp;omega),0,rfl⟩
theorem zDv (s:ByteArray) (b off cap:Nat) (w:World) (hs:s.size<=maxLen) (hr:Row w b off s) (h:34<=s.size) (ht0:20<=zAB s 16 2) (ht:zAB s 16 2<=(s.size:Int)-14):
 Calls Tryz.prog 172 #[.slice (some ⟨b,off,none⟩) s.size cap] w fun e w'=>e= .returned (.bool (!inn s (zAB s 16 2)))/\∃n,w'=w.drewN n:=by
 have hs':=hs;unfold maxLen at hs;have bt:=zAD s 16;have c23:=hr 23 (by omega);have b23:=zAN s 23;have l23:(23:Int)<(s.size:Int):=by omega
 by_cases p6:nth s 23=6
 ·have q6:(nth s 23 == 6)=true:=by simp[p6]
  have r:inn s (zAB s 16 2)=(decide (zAB s 16 2<40)||(decide (nth s 46 / 16<5)||decide (zAB s 16 2-20<4*(nth s 46 / 16)))):=by simp[inn,p6]
  rw[r];clear r p6;go_enter Tryz.func172,Tryz.ntmps172;go_wp2_with (first|(go_at_call 169;refine(zAm s b off cap _ _ hs' (by exact hr) (by omega) (by omega)).mono ?_;rintro e w' ⟨rfl,n1,rfl⟩;simp only[zEr,zEi,zEs])|(go_at_call 198;refine(zJC s b off cap _ _ hs' (by exact hr) (by omega) (by omega) (by omega)).mono ?_;rintro e w' ⟨rfl,n2,rfl⟩));go_ret;exact⟨zAl (by rw[Bool.eq_iff_iff];simp;omega),_,rfl⟩
 ·have q6:(nth s 23 == 6)=false:=by simp[p6]
  by_cases p17:nth s 23=17
  ·have q17:(nth s 23 == 17)=true:=by simp[p17]
   have r:inn s (zAB s 16 2)=(decide (zAB s 16 2<28)||(decide (zAB s 38 2<8)||decide (zAB s 16 2-20<zAB s 38 2))):=by simp[inn,p17]
   rw[r];clear r p6 p17;go_enter Tryz.func172,Tryz.ntmps172;go_wp2_with (first|(go_at_call 169;refine(zAm s b off cap _ _ hs' (by exact hr) (by omega) (by omega)).mono ?_;rintro e w' ⟨rfl,n1,rfl⟩;simp only[zEr,zEi,zEs])|(go_at_call 199;refine(zJD s b off cap _ _ hs' (by exact hr) (by omega) (by omega) (by omega)).mono ?_;rintro e w' ⟨rfl,n2,rfl⟩));go_ret;exact⟨zAl (by rw[Bool.eq_iff_iff];simp;omega),_,rfl⟩
  ·have q17:(nth s 23 == 17)=false:=by simp[p17]
   by_cases p1:nth s 23=1
   ·have q1:(nth s 23 == 1)=true:=by simp[p1]
    have r:inn s (zAB s 16 2)=decide (zAB s 16 2<28):=by simp[inn,p1]
    rw[r];clear r p6 p17 p1;go_enter Tryz.func172,Tryz.ntmps172;go_wp2_with (first|(go_at_call 169;refine(zAm s b off cap _ _ hs' (by exact hr) (by omega) (by omega)).mono ?_;rintro e w' ⟨rfl,n1,rfl⟩;simp only[zEr,zEi,zEs]));go_ret;exact⟨zAl (by rw[Bool.eq_iff_iff];simp;omega),_,rfl⟩
   ·have q1:(nth s 23 == 1)=false:=by simp[p1]
    have r:inn s (zAB s 16 2)=false:=by simp[inn,p1,p6,p17]
    rw[r];clear r p6 p17 p1;go_enter Tryz.func172,Tryz.ntmps172;go_wp2_with (first|(go_at_call 169;refine(zAm s b off cap _ _ hs' (by exact hr) (by omega) (by omega)).mono ?_;rintro e w' ⟨rfl,n1,rfl⟩;simp only[zEr,zEi,zEs]));go_ret;exact⟨rfl,_,rfl⟩
theorem zMs (s:ByteArray) (b off cap:Nat) (w:World) (hs:s.size<=maxLen) (hr:Row w b off s) (c0:s.size<14):
 Calls Tryz.prog 146 #[.slice (some ⟨b,off,none⟩) s.size cap] w fun e w'=>e= .returned (.int .u8 1)/\∃n,w'=w.drewN n:=by
 have hs':=hs;unfold maxLen at hs;go_enter Tryz.func146,Tryz.ntmps146;go_wp2;go_ret;exact⟨rfl,0,rfl⟩
theorem zMt (s:ByteArray) (b off cap:Nat) (w:World) (hs:s.size<=maxLen) (hr:Row w b off s) (c0:14<=s.size) (d1:(zAB s 12 2 !=2048)=true):
 Calls Tryz.prog 146 #[.slice (some ⟨b,off,none⟩) s.size cap] w fun e w'=>e= .returned (.int .u8 2)/\∃n,w'=w.drewN n:=by
 have hs':=hs;unfold maxLen at hs;have b12:=zAD s 12;go_enter Tryz.func146,Tryz.ntmps146;go_wp2_with (first|(go_at_call 169;refine(zAm s b off cap _ _ hs' (by exact hr) (by omega) (by omega)).mono ?_;rintro e w' ⟨rfl,n1,rfl⟩;simp only[zEr,zEi,zEs]));go_ret;exact⟨rfl,_,rfl⟩
theorem zMu (s:ByteArray) (b off cap:Nat) (w:World) (hs:s.size<=maxLen) (hr:Row w b off s) (c0:14<=s.size) (d1:(zAB s 12 2 !=2048)=false) (c2:s.size<34):
 Calls Tryz.prog 146 #[.slice (some ⟨b,off,none⟩) s.size cap] w fun e w'=>e= .returned (.int .u8 3)/\∃n,w'=w.drewN n:=by
 have hs':=hs;unfold maxLen at hs;have b12:=zAD s 12;go_enter Tryz.func146,Tryz.ntmps146;go_wp2_with (first|(go_at_call 169;refine(zAm s b off cap _ _ hs' (by exact hr) (by omega) (by omega)).mono ?_;rintro e w' ⟨rfl,n1,rfl⟩;simp only[zEr,zEi,zEs]));go_ret;exact⟨rfl,_,rfl⟩
theorem zMv (s:ByteArray) (b off cap:Nat) (w:World) (hs:s.size<=maxLen) (hr:Row w b off s) (c0:14<=s.size) (d1:(zAB s 12 2 !=2048)=false) (c2:34<=s.size) (d3:(nth s 14 / 16 !=4)=true):
 Calls Tryz.prog 146 #[.slice (some ⟨b,off,none⟩) s.size cap] w fun e w'=>e= .returned (.int .u8 4)/\∃n,w'=w.drewN n:=by
 have hs':=hs;unfold maxLen at hs;have b12:=zAD s 12;have c14:=hr 14 (by omega);have b14:=zAN s 14;have l14:(14:Int)<(s.size:Int):=by omega
 go_enter Tryz.func146,Tryz.ntmps146;go_wp2_with (first|(go_at_call 169;refine(zAm s b off cap _ _ hs' (by exact hr) (by omega) (by omega)).mono ?_;rintro e w' ⟨rfl,n1,rfl⟩;simp only[zEr,zEi,zEs]));go_ret;exact⟨rfl,_,rfl⟩
theorem zMw (s:ByteArray) (b off cap:Nat) (w:World) (hs:s.size<=maxLen) (hr:Row w b off s) (c0:14<=s.size) (d1:(zAB s 12 2 !=2048)=false) (c2:34<=s.size) (d3:(nth s 14 / 16 !=4)=false) (d4:(nth s 14 % 16 !=5)=true):
 Calls Tryz.prog 146 #[.slice (some ⟨b,off,none⟩) s.size cap] w fun e w'=>e= .returned (.int .u8 5)/\∃n,w'=w.drewN n:=by
 have hs':=hs;unfold maxLen at hs;have b12:=zAD s 12;have c14:=hr 14 (by omega);have b14:=zAN s 14;have l14:(14:Int)<(s.size:Int):=by omega
 have a14:=zKo (nth s 14) b14;go_enter Tryz.func146,Tryz.ntmps146;go_wp2_with (first|(go_at_call 169;refine(zAm s b off cap _ _ hs' (by exact hr) (by omega) (by omega)).mono ?_;rintro e w' ⟨rfl,n1,rfl⟩;simp only[zEr,zEi,zEs]));go_ret;exact⟨rfl,_,rfl⟩
theorem zMx (s:ByteArray) (b off cap:Nat) (w:World) (hs:s.size<=maxLen) (hr:Row w b off s) (c0:14<=s.size) (d1:(zAB s 12 2 !=2048)=false) (c2:34<=s.size) (d3:(nth s 14 / 16 !=4)=false) (d4:(nth s 14 % 16 !=5)=false) (c5:zAB s 16 2<20\/(s.size:Int)-14<zAB s 16 2):
 Calls Tryz.prog 146 #[.slice (some ⟨b,off,none⟩) s.size cap] w fun e w'=>e= .returned (.int .u8 6)/\∃n,w'=w.drewN n:=by
 have hs':=hs;unfold maxLen at hs;have b12:=zAD s 12;have c14:=hr 14 (by omega);have b14:=zAN s 14;have l14:(14:Int)<(s.size:Int):=by omega
 have a14:=zKo (nth s 14) b14;have b16:=zAD s 16;have T:(decide (20<=zAB s 16 2)&&decide (zAB s 16 2<=(s.size:Int)-14))=false:=by rw[Bool.eq_iff_iff];simp;omega
 clear c5;go_enter Tryz.func146,Tryz.ntmps146;go_wp2_with (first|(go_at_call 169;refine(zAm s b off cap _ _ hs' (by exact hr) (by omega) (by omega)).mono ?_;rintro e w' ⟨rfl,n1,rfl⟩;simp only[zEr,zEi,zEs])|(go_at_call 170;refine(zBk s b off cap _ hs' (by exact hr) (by omega)).mono ?_;rintro e w' ⟨rfl,n2,rfl⟩;rw[T]));go_ret;exact⟨rfl,_,rfl⟩
theorem zMy (s:ByteArray) (b off cap:Nat) (w:World) (hs:s.size<=maxLen) (hr:Row w b off s) (c0:14<=s.size) (d1:(zAB s 12 2 !=2048)=false) (c2:34<=s.size) (d3:(nth s 14 / 16 !=4)=false) (d4:(nth s 14 % 16 !=5)=false) (c5:20<=zAB s 16 2/\zAB s 16 2<=(s.size:Int)-14) (d7:(zD7 (zBm s 10) !=65535)=true):
 Calls Tryz.prog 146 #[.slice (some ⟨b,off,none⟩) s.size cap] w fun e w'=>e= .returned (.int .u8 7)/\∃n,w'=w.drewN n:=by
 have hs':=hs;unfold maxLen at hs;have b12:=zAD s 12;have c14:=hr 14 (by omega);have b14:=zAN s 14;have l14:(14:Int)<(s.size:Int):=by omega
 have a14:=zKo (nth s 14) b14;have b16:=zAD s 16;have bf:=zCw s;have T:(decide (20<=zAB s 16 2)&&decide (zAB s 16 2<=(s.size:Int)-14))=true:=by rw[Bool.eq_iff_iff];simp;omega
 go_enter Tryz.func146,Tryz.ntmps146;go_wp2_with (first|(go_at_call 169;refine(zAm s b off cap _ _ hs' (by exact hr) (by omega) (by omega)).mono ?_;rintro e w' ⟨rfl,n1,rfl⟩;simp only[zEr,zEi,zEs])|(go_at_call 170;refine(zBk s b off cap _ hs' (by exact hr) (by omega)).mono ?_;rintro e w' ⟨rfl,n2,rfl⟩;rw[T])|(go_at_call 171;refine(zCn s b off cap _ hs' (by exact hr) (by omega)).mono ?_;rintro e w' ⟨rfl,n3,rfl⟩));go_ret;exact⟨rfl,_,rfl⟩
theorem zMz (s:ByteArray) (b off cap:Nat) (w:World) (hs:s.size<=maxLen) (hr:Row w b off s) (c0:14<=s.size) (d1:(zAB s 12 2 !=2048)=false) (c2:34<=s.size) (d3:(nth s 14 / 16 !=4)=false) (d4:(nth s 14 % 16 !=5)=false) (c5:20<=zAB s 16 2/\zAB s 16 2<=(s.size:Int)-14) (d7:(zD7 (zBm s 10) !=65535)=false) (d8:(zAB s 20 2 % 16384 !=0)=true):
 Calls Tryz.prog 146 #[.slice (some ⟨b,off,none⟩) s.size cap] w fun e w'=>e= .returned (.int .u8 8)/\∃n,w'=w.drewN n:=by
 have hs':=hs;unfold maxLen at hs;have b12:=zAD s 12;have c14:=hr 14 (by omega);have b14:=zAN s 14;have l14:(14:Int)<(s.size:Int):=by omega
 have a14:=zKo (nth s 14) b14;have b16:=zAD s 16;have bf:=zCw s;have b20:=zAD s 20;have a20:=zQT (zAB s 20 2) b20;have T:(decide (20<=zAB s 16 2)&&decide (zAB s 16 2<=(s.size:Int)-14))=true:=by rw[Bool.eq_iff_iff];simp;omega
 go_enter Tryz.func146,Tryz.ntmps146;go_wp2_with (first|(go_at_call 169;refine(zAm s b off cap _ _ hs' (by exact hr) (by omega) (by omega)).mono ?_;rintro e w' ⟨rfl,n1,rfl⟩;simp only[zEr,zEi,zEs])|(go_at_call 170;refine(zBk s b off cap _ hs' (by exact hr) (by omega)).mono ?_;rintro e w' ⟨rfl,n2,rfl⟩;rw[T])|(go_at_call 171;refine(zCn s b off cap _ hs' (by exact hr) (by omega)).mono ?_;rintro e w' ⟨rfl,n3,rfl⟩));go_ret;exact⟨rfl,_,rfl⟩
theorem zM0 (s:ByteArray) (b off cap:Nat) (w:World) (hs:s.size<=maxLen) (hr:Row w b off s) (c0:14<=s.size) (d1:(zAB s 12 2 !=2048)=false) (c2:34<=s.size) (d3:(nth s 14 / 16 !=4)=false) (d4:(nth s 14 % 16 !=5)=false) (c5:20<=zAB s 16 2/\zAB s 16 2<=(s.size:Int)-14) (d7:(zD7 (zBm s 10) !=65535)=false) (d8:(zAB s 20 2 % 16384 !=0)=false) (d9:inn s (zAB s 16 2)=true):
 Calls Tryz.prog 146 #[.slice (some ⟨b,off,none⟩) s.size cap] w fun e w'=>e= .returned (.int .u8 9)/\∃n,w'=w.drewN n:=by
 have hs':=hs;unfold maxLen at hs;have b12:=zAD s 12;have c14:=hr 14 (by omega);have b14:=zAN s 14;have l14:(14:Int)<(s.size:Int):=by omega
 have a14:=zKo (nth s 14) b14;have b16:=zAD s 16;have bf:=zCw s;have b20:=zAD s 20;have a20:=zQT (zAB s 20 2) b20;have T:(decide (20<=zAB s 16 2)&&decide (zAB s 16 2<=(s.size:Int)-14))=true:=by rw[Bool.eq_iff_iff];simp;omega
 have II:(!inn s (zAB s 16 2))=false:=by rw[d9];rfl
 clear d9;go_enter Tryz.func146,Tryz.ntmps146;go_wp2_with (first|(go_at_call 169;refine(zAm s b off cap _ _ hs' (by exact hr) (by omega) (by omega)).mono ?_;rintro e w' ⟨rfl,n1,rfl⟩;simp only[zEr,zEi,zEs])|(go_at_call 170;refine(zBk s b off cap _ hs' (by exact hr) (by omega)).mono ?_;rintro e w' ⟨rfl,n2,rfl⟩;rw[T])|(go_at_call 171;refine(zCn s b off cap _ hs' (by exact hr) (by omega)).mono ?_;rintro e w' ⟨rfl,n3,rfl⟩)|(go_at_call 172;refine(zDv s b off cap _ hs' (by exact hr) (by omega) (by omega) (by omega)).mono ?_;rintro e w' ⟨rfl,n4,rfl⟩;rw[II]));go_ret;exact⟨rfl,_,rfl⟩
theorem zM1 (s:ByteArray) (b off cap:Nat) (w:World) (hs:s.size<=maxLen) (hr:Row w b off s) (c0:14<=s.size) (d1:(zAB s 12 2 !=2048)=false) (c2:34<=s.size) (d3:(nth s 14 / 16 !=4)=false) (d4:(nth s 14 % 16 !=5)=false) (c5:20<=zAB s 16 2/\zAB s 16 2<=(s.size:Int)-14) (d7:(zD7 (zBm s 10) !=65535)=false) (d8:(zAB s 20 2 % 16384 !=0)=false) (d9:inn s (zAB s 16 2)=false):
 Calls Tryz.prog 146 #[.slice (some ⟨b,off,none⟩) s.size cap] w fun e w'=>e= .returned (.int .u8 0)/\∃n,w'=w.drewN n:=by
 have hs':=hs;unfold maxLen at hs;have b12:=zAD s 12;have c14:=hr 14 (by omega);have b14:=zAN s 14;have l14:(14:Int)<(s.size:Int):=by omega
 have a14:=zKo (nth s 14) b14;have b16:=zAD s 16;have bf:=zCw s;have b20:=zAD s 20;have a20:=zQT (zAB s 20 2) b20;have T:(decide (20<=zAB s 16 2)&&decide (zAB s 16 2<=(s.size:Int)-14))=true:=by rw[Bool.eq_iff_iff];simp;omega
 have II:(!inn s (zAB s 16 2))=true:=by rw[d9];rfl
 clear d9;go_enter Tryz.func146,Tryz.ntmps146;go_wp2_with (first|(go_at_call 169;refine(zAm s b off cap _ _ hs' (by exact hr) (by omega) (by omega)).mono ?_;rintro e w' ⟨rfl,n1,rfl⟩;simp only[zEr,zEi,zEs])|(go_at_call 170;refine(zBk s b off cap _ hs' (by exact hr) (by omega)).mono ?_;rintro e w' ⟨rfl,n2,rfl⟩;rw[T])|(go_at_call 171;refine(zCn s b off cap _ hs' (by exact hr) (by omega)).mono ?_;rintro e w' ⟨rfl,n3,rfl⟩)|(go_at_call 172;refine(zDv s b off cap _ hs' (by exact hr) (by omega) (by omega) (by omega)).mono ?_;rintro e w' ⟨rfl,n4,rfl⟩;rw[II]));go_ret;exact⟨rfl,_,rfl⟩
theorem zFS (s:ByteArray) (b off cap:Nat) (w:World) (hs:s.size<=maxLen) (hr:Row w b off s):
 Calls Tryz.prog 146 #[.slice (some ⟨b,off,none⟩) s.size cap] w fun e w'=>e= .returned (.int .u8 (cls s))/\∃n,w'=w.drewN n:=by
 by_cases c0:s.size<14
 ·rw[show cls s=1 from by simp[cls,c0]];exact zMs s b off cap w hs hr c0
 by_cases c1:¬zAB s 12 2=2048
 ·rw[show cls s=2 from by simp[cls,c0,c1]];exact zMt s b off cap w hs hr (by omega) (by simp[c1])
 have d1:(zAB s 12 2 !=2048)=false:=by simpa using c1
 by_cases c2:s.size<34
 ·rw[show cls s=3 from by simp[cls,c0,c1,c2]];exact zMu s b off cap w hs hr (by omega) d1 c2
 by_cases c3:¬nth s 14 / 16=4
 ·rw[show cls s=4 from by simp[cls,c0,c1,c2,c3]];exact zMv s b off cap w hs hr (by omega) d1 (by omega) (by simp[c3])
 have d3:(nth s 14 / 16 !=4)=false:=by simpa using c3
 by_cases c4:¬nth s 14 % 16=5
 ·rw[show cls s=5 from by simp[cls,c0,c1,c2,c3,c4]];exact zMw s b off cap w hs hr (by omega) d1 (by omega) d3 (by simp[c4])
 have d4:(nth s 14 % 16 !=5)=false:=by simpa using c4
 by_cases c5:zAB s 16 2<20\/(s.size:Int)-14<zAB s 16 2
 ·rw[show cls s=6 from by simp[cls,c0,c1,c2,c3,c4,c5]];exact zMx s b off cap w hs hr (by omega) d1 (by omega) d3 d4 c5
 by_cases c7:¬zD7 (zBm s 10)=65535
 ·rw[show cls s=7 from by simp[cls,c0,c1,c2,c3,c4,c5,c7]];exact zMy s b off cap w hs hr (by omega) d1 (by omega) d3 d4 (by omega) (by simp[c7])
 have d7:(zD7 (zBm s 10) !=65535)=false:=by simpa using c7
 by_cases c8:¬zAB s 20 2 % 16384=0
 ·rw[show cls s=8 from by simp[cls,c0,c1,c2,c3,c4,c5,c7,c8]];exact zMz s b off cap w hs hr (by omega) d1 (by omega) d3 d4 (by omega) d7 (by simp[c8])
 have d8:(zAB s 20 2 % 16384 !=0)=false:=by simpa using c8
 by_cases c9:inn s (zAB s 16 2)=true
 ·rw[show cls s=9 from by simp[cls,c0,c1,c2,c3,c4,c5,c7,c8,c9]];exact zM0 s b off cap w hs hr (by omega) d1 (by omega) d3 d4 (by omega) d7 d8 c9
 rw[show cls s=0 from by simp[cls,c0,c1,c2,c3,c4,c5,c7,c8,c9]];exact zM1 s b off cap w hs hr (by omega) d1 (by omega) d3 d4 (by omega) d7 d8 (by simpa using c9)
end Go.Proofs.YtclpnafiiobfhaaGreatDoor

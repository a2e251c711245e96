import Derived.Test.YtclpnafiiobfhaaGreatDoorQ06
import Derived.Test.YtclpnafiiobfhaaGreatDoorQ36
set_option linter.unusedVariables false
set_option linter.unusedSimpArgs false
set_option maxHeartbeats 6400000
set_option maxRecDepth 20000
namespace Go.Proofs.YtclpnafiiobfhaaGreatDoor
open Go.RowKit
theorem zIK (a b:Nat) (w:World) (ha:a<=zCr) (hb:b<=zCr):
 Calls Tryz.prog 88 #[.int .u64 (a:Int),.int .u64 (b:Int)] w fun e w'=>e= .returned (.int .u64 (zBO a b:Int))/\w'=w:=by
 unfold zCr at ha hb
 by_cases h:18446744073709551615<a+b
 ·have e:((zBO a b:Nat):Int)=18446744073709551615:=by unfold zBO zCr;rw[if_pos h];rfl
  rw[e];have h1:IntKind.u64.wrap ((a:Int)+(b:Int))=(a:Int)+(b:Int)-18446744073709551616:=by rw[IntKind.wrap_u64];omega
  have h2:(a:Int)+(b:Int)-18446744073709551616<(a:Int):=by omega
  clear h e ha hb;go_enter Tryz.func88,Tryz.ntmps88;go_wp2_with fail;go_ret;exact⟨rfl,rfl⟩
 ·have e:((zBO a b:Nat):Int)=(a:Int)+(b:Int):=by unfold zBO zCr;rw[if_neg h];omega
  rw[e];have h1:IntKind.u64.wrap ((a:Int)+(b:Int))=(a:Int)+(b:Int):=by rw[IntKind.wrap_u64];omega
  have h2:¬(a:Int)+(b:Int)<(a:Int):=by omega
  clear h e ha hb;go_enter Tryz.func88,Tryz.ntmps88;go_wp2_with fail;go_ret;exact⟨rfl,rfl⟩
def zR1 (x0 x1 x2 x3 x4 y1 y2 y3 y4:Bool):Nat:=if x0=true then 0 else if(x1&&x2&&x3&&x4)=true then 1 else if(y1&&y2&&y3&&y4)=true then 2 else 0
theorem zSI (f:Fl) (h:Hd):zBo f h=zR1 (f.p !=h.p) (f.a == h.a) (f.s == h.s) (f.b == h.b) (f.d == h.d) (f.a == h.b) (f.s == h.d) (f.b == h.a) (f.d == h.s):=by
 unfold zBo zR1;simp only[bne_iff_ne,Bool.and_eq_true,beq_iff_eq,and_assoc]
theorem zKO (a b c d:Bool):a=false\/(a=true/\b=false)\/(a=true/\b=true/\c=false)\/(a=true/\b=true/\c=true/\d=false)\/(a=true/\b=true/\c=true/\d=true):=by
 cases a<;>cases b<;>cases c<;>cases d<;>decide
theorem zNe (f:Fl) (h:Hd) (w:World):
 Calls Tryz.prog 132 #[.agg f.cells,.agg h.cells] w fun e w'=>e= .returned (.int .i64 (zBo f h:Int))/\Below w.heap.size w w':=by
 rw[zSI];obtain⟨a,b,p,s,d,rep,clo,u⟩:=f;obtain⟨ha,hb,hp,hs,hd,hf⟩:=h;dsimp only[Fl.cells,Hd.cells];cases q0:(p !=hp)
 ·rcases zKO (a == ha) (s == hs) (b == hb) (d == hd) with q1|⟨q1,q2⟩|⟨q1,q2,q3⟩|⟨q1,q2,q3,q4⟩|⟨q1,q2,q3,q4⟩
  case inr.inr.inr.inr=>
   simp only[q1,q2,q3,q4];go_enter Tryz.func132,Tryz.ntmps132;go_wp2_with fail;go_ret;exact⟨rfl,(bal _ _).alloc (by simp) _⟩
  all_goals
   rcases zKO (a == hb) (s == hd) (b == ha) (d == hs) with z1|⟨z1,z2⟩|⟨z1,z2,z3⟩|⟨z1,z2,z3,z4⟩|⟨z1,z2,z3,z4⟩
   all_goals
    have HV:Hid (zR1 false (a == ha) (s == hs) (b == hb) (d == hd) (a == hb) (s == hd) (b == ha) (d == hs)=_):=(show _=_ by simp only[*,zR1,Bool.false_and,Bool.true_and,Bool.and_false,Bool.and_true,Bool.false_eq_true,if_false,if_true,reduceIte];rfl);rw[HV.out];go_enter Tryz.func132,Tryz.ntmps132;go_wp2_with fail;go_ret;exact⟨rfl,(bal _ _).alloc (by simp) _⟩
 ·go_enter Tryz.func132,Tryz.ntmps132
  go_wp2_with fail;go_ret;exact⟨rfl,(bal _ _).alloc (by simp) _⟩
theorem zEJ (D now:Nat) (x:Fl) (w:World) (hn:now<=zCr) (h4:w.cell? ⟨D,4,none⟩=some (.int .u64 (now:Int))) (hD:D<w.heap.size):
 Calls Tryz.prog 133 #[.pointer (some ⟨D,0,none⟩),.agg x.cells] w fun e w'=>e= .returned (.int .u64 (zBO now (zCV x):Int))/\Below w.heap.size w w':=by
 obtain⟨a,b,p,s,d,rep,clo,u⟩:=x;have HP:Hid (∀(k:Nat) (W:World),k<=300->Calls Tryz.prog 88 #[.int .u64 (now:Int),.int .u64 (k:Int)] W fun e w'=>e= .returned (.int .u64 (zBO now k:Int))/\w'=W):=fun k W hk=>zIK now k W hn (by unfold zCr;omega)
 have HE:Hid (zCV ⟨a,b,p,s,d,rep,clo,u⟩=if p=6 then(if clo=true then 10 else if rep=true then 300 else 30) else if p=17 then(if rep=true then 120 else 60) else if p=1 then 20 else 60):=rfl;have hDn:D≠w.heap.size:=Nat.ne_of_lt hD;dsimp only[Fl.cells];clear hn
 by_cases h6:p=6
 ·have q6:(p == 6)=true:=by simpa using h6
  rw[if_pos h6] at HE;clear h6;cases clo
  ·cases rep
   ·go_enter Tryz.func133,Tryz.ntmps133
    go_wp2_with (go_at_call 88;refine(HP.out 30 _ (by omega)).mono ?_;rintro e W1 ⟨rfl,rfl⟩);go_ret;exact⟨by rw[HE.out];rfl,bal _ _⟩
   ·go_enter Tryz.func133,Tryz.ntmps133
    go_wp2_with (go_at_call 88;refine(HP.out 300 _ (by omega)).mono ?_;rintro e W1 ⟨rfl,rfl⟩);go_ret;exact⟨by rw[HE.out];rfl,bal _ _⟩
  ·go_enter Tryz.func133,Tryz.ntmps133
   go_wp2_with (go_at_call 88;refine(HP.out 10 _ (by omega)).mono ?_;rintro e W1 ⟨rfl,rfl⟩);go_ret;exact⟨by rw[HE.out];rfl,bal _ _⟩
 ·have q6:(p == 6)=false:=by simpa using h6
  rw[if_neg h6] at HE;clear h6
  by_cases h17:p=17
  ·have q17:(p == 17)=true:=by simpa using h17
   have q1:(p == 1)=false:=by rw[h17];rfl
   rw[if_pos h17] at HE;clear h17;cases rep
   ·go_enter Tryz.func133,Tryz.ntmps133
    go_wp2_with (go_at_call 88;refine(HP.out 60 _ (by omega)).mono ?_;rintro e W1 ⟨rfl,rfl⟩);go_ret;exact⟨by rw[HE.out];rfl,bal _ _⟩
   ·go_enter Tryz.func133,Tryz.ntmps133
    go_wp2_with (go_at_call 88;refine(HP.out 120 _ (by omega)).mono ?_;rintro e W1 ⟨rfl,rfl⟩);go_ret;exact⟨by rw[HE.out];rfl,bal _ _⟩
  ·have q17:(p == 17)=false:=by simpa using h17
   rw[if_neg h17] at HE;clear h17
   by_cases h1:p=1
   ·have q1:(p == 1)=true:=by simpa using h1
    rw[if_pos h1] at HE;clear h1;go_enter Tryz.func133,Tryz.ntmps133;go_wp2_with (go_at_call 88;refine(HP.out 20 _ (by omega)).mono ?_;rintro e W1 ⟨rfl,rfl⟩);go_ret;exact⟨by rw[HE.out];rfl,bal _ _⟩
   ·have q1:(p == 1)=false:=by simpa using h1
    rw[if_neg h1] at HE;clear h1;go_enter Tryz.func133,Tryz.ntmps133;go_wp2_with (go_at_call 88;refine(HP.out 60 _ (by omega)).mono ?_;rintro e W1 ⟨rfl,rfl⟩);go_ret;exact⟨by rw[HE.out];rfl,bal _ _⟩
theorem Fl.len (f:Fl):f.l.length=8:=rfl
theorem zKP:∀(F:List Fl) (i k:Nat) (x:Fl),F[i]? =some x->k<8->(zAV F)[i*8+k]? =x.l[k]?
 |[],i,k,r,h,_=>by simp at h
 |y::F,0,k,x,h,hk=>by
  simp only[List.getElem?_cons_zero,Option.some.injEq] at h;subst h
  show(y.l++zAV F)[0*8+k]? =_
  rw[List.getElem?_append_left (by rw[Fl.len];omega),Nat.zero_mul,Nat.zero_add]
 |y::F,i+1,k,x,h,hk=>by
  simp only[List.getElem?_cons_succ] at h
  show(y.l++zAV F)[(i+1)*8+k]? =_
  rw[List.getElem?_append_right (by rw[Fl.len];omega),Fl.len,show(i+1)*8+k-8=i*8+k by omega];exact zKP F i k x h hk
theorem zD5:∀F:List Fl,(zAV F).length=F.length*8
 |[]=>rfl
 |y::F=>by
  show(y.l++zAV F).length=_
  rw[List.length_append,Fl.len,zD5 F,List.length_cons];omega
theorem zJT {w:World} {B g n c:Nat} {F:List Fl} (h:w.ownsRow B 197 8 (.slice (some ⟨g,0,none⟩) n c) n (zAV F)) (hn:n=F.length) (i:Nat) (x:Fl) (hx:F[i]? =some x) (k:Nat) (v:Value) (hv:x.l[k]? =some v):w.cell? ⟨g,i*8+k,none⟩=some v:=by
 have hk:k<8:=(List.getElem?_eq_some_iff.1 hv).1;have hi:i<F.length:=(List.getElem?_eq_some_iff.1 hx).1;rw[h.cellAt (i*8+k) (by subst hn;omega),zKP F i k x hx hk,hv]
theorem zPI {F:List Fl} {h:Hd} {j:Nat} {x:Fl} (hx:F[j]? =some x) (h0:∀k y,k<j->F[k]? =some y->zBo y h=0) (h1:zBo x h≠0):zBS F h=some j:=by
 obtain⟨hj,rfl⟩:=List.getElem?_eq_some_iff.1 hx;unfold zBS;rw[List.findIdx?_eq_some_iff_getElem];exact⟨hj,by simpa using h1,fun k hk=>by simpa using h0 k _ hk (List.getElem?_eq_getElem (by omega))⟩
theorem zNf {F:List Fl} {h:Hd} (h0:∀k y,k<F.length->F[k]? =some y->zBo y h=0):zBS F h=none:=by
 unfold zBS;rw[List.findIdx?_eq_none_iff];intro x hx;obtain⟨k,hk,rfl⟩:=List.mem_iff_getElem.1 hx
 simpa using h0 k _ hk (List.getElem?_eq_getElem hk)
def zSb:Option Bk->Nat
 |none=>0
 |some b=>b.pol
abbrev zQ5 (room:Nat) (R:Option Bk) (rv:Value) (now:Nat) (fv:Value) (cA cD cR cM:Nat):List Value:=[.int .i64 (room:Int),.bool R.isSome,.int .i64 (zSb R:Int),rv,.int .u64 (now:Int),fv,.int .u64 (cA:Int),.int .u64 (cD:Int),.int .u64 (cR:Int),.int .u64 (cM:Int)]
def zEK (W:World) (rv:Value) (R:Option Bk):Prop:=(R=none/\rv= .slice none 0 0)\/∃b B,R=some b/\zBr b/\W.ownsRow B 65 24 rv b.rs.length (zBE b.rs)
structure zAQ (W:World) (D:Nat) (rv fv:Value) (R:Option Bk) (room now:Nat) (F:List Fl) (cA cD cR cM:Nat):Prop where
 blk:Blk 132 W D (zQ5 room R rv now fv cA cD cR cM)
 rules:zEK W rv R
 flows:W.ownsRow 0 197 8 fv F.length (zAV F)
theorem zEK.keep {W W':World} {rv:Value} {R:Option Bk} {S:Nat->Prop} (h:zEK W rv R) (ht:Trn S W W') (hs:∀x,rv.ownBlock=some x->¬S x):zEK W' rv R:=by
 rcases h with q|⟨b,B,q1,q2,q3⟩
 ·exact .inl q
 ·refine .inr ⟨b,B,q1,q2,q3.1,?_⟩
  rcases q3.2 with q|⟨g,cap,cur,e1,e2,e3,e4⟩
  ·exact .inl q
  ·subst e1
   exact .inr ⟨g,cap,cur,rfl,e2,ht.keep (hs g rfl) e3,e4⟩
theorem zAr {W W':World} {B e size n:Nat} {v:Value} {xs:List Value} {S:Nat->Prop} (h:W.ownsRow B e size v n xs) (ht:Trn S W W') (hs:∀x,v.ownBlock=some x->¬S x):W'.ownsRow B e size v n xs:=by
 refine⟨h.1,?_⟩;rcases h.2 with q|⟨g,cap,cur,e1,e2,e3,e4⟩
 ·exact .inl q
 ·subst e1
  exact .inr ⟨g,cap,cur,rfl,e2,ht.keep (hs g rfl) e3,e4⟩
theorem zIL {W:World} {B B' e size n:Nat} {v:Value} {xs:List Value} (h:W.ownsRow B e size v n xs) (hb:B'<=B):W.ownsRow B' e size v n xs:=by
 refine⟨h.1,?_⟩;rcases h.2 with q|⟨g,cap,cur,e1,e2,e3⟩
 ·exact .inl q
 ·exact .inr ⟨g,cap,cur,e1,Nat.le_trans hb e2,e3⟩
theorem zGP {W W':World} {B e size n:Nat} {v:Value} {xs:List Value} (h:W.ownsRow B e size v n xs) (hb:Below W.heap.size W W'):W'.ownsRow B e size v n xs:=zAr h (Trn.below (S:=fun _=>False) hb) (fun _ _ q=>q)
theorem zAQ.keep {W W':World} {D:Nat} {rv fv:Value} {R:Option Bk} {room now:Nat} {F:List Fl} {cA cD cR cM:Nat} {S:Nat->Prop} (h:zAQ W D rv fv R room now F cA cD cR cM) (ht:Trn S W W') (hs:∀x,(x=D\/rv.ownBlock=some x\/fv.ownBlock=some x)->¬S x):zAQ W' D rv fv R room now F cA cD cR cM:=
 ⟨h.blk.trn ht (hs D (.inl rfl)),h.rules.keep ht (fun x q=>hs x (.inr (.inl q))),zAr h.flows ht (fun x q=>hs x (.inr (.inr q)))⟩
theorem zAQ.below {W W':World} {D:Nat} {rv fv:Value} {R:Option Bk} {room now:Nat} {F:List Fl} {cA cD cR cM:Nat} (h:zAQ W D rv fv R room now F cA cD cR cM) (hb:Below W.heap.size W W'):zAQ W' D rv fv R room now F cA cD cR cM:=h.keep (Trn.below (S:=fun _=>False) hb) (fun _ _ q=>q)
theorem zAx {W:World} {B e size n g:Nat} {v:Value} {xs:List Value} {t:TypeId} {L:List Value} (h:W.ownsRow B e size v n xs) (hb:Blk t W g L) (hte:t≠e):v.ownBlock≠some g:=by
 intro q;rcases h.2 with⟨rfl,_⟩|⟨g',cap,cur,rfl,_,e3,_⟩
 ·cases q
 ·obtain rfl:g'=g:=by simpa[Value.ownBlock] using q
  rw[hb.1] at e3;simp only[Option.some.injEq,Obj.cells.injEq] at e3;exact hte e3.2.1
theorem zPJ {W:World} {B e size n B' e' size' n' g:Nat} {v v':Value} {xs xs':List Value} (h:W.ownsRow B e size v n xs) (h':W.ownsRow B' e' size' v' n' xs') (hte:e≠e') (hg:v.ownBlock=some g):v'.ownBlock≠some g:=by
 intro q;rcases h.2 with⟨rfl,_⟩|⟨g1,cap,cur,rfl,_,e3,_⟩
 ·cases hg
 ·rcases h'.2 with⟨rfl,_⟩|⟨g2,cap2,cur2,rfl,_,f3,_⟩
  ·cases q
  ·obtain rfl:g1=g:=by simpa[Value.ownBlock] using hg
   obtain rfl:g2=g1:=by simpa[Value.ownBlock] using q
   rw[e3] at f3;simp only[Option.some.injEq,Obj.cells.injEq] at f3;exact hte f3.2.1
theorem zAQ.rv_ne {W:World} {D:Nat} {rv fv:Value} {R:Option Bk} {room now:Nat} {F:List Fl} {cA cD cR cM:Nat} (h:zAQ W D rv fv R room now F cA cD cR cM) (x:Nat) (q:rv.ownBlock=some x):x≠D/\fv.ownBlock≠some x:=by
 rcases h.rules with⟨_,rfl⟩|⟨b,B,_,_,q3⟩
 ·cases q
 ·exact⟨fun e=>zAx q3 h.blk (by decide) (e▸q),zPJ q3 h.flows (by decide) q⟩
theorem zAQ.fv_ne {W:World} {D:Nat} {rv fv:Value} {R:Option Bk} {room now:Nat} {F:List Fl} {cA cD cR cM:Nat} (h:zAQ W D rv fv R room now F cA cD cR cM):fv.ownBlock≠some D:=zAx h.flows h.blk (by decide)
theorem zKQ (c:Int) (w:World) (hc: -9223372036854775808<=c/\c<=9223372036854775807):
 Calls Tryz.prog 79 #[.int .i64 c] w fun e w'=>e= .returned (.tuple #[.pointer (some ⟨w.heap.size,0,none⟩),.bool (decide (1<=c)&&decide (c<=64))])/\Below w.heap.size w w'/\Blk 132 w' w.heap.size [.int .i64 c,.bool false,.int .i64 0,.slice none 0 0,.int .u64 0,.slice none 0 0,.int .u64 0,.int .u64 0,.int .u64 0,.int .u64 0]:=by
 clear hc
 by_cases h1:1<=c
 ·have d1:decide (1<=c)=true:=by simpa using h1
  go_enter Tryz.func79,Tryz.ntmps79;go_wp2_with fail;go_ret2;exact⟨by simp[d1],bal _ _,Blk.made w _ [.int .i64 c,.bool false,.int .i64 0,.slice none 0 0,.int .u64 0,.slice none 0 0,.int .u64 0,.int .u64 0,.int .u64 0,.int .u64 0] (zAF rfl)⟩
 ·have d1:decide (1<=c)=false:=by simpa using h1
  go_enter Tryz.func79,Tryz.ntmps79;go_wp2_with fail;go_ret2;exact⟨by simp[d1],bal _ _,Blk.made w _ [.int .i64 c,.bool false,.int .i64 0,.slice none 0 0,.int .u64 0,.slice none 0 0,.int .u64 0,.int .u64 0,.int .u64 0,.int .u64 0] (zAF rfl)⟩
theorem zNg (D:Nat) (s:ByteArray) (W:World) (hs:s.size<=maxLen) (hk:(zAJ s).1≠0):
 Calls Tryz.prog 55 #[.pointer (some ⟨D,0,none⟩),.string s] W fun e w'=>e= .returned (.tuple #[.int .i64 ((zAJ s).1:Int),.int .i64 ((zAJ s).2.1:Int)])/\Below W.heap.size W w':=by
 have HR:Hid (Calls Tryz.prog 9 #[.string s] W fun e w'=>∃(pol:Int) (rp:Option Addr) (rl rc:Nat),e= .returned (.tuple #[.agg #[.int .i64 pol,.slice rp rl rc],.int .i64 ((zAJ s).1:Int),.int .i64 ((zAJ s).2.1:Int)])/\Below W.heap.size W w'):=(zHd s W hs).mono fun e w' ⟨pol,rp,rl,rc,B,he,_,_,hb⟩=>⟨pol,rp,rl,rc,he,hb⟩
 have hk2:((((zAJ s).1:Nat):Int) == 0)=false:=by simp;omega
 generalize ((zAJ s).1:Int)=k at HR hk2;generalize ((zAJ s).2.1:Int)=n at HR;clear hk hs;go_enter Tryz.func55,Tryz.ntmps55;go_wp2_with (go_at_call 9;refine HR.out.mono ?_;rintro e w1 ⟨pol,rp,rl,rc,rfl,hb1⟩);go_ret2;exact⟨rfl,hb1.alloc hb1.size _⟩
theorem zPK {D:Nat} {rv fv:Value} {R:Option Bk} {room now:Nat} {F:List Fl} {cA cD cR cM:Nat} (W:World) (h:zAQ W D rv fv R room now F cA cD cR cM) (s:ByteArray) (hs:s.size<=maxLen) (hk:(zAJ s).1=0) (hgb:zBr (zAJ s).2.2):
 Calls Tryz.prog 55 #[.pointer (some ⟨D,0,none⟩),.string s] W fun e w'=>e= .returned (.tuple #[.int .i64 0,.int .i64 ((zAJ s).2.1:Int)])/\∃rv',zAQ w' D rv' fv (some (zAJ s).2.2) room now F cA cD cR cM/\Trn (fun x=>x=D) W w'/\∀x,rv'.ownBlock=some x->W.heap.size<=x:=by
 have HR:Hid (Calls Tryz.prog 9 #[.string s] W fun e w'=>∃(rp:Option Addr) (rl rc B:Nat),e= .returned (.tuple #[.agg #[.int .i64 ((zAJ s).2.2.pol:Int),.slice rp rl rc],.int .i64 0,.int .i64 ((zAJ s).2.1:Int)])/\W.heap.size<=B/\w'.ownsRow B 65 24 (.slice rp rl rc) (zAJ s).2.2.rs.length (zBE (zAJ s).2.2.rs)/\Below W.heap.size W w'):=(zHd s W hs).mono fun e w' ⟨pol,rp,rl,rc,B,he,hB,h,hb⟩=>by
  obtain⟨rfl,ho⟩:=h hk;exact⟨rp,rl,rc,B,by rw[he,hk];rfl,hB,ho,hb⟩
 have HG:=hid hgb;have HH:=hid h;have hD:=h.blk.lt;have hDn:D≠W.heap.size:=Nat.ne_of_lt hD;generalize (zAJ s).2.2=b at HR HG;generalize ((zAJ s).2.1:Int)=n at HR;clear h hs hk hgb;go_enter Tryz.func55,Tryz.ntmps55;go_upto_region 2 with(go_at_call 9;refine HR.out.mono ?_;rintro e w1 ⟨rp,rl,rc,B,rfl,hB,ho,hb1⟩;have H1:=hid (HH.out.below hb1);have HO:=hid (And.intro hB ho);have HB:=hid hb1;clear ho hb1 hB)
 have c1:=H1.out.blk.cell 1 _ rfl;have c2:=H1.out.blk.cell 2 _ rfl;have c3:=H1.out.blk.cell 3 _ rfl;have f1:=H1.out.blk.frozen 1;have f2:=H1.out.blk.frozen 2;have f3:=H1.out.blk.frozen 3;have hD1:=H1.out.blk.lt;have hDn1:D≠w1.heap.size:=Nat.ne_of_lt hD1;go_wp2_with fail;go_ret2;have t:Trn (fun x=>x=D) w1 ((((w1.setCell ⟨D,2,none⟩ (.int .i64 (b.pol:Int))).setCell ⟨D,3,none⟩ (.slice rp rl rc)).setCell ⟨D,1,none⟩ (.bool true)).alloc (.cells #[.int .i64 (b.pol:Int),.slice rp rl rc] 27)):=(((Trn.setCell (S:=fun x=>x=D) _ D 2 _ rfl).trans (Trn.setCell (S:=fun x=>x=D) _ D 3 _ rfl) (fun _ _ q=>q)).trans (Trn.setCell (S:=fun x=>x=D) _ D 1 _ rfl) (fun _ _ q=>q)).trans (Trn.alloc _ _ _) (fun _ _ q=>q);have ob:∀x,(Value.slice rp rl rc).ownBlock=some x->W.heap.size<=x:=fun x q=>Nat.le_trans HO.out.1 (HO.out.2.lt x q).1
 exact⟨rfl,.slice rp rl rc,⟨(((H1.out.blk.set 2 (.int .i64 (b.pol:Int))).set 3 (.slice rp rl rc)).set 1 (.bool true)).alloc _,.inr ⟨b,B,rfl,HG.out,zAr HO.out.2 t (fun x q e=>by have:=ob x q;omega)⟩,zAr H1.out.flows t (fun x q e=>H1.out.fv_ne (e▸q))⟩,(Trn.below HB.out).trans t (fun _ _ q=>q),ob⟩
end Go.Proofs.YtclpnafiiobfhaaGreatDoor

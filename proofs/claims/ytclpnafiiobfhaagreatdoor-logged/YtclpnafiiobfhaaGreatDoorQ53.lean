import Derived.Test.YtclpnafiiobfhaaGreatDoorQ52
import Derived.Test.YtclpnafiiobfhaaGreatDoorQ46
import Derived.Deep.Slices
set_option linter.unusedVariables false
set_option linter.unusedSimpArgs false
set_option maxHeartbeats 6400000
set_option maxRecDepth 100000
namespace Go.Proofs.YtclpnafiiobfhaaGreatDoor
open Go.RowKit
def lpk (c n:Int):Int:=(if c<0 then-(c+1) else c) % n
theorem zRw (c n:Int) (h:0<n):0<=lpk c n/\lpk c n<n:=⟨Int.emod_nonneg _ (by omega),Int.emod_lt_of_pos _ h⟩
theorem zFj (c n:Int) (w:World) (hc: -9223372036854775808<=c/\c<=9223372036854775807) (hn:1<=n/\n<=1000000):
 Calls Tryz.prog 13 #[.int .i64 c,.int .i64 n] w fun e w'=>e= .returned (.int .i64 (lpk c n))/\w'=w:=by
 have h0:¬n=0:=by omega
 by_cases h:c<0
 ·have e:lpk c n=(-(c+1)) % n:=by simp[lpk,h]
  rw[e]
  go_enter Tryz.func13,Tryz.ntmps13
  go_wp2
  go_ret
  exact⟨zDV (by rw[<-Int.neg_tmod,Int.tmod_eq_emod_of_nonneg (by omega)]),rfl⟩
 ·have e:lpk c n=c % n:=by simp[lpk,h]
  rw[e]
  go_enter Tryz.func13,Tryz.ntmps13
  go_wp2
  go_ret
  exact⟨rfl,rfl⟩
def zIV:List Gt->List Value
 |[]=>[]
 |q::L=> .pointer (some ⟨q.q,0,none⟩):: .pointer (some ⟨q.d,0,none⟩):: .pointer (q.b.map fun x=>⟨x,0,none⟩)::zIV L
theorem zKV:∀(A B:List Gt),zIV (A++B)=zIV A++zIV B
 |[],_=>rfl
 |q::A,B=>by simp[zIV,zKV A B]
theorem zNx:∀(L:List Gt) (i:Nat) (q:Gt),L[i]? =some q->(zIV L)[i*3]? =some (.pointer (some ⟨q.q,0,none⟩))/\(zIV L)[i*3+1]? =some (.pointer (some ⟨q.d,0,none⟩))/\(zIV L)[i*3+2]? =some (.pointer (q.b.map fun x=>⟨x,0,none⟩))
 |[],i,q,h=>by simp at h
 |p::L,0,q,h=>by
  simp only[List.getElem?_cons_zero,Option.some.injEq] at h
  subst h
  exact⟨rfl,rfl,rfl⟩
 |p::L,i+1,q,h=>by
  simp only[List.getElem?_cons_succ] at h
  obtain⟨a,b,c⟩:=zNx L i q h
  refine⟨?_,?_,?_⟩
  ·rw[show(i+1)*3=i*3+3 by omega];exact a
  ·rw[show(i+1)*3+1=i*3+1+3 by omega];exact b
  ·rw[show(i+1)*3+2=i*3+2+3 by omega];exact c
structure zAo (W:World) (B V:Nat) (gv:Value) (L:List Gt) (N:Nat):Prop where
 blk:Blk 89 W V [gv,.bool false]
 row:W.ownsRow B 122 3 gv L.length (zIV L)
 at_:∃Sf:Nat->Nat->Prop,(∀i q,L[i]? =some q->zEh W (Sf i) q N)/\(∀i j,i<L.length->j<L.length->i≠j->∀x,Sf i x->¬Sf j x)/\∀i x,i<L.length->Sf i x->B<=x/\x≠V/\gv.ownBlock≠some x
 len:L.length<=N
 base:B<=V
theorem zAo.below {W W':World} {B V N:Nat} {gv:Value} {L:List Gt} (h:zAo W B V gv L N) (hb:Below W.heap.size W W'):zAo W' B V gv L N:=by
 obtain⟨Sf,h1,h2,h3⟩:=h.at_
 exact⟨h.blk.below hb h.blk.lt,zGP h.row hb,⟨Sf,fun i q e=>(h1 i q e).below hb,h2,h3⟩,h.len,h.base⟩
theorem zAo.le {W:World} {B V N N':Nat} {gv:Value} {L:List Gt} (h:zAo W B V gv L N) (hn:N<=N'):zAo W B V gv L N':=by
 obtain⟨Sf,h1,h2,h3⟩:=h.at_
 exact⟨h.blk,h.row,⟨Sf,fun i q e=>(h1 i q e).le hn,h2,h3⟩,Nat.le_trans h.len hn,h.base⟩
theorem zAo.one {W:World} {B V N i:Nat} {gv:Value} {L:List Gt} {q:Gt} (h:zAo W B V gv L N) (hi:L[i]? =some q):∃S,zEh W S q N/\(∀x,S x->B<=x)/\∀w' N',N<=N'->zIU W S q N' w'->zAo w' B V gv L N'/\Below B W w':=by
 obtain⟨Sf,h1,h2,h3⟩:=h.at_
 have hil:i<L.length:=(List.getElem?_eq_some_iff.1 hi).1
 refine⟨Sf i,h1 i q hi,fun x z=>(h3 i x hil z).1,fun w' N' hn ht=> ?_⟩
 obtain⟨S',p',t',n'⟩:=ht
 have hV:=h.blk.lt
 have hBW:B<=W.heap.size:=Nat.le_trans h.base (Nat.le_of_lt hV)
 refine⟨⟨h.blk.trn t' (fun z=>(h3 i V hil z).2.1 rfl),zAr h.row t' (fun x e z=>(h3 i x hil z).2.2 e),⟨fun j=>if j=i then S' else Sf j,fun j r hj=> ?_,fun j k hj hk hne x hx hy=> ?_,fun j x hj hx=> ?_⟩,Nat.le_trans h.len hn,h.base⟩,t'.to_below hBW (fun m hm z=>by have:=(h3 i m hil z).1;omega)⟩
 ·by_cases e:j=i
  ·subst e
   rw[hi] at hj
   cases hj
   simpa using p'
  ·have hjl:j<L.length:=(List.getElem?_eq_some_iff.1 hj).1
   simp only[if_neg e]
   exact((h1 j r hj).trn t' (fun x z y=>h2 j i hjl hil e x z y)).le hn
 ·by_cases e:j=i
  ·subst e
   have e2:k≠j:=fun z=>hne z.symm
   simp only[if_true] at hx
   simp only[if_neg e2] at hy
   rcases n' x hx with z|z
   ·exact h2 j k hj hk hne x z hy
   ·obtain⟨r,hr⟩:∃r,L[k]? =some r:=⟨_,List.getElem?_eq_getElem hk⟩
    have:=(h1 k r hr).lt x hy;omega
  ·simp only[if_neg e] at hx
   by_cases e2:k=i
   ·subst e2
    simp only[if_true] at hy
    rcases n' x hy with z|z
    ·exact h2 j k hj hk hne x hx z
    ·obtain⟨r,hr⟩:∃r,L[j]? =some r:=⟨_,List.getElem?_eq_getElem hj⟩
     have:=(h1 j r hr).lt x hx;omega
   ·simp only[if_neg e2] at hy
    exact h2 j k hj hk hne x hx hy
 ·by_cases e:j=i
  ·subst e
   simp only[if_true] at hx
   rcases n' x hx with z|z
   ·exact h3 j x hj z
   ·refine⟨by omega,by omega,fun q=> ?_⟩
    have:=(h.row.lt x q).2;omega
  ·simp only[if_neg e] at hx
   exact h3 j x hj hx
theorem zAo.more {W W1 w2:World} {B V N g c:Nat} {q:Gt} {S:Nat->Prop} {gv:Value} {L:List Gt} (h:zAo W B V gv L N) (hb:Below W.heap.size W W1) (hp:zEh W1 S q N) (hS:∀x,S x->W.heap.size<=x) (hg:W1.grownBy w2 gv.ownBlock) (ho:w2.ownsRow B 122 3 (.slice (some ⟨g,0,none⟩) (L.length+1) c) (L.length+1) (zIV (L++[q]))) (hat:gv.ownBlock=some g\/W1.heap.size<=g):
 zAo (w2.setCell ⟨V,0,none⟩ (.slice (some ⟨g,0,none⟩) (L.length+1) c)) B V (.slice (some ⟨g,0,none⟩) (L.length+1) c) (L++[q]) (N+1)/\Below B W (w2.setCell ⟨V,0,none⟩ (.slice (some ⟨g,0,none⟩) (L.length+1) c)):=by
 obtain⟨Sf,h1,h2,h3⟩:=h.at_
 have hV:=h.blk.lt
 have hBW:B<=W.heap.size:=Nat.le_trans h.base (Nat.le_of_lt hV)
 have hz:=hb.size
 have gl:∀x,gv.ownBlock=some x->B<=x/\x<W.heap.size:=fun x q=>h.row.lt x q
 have gV:gv.ownBlock≠some V:=zAx h.row h.blk (by decide)
 have ln:∀i x,i<L.length->Sf i x->x<W.heap.size:=fun i x hi q=>by
  obtain⟨r,hr⟩:∃r,L[i]? =some r:=⟨_,List.getElem?_eq_getElem hi⟩
  exact(h1 i r hr).lt x q
 have t2:Trn (fun x=>gv.ownBlock=some x\/x=V) W1 w2:=Trn.grown' hg (fun b q=> .inl q)
 have t3:Trn (fun x=>gv.ownBlock=some x\/x=V) W1 (w2.setCell ⟨V,0,none⟩ (.slice (some ⟨g,0,none⟩) (L.length+1) c)):=t2.trans (Trn.setCell (S:=fun x=>gv.ownBlock=some x\/x=V) w2 V 0 _ (.inr rfl)) (fun _ _ q=>q)
 have b2:Blk 89 w2 V [gv,.bool false]:=⟨(hg.block V (by omega) (fun q=>gV q.symm)).trans (h.blk.below hb hV).1,h.blk.2⟩
 have gneV:g≠V:=by
  rcases hat with q|q
  ·exact fun e=>gV (e▸q)
  ·omega
 refine⟨⟨b2.set 0 _,zAr (by rw[List.length_append];exact ho) (Trn.setCell (S:=fun x=>x=V) w2 V 0 _ rfl) (fun x q e=> ?_),⟨fun j=>if j<L.length then Sf j else S,fun j r hj=> ?_,fun j k hj hk hne x hx hy=> ?_,fun j x hj hx=> ?_⟩,by rw[List.length_append];have:=h.len;simp;omega,h.base⟩,?_⟩
 ·obtain rfl:g=x:=by simpa[Value.ownBlock] using q
  exact gneV e
 ·by_cases e:j<L.length
  ·rw[List.getElem?_append_left e] at hj
   simp only[if_pos e]
   exact(((h1 j r hj).below hb).trn t3 (fun x q z=>by
    rcases z with z|z
    ·exact(h3 j x e q).2.2 z
    ·exact(h3 j x e q).2.1 z)).le (Nat.le_succ _)
  ·have hjl:j<L.length+1:=by have:=(List.getElem?_eq_some_iff.1 hj).1;simpa using this
   obtain rfl:j=L.length:=by omega
   simp at hj
   subst hj
   simp only[if_neg e]
   exact(hp.trn t3 (fun x q z=>by
    have:=hS x q
    rcases z with z|z
    ·have:=(gl x z).2;omega
    ·omega)).le (Nat.le_succ _)
 ·rw[List.length_append] at hj hk
  simp only[List.length_cons,List.length_nil] at hj hk
  by_cases e:j<L.length
  ·simp only[if_pos e] at hx
   by_cases e2:k<L.length
   ·simp only[if_pos e2] at hy
    exact h2 j k e e2 hne x hx hy
   ·simp only[if_neg e2] at hy
    have:=ln j x e hx;have:=hS x hy;omega
  ·simp only[if_neg e] at hx
   by_cases e2:k<L.length
   ·simp only[if_pos e2] at hy
    have:=ln k x e2 hy;have:=hS x hx;omega
   ·omega
 ·by_cases e:j<L.length
  ·simp only[if_pos e] at hx
   obtain⟨a,b,c'⟩:=h3 j x e hx
   refine⟨a,b,fun q=> ?_⟩
   obtain rfl:g=x:=by simpa[Value.ownBlock] using q
   rcases hat with z|z
   ·exact c' z
   ·have:=ln j g e hx;omega
  ·simp only[if_neg e] at hx
   have hx2:=hS x hx
   refine⟨by omega,by omega,fun q=> ?_⟩
   obtain rfl:g=x:=by simpa[Value.ownBlock] using q
   rcases hat with z|z
   ·have:=(gl g z).2;omega
   ·have:=hp.lt g hx;omega
 ·exact(hb.mono hBW).trans (t3.to_below (by omega) (fun m hm q=>by
   rcases q with q|q
   ·have:=(gl m q).1;omega
   ·have:=h.base;omega))
structure Loc (n:Nat) (A B:World):Prop where
 size:A.heap.size<=B.heap.size
 block:∀m,n<=m->m<A.heap.size->B.heap[m]? =A.heap[m]?
theorem Loc.cell {n:Nat} {A B:World} (h:Loc n A B) {p:Addr} {v:Value} (hn:n<=p.block) (hv:A.cell? p=some v):B.cell? p=some v:=
 (World.cell?_of_block (h.block p.block hn (World.block_lt_of_cell? A p hv))).trans hv
theorem Loc.trn {n:Nat} {A B:World} {S:Nat->Prop} (t:Trn S A B) (h:∀x,S x->x<n):Loc n A B:=⟨t.size,fun m h1 h2=>t.block m h2 (fun q=>by have:=h m q;omega)⟩
section
variable {W V0 : World} {B V N i : Nat} {gv : Value} {L : List Gt} {q : Gt}
theorem zAo.two (h:zAo W B V gv L N) (hi:L[i]? =some q) (hb:Below W.heap.size W V0):∃S,zEh V0 S q N/\(∀x,S x->x<W.heap.size)/\∀w' N',N<=N'->zIU V0 S q N' w'->zAo w' B V gv L N'/\Below B W w':=by
 obtain⟨Sf,h1,h2,h3⟩:=h.at_
 obtain⟨S,p1,p2,p3⟩:=h.one hi
 obtain⟨S',r1,r2,r3⟩:=(h.below hb).one hi
 have hz:=hb.size
 refine⟨S,p1.below hb,fun x z=>p1.lt x z,fun w' N' hn ht=> ?_⟩
 obtain⟨T,a,b,c⟩:=ht
 refine p3 w' N' hn ⟨T,a,(Trn.below hb).trans b (fun _ _ z=>z),fun x z=> ?_⟩
 rcases c x z with y|y
 ·exact .inl y
 ·exact .inr (by omega)
theorem zLM (h:zAo W B V gv L N) (hi:L[i]? =some q) (hb:Below W.heap.size W V0) (hL:zBU W) (hm:zBx W) (s:ByteArray) (hs:s.size<=maxLen):
 Calls Tryz.prog 54 #[.pointer (some ⟨q.q,0,none⟩),.string s] V0 fun e w1=>e= .returned (.tuple #[.int .i64 ((zAJ s).1:Int),.int .i64 ((zAJ s).2.1:Int)])/\Loc W.heap.size V0 w1/\∀w2,Below w1.heap.size w1 w2->Calls Tryz.prog 55 #[.pointer (some ⟨q.d,0,none⟩),.string s] w2 fun e w3=>e= .returned (.tuple #[.int .i64 ((zAJ s).1:Int),.int .i64 ((zAJ s).2.1:Int)])/\zAo w3 B V gv L N/\Below B W w3:=by
 obtain⟨S,p1,p2,p3⟩:=h.two hi hb
 obtain⟨S1,r1,r2,r3⟩:=p1.lift
 refine(zNv r1 (hL.below hb) (hm.below hb) s hs).mono fun e w1 z=>⟨z.1,Loc.trn z.2.1 (fun x q=>p2 x (r2 x q)),fun w2 hb2=>(z.2.2 w2 hb2).mono fun e w3 y=>⟨y.1,p3 w3 N (Nat.le_refl _) (r3 w3 N (Nat.le_refl _) y.2)⟩⟩
theorem zLN (h:zAo W B V gv L N) (hi:L[i]? =some q) (hb:Below W.heap.size W V0) (m:Nat) (hm:m<=zCr):
 Calls Tryz.prog 57 #[.pointer (some ⟨q.q,0,none⟩),.int .u64 (m:Int)] V0 fun e w1=>e= .returned (.tuple #[])/\Loc W.heap.size V0 w1/\∀w2,Below w1.heap.size w1 w2->Calls Tryz.prog 58 #[.pointer (some ⟨q.d,0,none⟩),.int .u64 (m:Int)] w2 fun e w3=>e= .returned (.tuple #[])/\zAo w3 B V gv L N/\Below B W w3:=by
 obtain⟨S,p1,p2,p3⟩:=h.two hi hb
 obtain⟨S1,r1,r2,r3⟩:=p1.lift
 refine(zNw r1 m hm).mono fun e w1 z=>⟨z.1,Loc.trn z.2.1 (fun x q=>p2 x (r2 x q)),fun w2 hb2=>(z.2.2 w2 hb2).mono fun e w3 y=>⟨y.1,p3 w3 N (Nat.le_refl _) (r3 w3 N (Nat.le_refl _) y.2)⟩⟩
theorem zNy (h:zAo W B V gv L N) (hi:L[i]? =some q) (hb:Below W.heap.size W V0):∃now:Nat,(Calls Tryz.prog 59 #[.pointer (some ⟨q.q,0,none⟩)] V0 fun e w1=>e= .returned (.int .u64 (now:Int))/\w1=V0)/\V0.cell? ⟨q.d,4,none⟩=some (.int .u64 (now:Int)):=by
 obtain⟨S,p1,p2,p3⟩:=h.two hi hb
 obtain⟨S1,S2,⟨O,cv,rv,fv,R,room,now,b,F,cA,cD,cR,cM,h,_⟩,_⟩:=p1
 exact⟨now,zO7 V0 h.gate,h.doc.blk.cell 4 _ rfl⟩
theorem zIW (h:zAo W B V gv L N) (hi:L[i]? =some q) (hb:Below W.heap.size W V0):∃cA cD cR cM:Nat,(Calls Tryz.prog 62 #[.pointer (some ⟨q.q,0,none⟩)] V0 fun e w1=>e= .returned (.agg #[.int .u64 (cA:Int),.int .u64 (cD:Int),.int .u64 (cR:Int),.int .u64 (cM:Int)])/\Below V0.heap.size V0 w1)/\V0.cell? ⟨q.d,6,none⟩=some (.int .u64 (cA:Int))/\V0.cell? ⟨q.d,7,none⟩=some (.int .u64 (cD:Int))/\V0.cell? ⟨q.d,8,none⟩=some (.int .u64 (cR:Int))/\V0.cell? ⟨q.d,9,none⟩=some (.int .u64 (cM:Int))/\q.d<V0.heap.size:=by
 obtain⟨S,p1,p2,p3⟩:=h.two hi hb
 obtain⟨S1,S2,⟨O,cv,rv,fv,R,room,now,b,F,cA,cD,cR,cM,h,_⟩,_⟩:=p1
 exact⟨cA,cD,cR,cM,zJQ V0 h.gate,h.doc.blk.cell 6 _ rfl,h.doc.blk.cell 7 _ rfl,h.doc.blk.cell 8 _ rfl,h.doc.blk.cell 9 _ rfl,h.doc.blk.lt⟩
end
theorem zNz (a b p s d u:Int) (rep clo:Bool) (w:World):(binOp .neq 197 (.agg #[.int .u32 a,.int .u32 b,.int .u8 p,.int .u16 s,.int .u16 d,.bool rep,.bool clo,.int .u64 u]) (.agg #[.int .u32 a,.int .u32 b,.int .u8 p,.int .u16 s,.int .u16 d,.bool rep,.bool clo,.int .u64 u])).run Tryz.prog w= .ok (.bool false) w:=by
 have u1:=Tryz.underlying35
 have u2:=Tryz.underlying36
 have u3:=Tryz.underlying5
 have u4:=Tryz.underlying4
 have u5:=Tryz.underlying125
 have hS:Tryz.prog.underlying 197=some (.struct (Tryz.prog.fieldsOf 197)):=by kernel_rfl
 have hp:Tryz.prog.stoodInHeld 197=false:=by kernel_rfl
 rw[run_neq_struct,show(10000:Nat)=9999+1 from rfl,run_equalIn_agg w 9999 197 _ _ hS hp]
 simp only[Program.fieldsOf,Tryz.underlying197]
 go_simp
theorem zIX (a b c d:Int) (w:World):(binOp .eql 130 (.agg #[.int .u64 a,.int .u64 b,.int .u64 c,.int .u64 d]) (.agg #[.int .u64 a,.int .u64 b,.int .u64 c,.int .u64 d])).run Tryz.prog w= .ok (.bool true) w:=by
 have u5:=Tryz.underlying125
 have hS:Tryz.prog.underlying 130=some (.struct (Tryz.prog.fieldsOf 130)):=by kernel_rfl
 have hp:Tryz.prog.stoodInHeld 130=false:=by kernel_rfl
 rw[run_eql_struct,show(10000:Nat)=9999+1 from rfl,run_equalIn_agg w 9999 130 _ _ hS hp]
 simp only[Program.fieldsOf,Tryz.underlying130]
 go_simp
theorem zN0 (p:Option Addr) (n c:Nat) (h:(p=none/\c=0)\/∃g,p=some ⟨g,0,none⟩) (W:World):(Instr.slice 128 (.slice p n c) none (some (.int .i64 (c:Int))) none).run Tryz.prog W= .ok (.slice p c c) W:=by
 rcases h with⟨rfl,rfl⟩|⟨g,rfl⟩
 ·have hs:∀w,(sizeOf (Tryz.prog.elem 128)).run Tryz.prog w= .ok 8 w:=fun w=>by kernel_rfl
  have e:(Tryz.prog.elem 128)=197:=by kernel_rfl
  rw[run_slice_h (P:=Tryz.prog) W 128 none n 0 (by rw[e];exact Tryz.underlying128) .i64 ((0:Nat):Int) (by omega) (by omega),hs]
  simp[Result.andThen,sliced]
 ·exact zG8 c g n c (Nat.le_refl _) W
def zIY (B:Nat) (W:World) (p:Option Addr) (c:Nat):Prop:=(p=none/\c=0)\/∃g,p=some ⟨g,0,none⟩/\B<=g/\g<W.heap.size/\∀i,i<c->W.cell? ⟨g,i*8,none⟩=some (.int .u32 77)/\W.cell? ⟨g,i*8+7,none⟩=some (.int .u64 7)
theorem zIY.below {B c:Nat} {W W':World} {p:Option Addr} (h:zIY B W p c) (hb:Below W.heap.size W W'):zIY B W' p c:=by
 rcases h with q|⟨g,q1,q2,q3,q4⟩
 ·exact .inl q
 ·exact .inr ⟨g,q1,q2,Nat.lt_of_lt_of_le q3 hb.size,fun i hi=>⟨(hb.cell (p:=⟨g,i*8,none⟩) q3).trans (q4 i hi).1,(hb.cell (p:=⟨g,i*8+7,none⟩) q3).trans (q4 i hi).2⟩⟩
theorem zPS {w:World} {B n:Nat} {v:Value} {xs:List Value} (h:w.ownsRow B 197 8 v n xs):∃p c ys,v= .slice p n c/\((p=none/\c=0)\/∃g,p=some ⟨g,0,none⟩)/\c<=maxLen/\w.ownsRow B 197 8 (.slice p c c) c ys:=by
 rcases h.2 with⟨q,e⟩|⟨g,cap,cur,q,q2,q3,q4,q5,q6,q7⟩
 ·exact⟨none,0,[],by rw[q,e],.inl ⟨rfl,rfl⟩,Nat.zero_le _,World.ownsRow_nil _ _ _ _⟩
 ·exact⟨_,cap,cur.toList,q,.inr ⟨g,rfl⟩,q5,by simpa using q6,.inr ⟨g,cap,cur,rfl,q2,q3,Nat.le_refl _,q5,q6,List.take_of_length_le (by simp;omega)⟩⟩
theorem zN1 (xs:List Value) (q:Nat) (hx:q*8+7<xs.length) (v1 v2 v3 v4 v5 v6:Value) (h:∀i,i<q->xs[i*8]? =some (.int .u32 77)/\xs[i*8+7]? =some (.int .u64 7)):
 ∀i,i<q+1->((((((((xs.set (q*8) (.int .u32 77)).set (q*8+1) v1).set (q*8+2) v2).set (q*8+3) v3).set (q*8+4) v4).set (q*8+5) v5).set (q*8+6) v6).set (q*8+7) (.int .u64 7))[i*8]? =some (.int .u32 77)/\((((((((xs.set (q*8) (.int .u32 77)).set (q*8+1) v1).set (q*8+2) v2).set (q*8+3) v3).set (q*8+4) v4).set (q*8+5) v5).set (q*8+6) v6).set (q*8+7) (.int .u64 7))[i*8+7]? =some (.int .u64 7):=by
 intro i hi
 by_cases e:i=q
 ·subst e
  constructor
  ·rw[List.getElem?_set_ne (by omega),List.getElem?_set_ne (by omega),List.getElem?_set_ne (by omega),List.getElem?_set_ne (by omega),List.getElem?_set_ne (by omega),List.getElem?_set_ne (by omega),List.getElem?_set_ne (by omega),List.getElem?_set_self (by omega)]
  ·rw[List.getElem?_set_self (by simp;omega)]
 ·obtain⟨a,b⟩:=h i (by omega)
  constructor
  ·rw[List.getElem?_set_ne (by omega),List.getElem?_set_ne (by omega),List.getElem?_set_ne (by omega),List.getElem?_set_ne (by omega),List.getElem?_set_ne (by omega),List.getElem?_set_ne (by omega),List.getElem?_set_ne (by omega),List.getElem?_set_ne (by omega),a]
  ·rw[List.getElem?_set_ne (by omega),List.getElem?_set_ne (by omega),List.getElem?_set_ne (by omega),List.getElem?_set_ne (by omega),List.getElem?_set_ne (by omega),List.getElem?_set_ne (by omega),List.getElem?_set_ne (by omega),List.getElem?_set_ne (by omega),b]
theorem zLO {Q D K N:Nat} {lg:Value} {S:Nat->Prop} (W:World) (h:zGT W S Q D K lg N):
 Calls Tryz.prog 60 #[.agg #[.pointer (some ⟨Q,0,none⟩),.pointer (some ⟨D,0,none⟩),.pointer none]] W fun e w'=>e= .returned (.bool true)/\Below W.heap.size W w':=by
 obtain⟨O,cv,rv,fv,R,room,now,b,F,cA,cD,cR,cM,h,rfl⟩:=h
 have HG:Hid (zAa W Q K O lg cv R room now b F cA cD cR cM):=h.gate
 have HD:Hid (zAQ W D rv fv R room now F cA cD cR cM):=h.doc
 have hF:F.length<=64:=by have:=h.gate.small;omega
 obtain⟨pp,cc,hfv⟩:=zAn h.doc.flows
 have hD:=h.doc.blk.lt
 clear h
 go_enter Tryz.func60,Tryz.ntmps60
 go_wp2_with fail
 obtain⟨W0,hW0⟩:∃W0,W.alloc (.cells #[.pointer (some ⟨Q,0,none⟩),.pointer (some ⟨D,0,none⟩),.pointer none] 122)=W0:=⟨_,rfl⟩
 rw[hW0]
 have B0:Below W.heap.size W W0:=by rw[<-hW0];exact bal _ _
 have z0:W0.heap.size=W.heap.size+1:=by rw[<-hW0];simp
 have HC:Hid (∀i x,(#[.pointer (some ⟨Q,0,none⟩),.pointer (some ⟨D,0,none⟩),.pointer none]:Array Value)[i]? =some x->W0.cell? ⟨W.heap.size,i,none⟩=some x):=fun i x hx=>by
  rw[<-hW0,World.cell?_alloc_at _ _ _ _ rfl];exact hx
 have HB0:Hid (Below W.heap.size W W0):=B0
 clear hW0 B0
 go_loopw [3,4] (fun f k wr=>∃(j:Nat) (p:Option Addr) (c:Nat),j<=2/\c<=9223372036854775807/\k= .int .i64 j/\f= .slice p c c/\zIY W0.heap.size wr p c/\Below W0.heap.size W0 wr) (fun _ k _=>2-(intOf k).toNat)
 case atStart=>exact⟨0,none,0,by omega,by omega,rfl,rfl,.inl ⟨rfl,rfl⟩,Below.refl _ _⟩
 case round=>
  obtain⟨j,p,c,hj,hc9,rfl,rfl,hsp,hbr⟩:=hrel
  have HS:Hid (zIY W0.heap.size wr p c):=hsp
  have HBr:Hid (Below W0.heap.size W0 wr):=hbr
  have hzr:=hbr.size
  clear hsp hbr
  by_cases hlt:j<2
  ·have i2:(j:Int)<2:=by omega
   have i3:IntKind.i64.wrap ((j:Int)+1)=(j:Int)+1:=by rw[IntKind.wrap_i64];omega
   have HLI:Hid (Calls _ _ _ wr _):=zNY wr (HG.out.below (HB0.out.trans (HBr.out.mono (by omega))))
   have g0:=(HBr.out.cell (p:=⟨W.heap.size,0,none⟩) (by show W.heap.size<_;omega)).trans (HC.out 0 _ rfl)
   have i1:(0:Int)<=(j:Int):=by omega
   go_wp2_with (go_at_call 90;refine HLI.out.mono ?_;rintro e w2 ⟨v,rfl,ho2,hb2⟩;obtain⟨pl,cl,ys,hv,hpl,hcm,hcap⟩:=zPS ho2;subst hv;have HO2:Hid (w2.ownsRow wr.heap.size 197 8 (.slice pl F.length cl) F.length (zAV F)/\w2.ownsRow wr.heap.size 197 8 (.slice pl cl cl) cl ys):=⟨ho2,hcap⟩;have HPL:Hid ((pl=none/\cl=0)\/∃g,pl=some ⟨g,0,none⟩):=hpl;have HB2:Hid (Below wr.heap.size wr w2):=hb2;have hz2:=hb2.size;clear ho2 hcap hpl hb2)
   unfold maxLen at hcm
   have HSw:Hid (∀w',Below w2.heap.size w2 w'->zIY W0.heap.size w' p c):=fun w' hb=>(HS.out.below HB2.out).below hb
   have HDw:Hid (∀w',Below w2.heap.size w2 w'->zAQ w' D rv (.slice pp F.length cc) R room now F cA cD cR cM/\w'.cell? ⟨W.heap.size,1,none⟩=some (.pointer (some ⟨D,0,none⟩))):=fun w' hb=>by
    have bw:Below W0.heap.size W0 w':=(HBr.out.trans (HB2.out.mono hzr)).trans (hb.mono (by omega))
    refine⟨?_,(bw.cell (p:=⟨W.heap.size,1,none⟩) (by show W.heap.size<_;omega)).trans (HC.out 1 _ rfl)⟩
    rw[<-hfv]
    exact HD.out.below (HB0.out.trans (bw.mono (by omega)))
   clear g0 HLI
   go_loopw [6] (fun i wi=>∃q:Nat,q<=c/\i= .int .i64 q/\Below w2.heap.size w2 wi) (fun i _=>c-(intOf i).toNat)
   case atStart=>exact⟨0,Nat.zero_le _,rfl,Below.refl _ _⟩
   case round=>
    rename World=>wi
    obtain⟨q,hq,rfl,hbi⟩:=hrel
    have HBi:Hid (Below w2.heap.size w2 wi):=hbi
    have HSi:Hid (zIY W0.heap.size wi p c):=HSw.out wi hbi
    clear hbi
    by_cases hqc:q<c
    ·rcases HSi.out with⟨_,e⟩|⟨g,e,hg1,hg2,hcs⟩
     ·omega
     ·subst e
      obtain⟨s0,s7⟩:=hcs q hqc
      have m1:(0:Int)<=(q:Int):=by omega
      have m2:(q:Int)<(c:Int):=by omega
      have m3:IntKind.i64.wrap ((q:Int)+1)=(q:Int)+1:=by rw[IntKind.wrap_i64];omega
      clear hcs
      go_wp2_with fail
      go_roundw
      case measure=>simp[intOf];omega
      case rel=>exact⟨q+1,by omega,by simp,HBi.out⟩
    ·obtain rfl:q=c:=by omega
     have m2:¬(q:Int)<(q:Int):=by omega
     obtain⟨hdi,g1⟩:=HDw.out wi HBi.out
     have d5:=hdi.blk.cell 5 _ rfl
     clear hdi
     go_wp2_with fail
     clear d5 g1
     go_loopw [7] (fun i wx=>∃r:Nat,r<=F.length/\i= .int .i64 r/\Below w2.heap.size w2 wx) (fun i _=>F.length-(intOf i).toNat)
     case atStart=>exact⟨0,Nat.zero_le _,rfl,HBi.out⟩
     case round=>
      rename World=>wx
      obtain⟨r,hr,rfl,hbx⟩:=hrel
      have HBx:Hid (Below w2.heap.size w2 wx):=hbx
      clear hbx
      by_cases hrl:r<F.length
      ·obtain⟨x,hx⟩:∃x,F[r]? =some x:=⟨_,List.getElem?_eq_getElem hrl⟩
       obtain⟨hdx,g1⟩:=HDw.out wx HBx.out
       have d5:=hdx.blk.cell 5 _ rfl
       obtain⟨gd,c',e,_,hcd⟩:=hdx.flow hx
       cases e
       obtain⟨gl,rfl,hlc⟩:∃gl,pl=some ⟨gl,0,none⟩/\∀k v,x.l[k]? =some v->wx.cell? ⟨gl,r*8+k,none⟩=some v:=by
        rcases HO2.out.1.2 with⟨_,e⟩|⟨gl,cap,cur,e,h1,h2,_⟩
        ·omega
        ·cases e
         exact⟨gl,rfl,fun k v hv=>(HBx.out.cell (p:=⟨gl,r*8+k,none⟩) (Array.getElem?_eq_some_iff.1 h2).1).trans (zJT HO2.out.1 rfl r x hx k v hv)⟩
       have HLc:Hid (∀k v,x.l[k]? =some v->wx.cell? ⟨gl,r*8+k,none⟩=some v):=hlc
       have HDc:Hid (∀k v,x.l[k]? =some v->wx.cell? ⟨gd,r*8+k,none⟩=some v):=hcd
       obtain⟨x1,x2,x3,x4,x5,x6,x7,x8⟩:=x
       have l0:=HLc.out 0 _ rfl
       have e0:=HDc.out 0 _ rfl
       have l1:=HLc.out 1 _ rfl
       have e1:=HDc.out 1 _ rfl
       have l2:=HLc.out 2 _ rfl
       have e2:=HDc.out 2 _ rfl
       have l3:=HLc.out 3 _ rfl
       have e3:=HDc.out 3 _ rfl
       have l4:=HLc.out 4 _ rfl
       have e4:=HDc.out 4 _ rfl
       have l5:=HLc.out 5 _ rfl
       have e5:=HDc.out 5 _ rfl
       have l6:=HLc.out 6 _ rfl
       have e6:=HDc.out 6 _ rfl
       have l7:=HLc.out 7 _ rfl
       have e7:=HDc.out 7 _ rfl
       dsimp only at l0 l1 l2 l3 l4 l5 l6 l7 e0 e1 e2 e3 e4 e5 e6 e7
       rw[Nat.add_zero] at l0 e0
       have fne:=zNz x1 x2 x3 x4 x5 (x8:Int) x6 x7
       have m1:(0:Int)<=(r:Int):=by omega
       have m2:(r:Int)<(F.length:Int):=by omega
       have m3:IntKind.i64.wrap ((r:Int)+1)=(r:Int)+1:=by rw[IntKind.wrap_i64];omega
       clear hdx hcd hlc hx HLc HDc
       go_upto_region 16 with fail
       go_big_region
       go_wp2_with fail
       go_roundw
       case measure=>simp[intOf];omega
       case rel=>exact⟨r+1,by omega,by simp,HBx.out.drew⟩
      ·obtain rfl:r=F.length:=by omega
       have m2:¬(F.length:Int)<(F.length:Int):=by omega
       have hsl:=zN0 pl F.length cl HPL.out
       go_wp2_with fail
       clear hsl
       go_loopw [9] (fun i wy=>∃(q':Nat) (xs:List Value),q'<=cl/\i= .int .i64 q'/\wy.ownsRow wr.heap.size 197 8 (.slice pl cl cl) cl xs/\(∀k,k<q'->xs[k*8]? =some (.int .u32 77)/\xs[k*8+7]? =some (.int .u64 7))/\Below wr.heap.size wr wy) (fun i _=>cl-(intOf i).toNat)
       case atStart=>exact⟨0,ys,Nat.zero_le _,rfl,zGP HO2.out.2 HBx.out,fun k hk=>absurd hk (by omega),HB2.out.trans (HBx.out.mono hz2)⟩
       case round=>
        rename World=>wy
        obtain⟨q',xs,hq',rfl,hown,hxs,hby⟩:=hrel
        by_cases hqc:q'<cl
        ·obtain⟨gl,rfl⟩:∃gl,pl=some ⟨gl,0,none⟩:=by
          rcases HPL.out with⟨_,e⟩|e
          ·omega
          ·exact e
         have hlen:xs.length=cl*8:=hown.1
         have hgl:wr.heap.size<=gl:=(hown.lt gl rfl).1
         have fz:∀k,wy.frozen? ⟨gl,k,none⟩=false:=fun k=>hown.frozenAt k
         have ex:∀k,k<cl*8->∃v,wy.cell? ⟨gl,k,none⟩=some v:=fun k hk=>⟨xs[k]'(by omega),by rw[hown.cellAt k hk];exact List.getElem?_eq_getElem _⟩
         obtain⟨v0,k0⟩:=ex (q'*8) (by omega)
         obtain⟨v1,k1⟩:=ex (q'*8+1) (by omega)
         obtain⟨v2,k2⟩:=ex (q'*8+2) (by omega)
         obtain⟨v3,k3⟩:=ex (q'*8+3) (by omega)
         obtain⟨v4,k4⟩:=ex (q'*8+4) (by omega)
         obtain⟨v5,k5⟩:=ex (q'*8+5) (by omega)
         obtain⟨v6,k6⟩:=ex (q'*8+6) (by omega)
         obtain⟨v7,k7⟩:=ex (q'*8+7) (by omega)
         have HST:Hid (_/\_):=⟨((((((((hown.stored (q'*8) (.int .u32 77)).1.stored (q'*8+1) (.int .u32 0)).1.stored (q'*8+2) (.int .u8 0)).1.stored (q'*8+3) (.int .u16 0)).1.stored (q'*8+4) (.int .u16 0)).1.stored (q'*8+5) (.bool false)).1.stored (q'*8+6) (.bool false)).1.stored (q'*8+7) (.int .u64 7)).1,((((((((hby.setCell (p:=⟨gl,q'*8,none⟩) hgl (.int .u32 77)).setCell (p:=⟨gl,q'*8+1,none⟩) hgl (.int .u32 0)).setCell (p:=⟨gl,q'*8+2,none⟩) hgl (.int .u8 0)).setCell (p:=⟨gl,q'*8+3,none⟩) hgl (.int .u16 0)).setCell (p:=⟨gl,q'*8+4,none⟩) hgl (.int .u16 0)).setCell (p:=⟨gl,q'*8+5,none⟩) hgl (.bool false)).setCell (p:=⟨gl,q'*8+6,none⟩) hgl (.bool false)).setCell (p:=⟨gl,q'*8+7,none⟩) hgl (.int .u64 7))⟩
         have HSP:Hid (∀i,i<q'+1->_):=zN1 xs q' (by omega) (.int .u32 0) (.int .u8 0) (.int .u16 0) (.int .u16 0) (.bool false) (.bool false) hxs
         have m1:(0:Int)<=(q':Int):=by omega
         have m2:(q':Int)<(cl:Int):=by omega
         have m3:IntKind.i64.wrap ((q':Int)+1)=(q':Int)+1:=by rw[IntKind.wrap_i64];omega
         clear hown hxs hby ex hlen
         go_wp2_with fail
         go_roundw
         case measure=>simp[intOf];omega
         case rel=>exact⟨q'+1,_,by omega,by simp,HST.out.1,HSP.out,HST.out.2⟩
        ·obtain rfl:q'=cl:=by omega
         have m2:¬(q':Int)<(q':Int):=by omega
         have HW9:Hid (zIY W0.heap.size wy pl q'/\Below W0.heap.size W0 wy):=by
          refine⟨?_,HBr.out.trans (hby.mono hzr)⟩
          rcases HPL.out with⟨e1,e2⟩|⟨gl,rfl⟩
          ·exact .inl ⟨e1,e2⟩
          ·have hgl:=hown.lt gl rfl
           exact .inr ⟨gl,rfl,by omega,hgl.2,fun k hk=>⟨(hown.cellAt (k*8) (by omega)).trans (hxs k hk).1,(hown.cellAt (k*8+7) (by omega)).trans (hxs k hk).2⟩⟩
         clear hown hxs hby
         go_wp2_with fail
         go_roundw
         case measure=>simp[intOf];omega
         case rel=>exact⟨j+1,pl,q',by omega,by omega,by simp,rfl,HW9.out.1,HW9.out.2⟩
  ·obtain rfl:j=2:=by omega
   go_wp2_with fail
   go_ret
   exact⟨rfl,HB0.out.trans (HBr.out.mono (by omega))⟩
section
variable {Q D K b p1 p2 sb n : Nat} {O : Nat → Prop} {lg cv rv fv ve vc vf : Value} {odd : Bool} {R : Option Bk} {room now births N : Nat} {F : List Fl} {cA cD cR cM : Nat} {xs ys zs : List Value}
theorem zJc (W:World) (hp:zKT W Q K D O lg cv rv fv R room now births F cA cD cR cM N) (hB:zBT W Q K b lg p1 p2 sb odd ve vc vf n n n xs ys zs) (most m:Int) (h0:m=if most=0 then 1 else most) (hm: -9223372036854775808<=most/\most<=9223372036854775807):
 Calls Tryz.prog 61 #[.agg #[.pointer (some ⟨Q,0,none⟩),.pointer (some ⟨D,0,none⟩),.pointer (some ⟨b,0,none⟩)],.int .i64 most] W fun e w'=>e= .returned (.bool true)/\Below W.heap.size W w':=by
 have hm0:m≠0:=by rw[h0];split<;>omega
 have hF:F.length<=64:=by have:=hp.gate.small;omega
 obtain⟨pp,cc,hfv⟩:=zAn hp.doc.flows
 subst hfv
 have HT:Hid (∀(U:World) (first:Bool),Below W.heap.size W U->Calls _ _ _ U _):=fun U first hU=>zLJ U (hp.gate.below hU) hF (hB.trn (Trn.below (S:=fun _=>False) hU) (fun _ _ q=>q)) m hm0 first
 obtain⟨G,hG⟩:∃G,zFk m F=G:=⟨_,rfl⟩
 rw[hG] at HT
 have HCU:Hid (zFk m F=G):=hG
 have hGl:G.length<=F.length:=by
  rw[<-hG];unfold zFk;split
  ·rw[List.length_take];omega
  ·exact Nat.le_refl _
 have HD:Hid (zAQ W D rv (.slice pp F.length cc) R room now F cA cD cR cM):=hp.doc
 have hDl:=hp.doc.blk.lt
 obtain⟨W0,hW0⟩:∃W0,W.alloc (.cells #[.pointer (some ⟨Q,0,none⟩),.pointer (some ⟨D,0,none⟩),.pointer (some ⟨b,0,none⟩)] 122)=W0:=⟨_,rfl⟩
 have HB0:Hid (Below W.heap.size W W0):=by rw[<-hW0];exact bal _ _
 have z0:W0.heap.size=W.heap.size+1:=by rw[<-hW0];simp
 have HC:Hid (Blk 122 W0 W.heap.size [.pointer (some ⟨Q,0,none⟩),.pointer (some ⟨D,0,none⟩),.pointer (some ⟨b,0,none⟩)]):=by rw[<-hW0];exact Blk.made W _ [.pointer (some ⟨Q,0,none⟩),.pointer (some ⟨D,0,none⟩),.pointer (some ⟨b,0,none⟩)] (zAF rfl)
 have HT0:Hid (∀first,Calls _ _ _ W0 _):=fun first=>HT.out W0 first HB0.out
 have k2:=HC.out.cell 2 _ rfl
 have HW0:Hid (W.alloc (.cells #[.pointer (some ⟨Q,0,none⟩),.pointer (some ⟨D,0,none⟩),.pointer (some ⟨b,0,none⟩)] 122)=W0):=hW0
 clear hp hB hm hW0 hG
 go_enter Tryz.func61,Tryz.ntmps61
 go_upto_region 1 with fail
 rw[HW0.out]
 go_upto_if 15 with fail
 go_cut [1] from 14 to 15 (fun x w'=>x= .int .i64 m/\w'=W0)
 case first=>
  by_cases hz:most=0
  ·have t0:(most == 0)=true:=by simpa using hz
   have e0:m=1:=by rw[h0,if_pos hz]
   clear h0
   go_wp2_with fail
   go_meet
   exact⟨by rw[e0],rfl⟩
  ·have t0:(most == 0)=false:=by simpa using hz
   have e0:most=m:=by rw[h0,if_neg hz]
   clear h0
   go_wp2_with fail
   go_meet
   exact⟨by rw[e0],rfl⟩
 obtain⟨rfl,rfl⟩:=hcut
 clear h0 HT
 go_upto_region 6 with(go_at_call 91;refine(HT0.out _).mono ?_;rintro e w2 ⟨v2,rfl,ho2,hb2⟩;obtain⟨pl,cl,hv2⟩:=zAn ho2;subst hv2;have HO2:Hid (w2.ownsRow wc.heap.size 197 8 (.slice pl G.length cl) G.length (zAV G)/\Below wc.heap.size wc w2):=⟨ho2,hb2⟩;clear ho2 hb2)
 have HD2:Hid (zAQ w2 D rv (.slice pp F.length cc) R room now F cA cD cR cM/\Blk 122 w2 W.heap.size [.pointer (some ⟨Q,0,none⟩),.pointer (some ⟨D,0,none⟩),.pointer (some ⟨b,0,none⟩)]):=⟨(HD.out.below HB0.out).below HO2.out.2,HC.out.below HO2.out.2 HC.out.lt⟩
 have g1:=HD2.out.2.cell 1 _ rfl
 have d5:=HD2.out.1.blk.cell 5 _ rfl
 clear k2
 obtain⟨tb,htb⟩:∃tb:Bool,tb=decide (0<=m/\m<(F.length:Int)):=⟨_,rfl⟩
 go_upto_region 7 with fail
 go_cut [38] from 31 to 37 (fun x w'=>x= .bool tb/\w'=w2)
 case first=>
  by_cases h1:0<=m
  ·by_cases h2:m<(F.length:Int)
   ·have hb:tb=true:=by rw[htb];simp[h1,h2]
    clear htb
    go_wp2_with fail
    go_meet
    exact⟨by simp[hb],rfl⟩
   ·have hb:tb=false:=by rw[htb];simp[h2]
    clear htb
    go_wp2_with fail
    go_meet
    exact⟨by simp[hb],rfl⟩
  ·have hb:tb=false:=by rw[htb];simp[h1]
   clear htb
   go_wp2_with fail
   go_meet
   exact⟨by simp[hb],rfl⟩
 obtain⟨rfl,rfl⟩:=hcut
 obtain⟨Wx,rfl⟩:∃Wx,Wx=wc:=⟨_,rfl⟩
 have HTB:Hid (tb=decide (0<=m/\m<(F.length:Int))):=htb
 clear htb
 go_upto_if 38 with fail
 go_cut [7] from 31 to 41 (fun x w'=>∃cw,x= .slice pp G.length cw/\w'=Wx)
 case first=>
  cases tb with
  |true=>
   have hc:0<=m/\m<(F.length:Int):=of_decide_eq_true HTB.out.symm
   obtain⟨k,rfl⟩:∃k:Nat,m=(k:Int):=⟨m.toNat,by omega⟩
   obtain⟨h1,h2⟩:=hc
   have hk:k<F.length:=by omega
   obtain⟨x,hx⟩:∃x,F[0]? =some x:=⟨_,List.getElem?_eq_getElem (by omega)⟩
   obtain⟨g,c',e,_⟩:=HD2.out.1.flow hx
   cases e
   have hcc:F.length<=cc:=by
    rcases HD2.out.1.flows.2 with⟨_,e⟩|⟨g',cap,cur,e,_,_,q,_⟩
    ·omega
    ·cases e;exact q
   have hsl:=zG8 k g F.length cc (by omega)
   have hgk:G.length=k:=by rw[<-HCU.out];unfold zFk;rw[if_pos ⟨h1,h2⟩];simp;omega
   clear hx h1 h2
   go_wp2_with fail
   go_meet
   exact⟨_,by rw[hgk],rfl⟩
  |false=>
   have hc:¬(0<=m/\m<(F.length:Int)):=of_decide_eq_false HTB.out.symm
   have hgk:G.length=F.length:=by rw[<-HCU.out];unfold zFk;rw[if_neg hc]
   clear hc
   go_wp2_with fail
   go_meet
   exact⟨_,by rw[hgk],rfl⟩
 obtain⟨cw,rfl,rfl⟩:=hcut
 have HGX:Hid (∀r x,G[r]? =some x->F[r]? =some x):=fun r x h=>zQz (by rw[HCU.out];exact h)
 clear g1 d5
 go_wp2_with fail
 go_loopw [8] (fun i wx=>∃r:Nat,r<=G.length/\i= .int .i64 r/\Below wc.heap.size wc wx) (fun i _=>G.length-(intOf i).toNat)
 case atStart=>exact⟨0,Nat.zero_le _,rfl,Below.refl _ _⟩
 case round=>
  rename World=>wx
  obtain⟨r,hr,rfl,hbx⟩:=hrel
  have HBx:Hid (Below wc.heap.size wc wx):=hbx
  clear hbx
  by_cases hrl:r<G.length
  ·obtain⟨x,hx⟩:∃x,G[r]? =some x:=⟨_,List.getElem?_eq_getElem hrl⟩
   have hdx:=HD2.out.1.below HBx.out
   obtain⟨gd,c',e,_,hcd⟩:=hdx.flow (HGX.out r x hx)
   cases e
   obtain⟨gl,rfl,hlc⟩:∃gl,pl=some ⟨gl,0,none⟩/\∀k v,x.l[k]? =some v->wx.cell? ⟨gl,r*8+k,none⟩=some v:=by
    rcases HO2.out.1.2 with⟨_,e⟩|⟨gl,cap,cur,e,h1,h2,_⟩
    ·omega
    ·cases e
     exact⟨gl,rfl,fun k v hv=>(HBx.out.cell (p:=⟨gl,r*8+k,none⟩) (Array.getElem?_eq_some_iff.1 h2).1).trans (zJT HO2.out.1 rfl r x hx k v hv)⟩
   have HLc:Hid (∀k v,x.l[k]? =some v->wx.cell? ⟨gl,r*8+k,none⟩=some v):=hlc
   have HDc:Hid (∀k v,x.l[k]? =some v->wx.cell? ⟨gd,r*8+k,none⟩=some v):=hcd
   obtain⟨x1,x2,x3,x4,x5,x6,x7,x8⟩:=x
   have l0:=HLc.out 0 _ rfl
   have e0:=HDc.out 0 _ rfl
   have l1:=HLc.out 1 _ rfl
   have e1:=HDc.out 1 _ rfl
   have l2:=HLc.out 2 _ rfl
   have e2:=HDc.out 2 _ rfl
   have l3:=HLc.out 3 _ rfl
   have e3:=HDc.out 3 _ rfl
   have l4:=HLc.out 4 _ rfl
   have e4:=HDc.out 4 _ rfl
   have l5:=HLc.out 5 _ rfl
   have e5:=HDc.out 5 _ rfl
   have l6:=HLc.out 6 _ rfl
   have e6:=HDc.out 6 _ rfl
   have l7:=HLc.out 7 _ rfl
   have e7:=HDc.out 7 _ rfl
   dsimp only at l0 l1 l2 l3 l4 l5 l6 l7 e0 e1 e2 e3 e4 e5 e6 e7
   rw[Nat.add_zero] at l0 e0
   have fne:=zNz x1 x2 x3 x4 x5 (x8:Int) x6 x7
   have m1:(0:Int)<=(r:Int):=by omega
   have m2:(r:Int)<(G.length:Int):=by omega
   have m3:IntKind.i64.wrap ((r:Int)+1)=(r:Int)+1:=by rw[IntKind.wrap_i64];omega
   clear hdx hcd hlc hx HLc HDc
   go_upto_region 14 with fail
   go_big_region
   go_wp2_with fail
   go_roundw
   case measure=>simp[intOf];omega
   case rel=>exact⟨r+1,by omega,by simp,HBx.out.drew⟩
  ·obtain rfl:r=G.length:=by omega
   have m2:¬(G.length:Int)<(G.length:Int):=by omega
   go_wp2_with fail
   go_ret
   exact⟨rfl,(HB0.out.trans (HO2.out.2.mono HB0.out.size)).trans (HBx.out.mono (by have:=HO2.out.2.size;have:=HB0.out.size;omega))⟩
end
section
variable {W V0 : World} {B V N i : Nat} {gv : Value} {L : List Gt} {q : Gt}
theorem zJd {Q D K:Nat} {lg:Value} {S:Nat->Prop} (W:World) (h:zGT W S Q D K lg N) (most:Int):
 Calls Tryz.prog 61 #[.agg #[.pointer (some ⟨Q,0,none⟩),.pointer (some ⟨D,0,none⟩),.pointer none],.int .i64 most] W fun e w'=>e= .returned (.bool true)/\Below W.heap.size W w':=by
 obtain⟨W0,hW0⟩:∃W0,W.alloc (.cells #[.pointer (some ⟨Q,0,none⟩),.pointer (some ⟨D,0,none⟩),.pointer none] 122)=W0:=⟨_,rfl⟩
 have B0:Below W.heap.size W W0:=by rw[<-hW0];exact bal _ _
 have C0:Blk 122 W0 W.heap.size [.pointer (some ⟨Q,0,none⟩),.pointer (some ⟨D,0,none⟩),.pointer none]:=by rw[<-hW0];exact Blk.made W _ [.pointer (some ⟨Q,0,none⟩),.pointer (some ⟨D,0,none⟩),.pointer none] (zAF rfl)
 have HL:Hid (Calls _ _ _ W0 _):=zLO W0 (h.below B0)
 have HW0:Hid (W.alloc (.cells #[.pointer (some ⟨Q,0,none⟩),.pointer (some ⟨D,0,none⟩),.pointer none] 122)=W0):=hW0
 have HB0:Hid (Below W.heap.size W W0):=B0
 have k0:=C0.cell 0 _ rfl
 have k1:=C0.cell 1 _ rfl
 have k2:=C0.cell 2 _ rfl
 clear h hW0 B0 C0
 go_enter Tryz.func61,Tryz.ntmps61
 go_upto_region 1 with fail
 rw[HW0.out]
 go_wp2_with (go_at_call 60;refine HL.out.mono ?_;rintro e w2 ⟨rfl,hb2⟩;have HB2:Hid (Below W0.heap.size W0 w2):=hb2;clear hb2)
 go_ret
 exact⟨rfl,HB0.out.trans (HB2.out.mono HB0.out.size)⟩
theorem zLP (h:zAo W B V gv L N) (hi:L[i]? =some q) (hb:Below W.heap.size W V0) (most:Int) (hm: -9223372036854775808<=most/\most<=9223372036854775807):
 Calls Tryz.prog 61 #[.agg #[.pointer (some ⟨q.q,0,none⟩),.pointer (some ⟨q.d,0,none⟩),.pointer (q.b.map fun x=>⟨x,0,none⟩)],.int .i64 most] V0 fun e w'=>e= .returned (.bool true)/\Below W.heap.size W w':=by
 obtain⟨S,⟨S1,S2,hp,hk,_⟩,_⟩:=h.two hi hb
 have fin:∀{e:Ending} {w':World},(e= .returned (.bool true)/\Below V0.heap.size V0 w')->e= .returned (.bool true)/\Below W.heap.size W w':=fun z=>⟨z.1,hb.trans (z.2.mono hb.size)⟩
 rcases hk with⟨h1,_⟩|⟨b,p1,p2,sb,odd,ve,vc,vf,n,xs,ys,zs,h1,_,hB,_⟩
 ·rw[h1]
  exact(zJd V0 hp most).mono fun e w' z=>fin z
 ·rw[h1]
  obtain⟨O,cv,rv,fv,R,room,now,bi,F,cA,cD,cR,cM,hp,_⟩:=hp
  exact(zJc V0 hp hB most _ rfl hm).mono fun e w' z=>fin z
end
theorem zPT (a b c:Int) (d e:Bool) (w:World):(binOp .eql 188 (.agg #[.int .u8 a,.int .u8 b,.int .u8 c,.bool d,.bool e]) (.agg #[.int .u8 a,.int .u8 b,.int .u8 c,.bool d,.bool e])).run Tryz.prog w= .ok (.bool true) w:=by
 have u3:=Tryz.underlying5
 have u4:=Tryz.underlying4
 have u6:=Tryz.underlying39
 have u7:=Tryz.underlying186
 have u8:=Tryz.underlying136
 have hS:Tryz.prog.underlying 188=some (.struct (Tryz.prog.fieldsOf 188)):=by kernel_rfl
 have hp:Tryz.prog.stoodInHeld 188=false:=by kernel_rfl
 rw[run_eql_struct,show(10000:Nat)=9999+1 from rfl,run_equalIn_agg w 9999 188 _ _ hS hp]
 simp only[Program.fieldsOf,Tryz.underlying188]
 go_simp
section
variable {W V0 : World} {B V N i : Nat} {gv : Value} {L : List Gt} {q : Gt}
theorem zIZ (h:zAo W B V gv L N) (hi:L[i]? =some q) (hqb:q.b=none) (hb:Below W.heap.size W V0) (hL:zBU W) (hN:N<18446744073709551614) (s:ByteArray) (fb fc:Nat) (j:Int) (hd:Row V0 fb 0 s) (hfb:fb<V0.heap.size) (hdz:s.size<=300000) (hfc:s.size<=fc) (hfm:fc<=maxLen) (hj:0<=j/\j<=255):
 ∃ev:Ev,Calls Tryz.prog 84 #[.pointer (some ⟨q.q,0,none⟩),.int .u8 j,.slice (some ⟨fb,0,none⟩) s.size fc] V0 fun e w1=>e= .returned (.int .u8 ev.v)/\Loc W.heap.size V0 w1/\∀w2,Below w1.heap.size w1 w2->Calls Tryz.prog 85 #[.pointer (some ⟨q.d,0,none⟩),.int .u8 j,.string s] w2 fun e w3=>e= .returned (.agg ev.l.toArray)/\Loc W.heap.size V0 w3/\zAo w3 B V gv L (N+1)/\Below B W w3:=by
 obtain⟨S,p1,p2,p3⟩:=h.two hi hb
 obtain⟨ev,hc⟩:=zJa p1 hqb (hL.below hb) hN s fb fc j hd hfb hdz hfc hfm hj
 refine⟨ev,hc.mono fun e w1 z=>⟨z.1,Loc.trn z.2.1 p2,fun w2 hb2=>(z.2.2 w2 hb2).mono fun e w3 y=>⟨y.1,?_,p3 w3 (N+1) (Nat.le_succ _) y.2⟩⟩⟩
 obtain⟨S',_,t,_⟩:=y.2
 exact Loc.trn t p2
theorem zIa {b:Nat} (h:zAo W B V gv L N) (hi:L[i]? =some q) (hqb:q.b=some b) (hb:Below W.heap.size W V0) (hL:zBU W) (hN:N<=1000000) (s:ByteArray) (fb fc:Nat) (j:Int) (hd:Row V0 fb 0 s) (hfb:fb<V0.heap.size) (hdz:s.size<=300000) (hfc:s.size<=fc) (hfm:fc<=maxLen) (hj:0<=j/\j<=255):
 ∃(ev:Ev) (n:Nat),n<=N/\(∃p c,V0.cell? ⟨b,0,none⟩=some (.slice p n c))/\Calls Tryz.prog 84 #[.pointer (some ⟨q.q,0,none⟩),.int .u8 j,.slice (some ⟨fb,0,none⟩) s.size fc] V0 fun e w1=>e= .returned (.int .u8 ev.v)/\Loc W.heap.size V0 w1/\∀w2,Below w1.heap.size w1 w2->Calls Tryz.prog 85 #[.pointer (some ⟨q.d,0,none⟩),.int .u8 j,.string s] w2 fun e w3=>e= .returned (.agg ev.l.toArray)/\Loc W.heap.size V0 w3/\(zAo w3 B V gv L (N+1)/\Below B W w3)/\zQ0 w3 b q.d n ev:=by
 obtain⟨S,p1,p2,p3⟩:=h.two hi hb
 obtain⟨ev,n,hn,hc0,hc⟩:=zJb p1 hqb (hL.below hb) hN s fb fc j hd hfb hdz hfc hfm hj
 refine⟨ev,n,hn,hc0,hc.mono fun e w1 z=>⟨z.1,Loc.trn z.2.1 p2,fun w2 hb2=>(z.2.2 w2 hb2).mono fun e w3 y=>⟨y.1,?_,p3 w3 (N+1) (Nat.le_succ _) y.2.1,y.2.2⟩⟩⟩
 obtain⟨S',_,t,_⟩:=y.2.1
 exact Loc.trn t p2
theorem zJe (h:zAo W B V gv L N) (hi:L[i]? =some q) (hqb:q.b=none) (hb:Below W.heap.size W V0) (hL:zBU W) (hN:N<18446744073709551614) (s:ByteArray) (hs:s.size<=262144) (j:Int):
 Calls Tryz.prog 56 #[.agg #[.pointer (some ⟨q.q,0,none⟩),.pointer (some ⟨q.d,0,none⟩),.pointer none],.int .i64 j,.string s] V0 fun e w'=>e= .returned (.bool true)/\zAo w' B V gv L (N+1)/\Below B W w':=by
 have HR:Hid (∀U:World,Calls Tryz.prog 83 #[.string s] U fun e w'=>e= .returned (.slice (some ⟨U.heap.size,0,none⟩) s.size (s.size+2))/\w'=U.alloc (.cells (zCK s 77 88) 5)):=fun U=>zII s U hs
 have HS:Hid (∀(U:World) (g:Nat),zCf U g s->Calls Tryz.prog 86 #[.slice (some ⟨g,0,none⟩) s.size (s.size+2),.string s] U fun e w'=>e= .returned (.bool true)/\w'=U):=fun U g hr=>zIJ s g U hs hr
 obtain⟨k,hk⟩:∃k:Int,IntKind.u8.wrap j=k:=⟨_,rfl⟩
 have hk2:0<=k/\k<=255:=by rw[<-hk,IntKind.wrap_u8];omega
 have HF:Hid (∀(U:World) (fb:Nat),Below W.heap.size W U->zCf U fb s->fb<U.heap.size->∃ev:Ev,_):=fun U fb hU hr hfb=>zIZ h hi hqb hU hL hN s fb (s.size+2) k (fun x hx=>hr.row x hx) hfb (by omega) (by omega) (by unfold maxLen;omega) hk2
 have HB0:Hid (Below W.heap.size W V0):=hb
 have hz0:=hb.size
 obtain⟨Q,D,K,lg,qb⟩:=q
 dsimp only at HF ⊢
 obtain⟨X2,hX2⟩:∃X2,(V0.alloc (.cells #[.pointer (some ⟨Q,0,none⟩),.pointer (some ⟨D,0,none⟩),.pointer none] 122)).alloc (.cells (zCK s 77 88) 5)=X2:=⟨_,rfl⟩
 have z2:X2.heap.size=V0.heap.size+2:=by rw[<-hX2];simp
 have BX:Below W.heap.size W X2:=by rw[<-hX2];exact(HB0.out.alloc hz0 _).alloc (by simp;omega) _
 have RX:zCf X2 (V0.heap.size+1) s:=by
  have q:=zCf.made (V0.alloc (.cells #[.pointer (some ⟨Q,0,none⟩),.pointer (some ⟨D,0,none⟩),.pointer none] 122)) s
  rw[hX2,show(V0.alloc (.cells #[.pointer (some ⟨Q,0,none⟩),.pointer (some ⟨D,0,none⟩),.pointer none] 122)).heap.size=V0.heap.size+1 by simp] at q
  exact q
 have GX:Blk 122 X2 V0.heap.size [.pointer (some ⟨Q,0,none⟩),.pointer (some ⟨D,0,none⟩),.pointer none]:=by rw[<-hX2];exact(Blk.made V0 _ [.pointer (some ⟨Q,0,none⟩),.pointer (some ⟨D,0,none⟩),.pointer none] (zAF rfl)).alloc _
 obtain⟨ev,hcf⟩:=HF.out X2 (V0.heap.size+1) BX RX (by omega)
 have HCF:Hid (Calls _ _ _ X2 _):=hcf
 have HX2:Hid ((V0.alloc (.cells #[.pointer (some ⟨Q,0,none⟩),.pointer (some ⟨D,0,none⟩),.pointer none] 122)).alloc (.cells (zCK s 77 88) 5)=X2):=hX2
 have HRX:Hid (zCf X2 (V0.heap.size+1) s):=RX
 have HGX:Hid (Blk 122 X2 V0.heap.size [.pointer (some ⟨Q,0,none⟩),.pointer (some ⟨D,0,none⟩),.pointer none]):=GX
 obtain⟨e1,e2,e3,e4,e5⟩:=ev
 dsimp only[Ev.l] at HCF
 have ve:(e3 !=e3)=false:=by simp
 clear h hi hqb hb hL hN hs hk2 HF hcf hX2 BX RX GX
 go_enter Tryz.func56,Tryz.ntmps56
 go_wp2_with (first|(go_at_call 83;refine(HR.out _).mono ?_;rintro e w1 ⟨rfl,h1⟩;subst h1)|(go_at_call 84;rw[HX2.out];refine HCF.out.mono ?_;rintro e w2 ⟨rfl,hl2,hn2⟩;have HL2:Hid (Loc W.heap.size X2 w2/\_):=⟨hl2,hn2⟩;have u1:=hl2.cell (p:=⟨V0.heap.size,1,none⟩) hz0 (HGX.out.cell 1 _ rfl);clear hl2 hn2)|(go_at_call 85;refine(HL2.out.2 _ (Below.refl _ _)).mono ?_;rintro e w3 ⟨rfl,hl3,hg3⟩;have HG3:Hid (zCf w3 (V0.heap.size+1) s/\_):=⟨fun x v hv=>hl3.cell (p:=⟨V0.heap.size+1,x,none⟩) (Nat.le_trans hz0 (Nat.le_succ _)) (HRX.out x v hv),hg3⟩;have u2:=hl3.cell (p:=⟨V0.heap.size,2,none⟩) hz0 (HGX.out.cell 2 _ rfl);have hz3:=hl3.size;have hV3:V0.heap.size≠w3.heap.size:=(by omega);have hV4:V0.heap.size<w3.heap.size:=(by omega);clear hl3 hg3)|(go_at_call 86;refine(HS.out _ _ ?_).mono ?_;(first|exact HG3.out.1|exact HG3.out.1.alloc (by omega) _);rintro e w4 ⟨rfl,h4⟩;subst h4))
 go_ret
 have hg:=HG3.out.2.1
 have hb:=HG3.out.2.2
 exact⟨rfl,hg.below (bal _ _),hb.alloc (Nat.le_trans hg.base (Nat.le_of_lt hg.blk.lt)) _⟩
theorem zJf {b:Nat} (h:zAo W B V gv L N) (hi:L[i]? =some q) (hqb:q.b=some b) (hb:Below W.heap.size W V0) (hL:zBU W) (hN:N<=1000000) (s:ByteArray) (hs:s.size<=262144) (j:Int):
 Calls Tryz.prog 56 #[.agg #[.pointer (some ⟨q.q,0,none⟩),.pointer (some ⟨q.d,0,none⟩),.pointer (some ⟨b,0,none⟩)],.int .i64 j,.string s] V0 fun e w'=>e= .returned (.bool true)/\zAo w' B V gv L (N+1)/\Below B W w':=by
 have HR:Hid (∀U:World,Calls Tryz.prog 83 #[.string s] U fun e w'=>e= .returned (.slice (some ⟨U.heap.size,0,none⟩) s.size (s.size+2))/\w'=U.alloc (.cells (zCK s 77 88) 5)):=fun U=>zII s U hs
 have HS:Hid (∀(U:World) (g:Nat),zCf U g s->Calls Tryz.prog 86 #[.slice (some ⟨g,0,none⟩) s.size (s.size+2),.string s] U fun e w'=>e= .returned (.bool true)/\w'=U):=fun U g hr=>zIJ s g U hs hr
 obtain⟨k,hk⟩:∃k:Int,IntKind.u8.wrap j=k:=⟨_,rfl⟩
 have hk2:0<=k/\k<=255:=by rw[<-hk,IntKind.wrap_u8];omega
 have HB0:Hid (Below W.heap.size W V0):=hb
 have hz0:=hb.size
 obtain⟨X2,hX2⟩:∃X2,(V0.alloc (.cells #[.pointer (some ⟨q.q,0,none⟩),.pointer (some ⟨q.d,0,none⟩),.pointer (some ⟨b,0,none⟩)] 122)).alloc (.cells (zCK s 77 88) 5)=X2:=⟨_,rfl⟩
 have z2:X2.heap.size=V0.heap.size+2:=by rw[<-hX2];simp
 have BX:Below W.heap.size W X2:=by rw[<-hX2];exact(HB0.out.alloc hz0 _).alloc (by simp;omega) _
 have RX:zCf X2 (V0.heap.size+1) s:=by
  have q':=zCf.made (V0.alloc (.cells #[.pointer (some ⟨q.q,0,none⟩),.pointer (some ⟨q.d,0,none⟩),.pointer (some ⟨b,0,none⟩)] 122)) s
  rw[hX2,World.size_alloc] at q'
  exact q'
 have GX:Blk 122 X2 V0.heap.size [.pointer (some ⟨q.q,0,none⟩),.pointer (some ⟨q.d,0,none⟩),.pointer (some ⟨b,0,none⟩)]:=by rw[<-hX2];exact(Blk.made V0 _ [.pointer (some ⟨q.q,0,none⟩),.pointer (some ⟨q.d,0,none⟩),.pointer (some ⟨b,0,none⟩)] (zAF rfl)).alloc _
 obtain⟨ev,n,hn,⟨pe,ce,cb⟩,hcf⟩:=zIa h hi hqb BX hL hN s (V0.heap.size+1) (s.size+2) k (fun x hx=>RX.row x hx) (by omega) (by omega) (by omega) (by unfold maxLen;omega) hk2
 have hn6:n<=1000000:=Nat.le_trans hn hN
 obtain⟨Q,D,K,lg,qb⟩:=q
 dsimp only at hX2 GX hcf ⊢
 have HCF:Hid (Calls _ _ _ X2 _):=hcf
 have HX2:Hid ((V0.alloc (.cells #[.pointer (some ⟨Q,0,none⟩),.pointer (some ⟨D,0,none⟩),.pointer (some ⟨b,0,none⟩)] 122)).alloc (.cells (zCK s 77 88) 5)=X2):=hX2
 have HRX:Hid (zCf X2 (V0.heap.size+1) s):=RX
 have HGX:Hid (Blk 122 X2 V0.heap.size [.pointer (some ⟨Q,0,none⟩),.pointer (some ⟨D,0,none⟩),.pointer (some ⟨b,0,none⟩)]):=GX
 have u0:=GX.cell 0 _ rfl
 have u2:=GX.cell 2 _ rfl
 obtain⟨e1,e2,e3,e4,e5⟩:=ev
 dsimp only[Ev.l] at HCF
 have ve:(e3 !=e3)=false:=by simp
 clear h hi hqb hb hL hN hs hk2 hcf hX2 BX RX GX
 go_enter Tryz.func56,Tryz.ntmps56
 go_upto_region 2 with(go_at_call 83;refine(HR.out _).mono ?_;rintro e w1 ⟨rfl,h1⟩;subst h1)
 rw[HX2.out]
 go_upto_region 7 with(first|(go_at_call 84;refine HCF.out.mono ?_;rintro e w2 ⟨rfl,hl2,hn2⟩;have HL2:Hid (Loc W.heap.size X2 w2/\_):=⟨hl2,hn2⟩;have u1:=hl2.cell (p:=⟨V0.heap.size,1,none⟩) hz0 (HGX.out.cell 1 _ rfl);clear hl2 hn2)|(go_at_call 85;refine(HL2.out.2 _ (Below.refl _ _)).mono ?_;rintro e w3 ⟨rfl,hl3,hg3,hh3⟩;have HG3:Hid (zCf w3 (V0.heap.size+1) s/\(zAo w3 B V gv L (N+1)/\Below B W w3)/\zQ0 w3 b D n ⟨e1,e2,e3,e4,e5⟩/\w3.cell? ⟨V0.heap.size,2,none⟩=some (.pointer (some ⟨b,0,none⟩))/\w3.cell? ⟨V0.heap.size,1,none⟩=some (.pointer (some ⟨D,0,none⟩))/\X2.heap.size<=w3.heap.size):=⟨fun x v hv=>hl3.cell (p:=⟨V0.heap.size+1,x,none⟩) (Nat.le_trans hz0 (Nat.le_succ _)) (HRX.out x v hv),hg3,hh3,hl3.cell (p:=⟨V0.heap.size,2,none⟩) hz0 (HGX.out.cell 2 _ rfl),hl3.cell (p:=⟨V0.heap.size,1,none⟩) hz0 (HGX.out.cell 1 _ rfl),hl3.size⟩;clear hl3 hg3 hh3))
 obtain⟨X9,hX9⟩:∃X9,w3.alloc (.cells #[.int .u8 e1,.int .u8 e2,.int .u8 e3,.bool e4,.bool e5] 188)=X9:=⟨_,rfl⟩
 rw[hX9]
 have B9:Below w3.heap.size w3 X9:=by rw[<-hX9];exact bal _ _
 have E9:Blk 188 X9 w3.heap.size [.int .u8 e1,.int .u8 e2,.int .u8 e3,.bool e4,.bool e5]:=by rw[<-hX9];exact Blk.made w3 _ [.int .u8 e1,.int .u8 e2,.int .u8 e3,.bool e4,.bool e5] (zAF rfl)
 have up:∀{p:Addr} {v:Value},w3.cell? p=some v->X9.cell? p=some v:=fun {p v} q=>(B9.cell (World.block_lt_of_cell? w3 p q)).trans q
 obtain⟨hr3,hg3,⟨g1,c1,g2,c2,g3,c3,a0,a1,a2,a3,p5,m,c5,y1,y2,y3,y4,y5,y6,y7⟩,y8,y9,hz3⟩:=HG3.out
 have HF:Hid (zCf X9 (V0.heap.size+1) s/\(zAo w3 B V gv L (N+1)/\Below B W w3)/\Below w3.heap.size w3 X9):=⟨fun x v hv=>up (hr3 x v hv),hg3,B9⟩
 have v0:=up y1
 have v1:=up y2
 have v2:=up y3
 have s0:=up (y4 0 _ rfl)
 have s1:=up (y4 1 _ rfl)
 have s2:=up (y4 2 _ rfl)
 have s3:=up (y4 3 _ rfl)
 have s4:=up (y4 4 _ rfl)
 have k0:=up (y5 0 _ rfl).1
 have k1:=up (y5 1 _ rfl).1
 have k2:=up (y5 2 _ rfl).1
 have k3:=up (y5 3 _ rfl).1
 have d6:=up (y5 0 _ rfl).2
 have d7:=up (y5 1 _ rfl).2
 have d8:=up (y5 2 _ rfl).2
 have d9:=up (y5 3 _ rfl).2
 have f0:=up y6
 have d5:=up y7
 have w2':=up y8
 have w1':=up y9
 have E0:=E9.cell 0 _ rfl
 have E1:=E9.cell 1 _ rfl
 have E2:=E9.cell 2 _ rfl
 have E3:=E9.cell 3 _ rfl
 have E4:=E9.cell 4 _ rfl
 dsimp only at s0 s1 s2 s3 s4 k0 k1 k2 k3 d6 d7 d8 d9
 rw[Nat.add_zero] at s0 k0
 simp only[Nat.reduceAdd] at d6 d7 d8 d9
 have nn:(0:Int)<=(n:Int):=by omega
 have nl:(n:Int)<(n:Int)+1:=by omega
 have nw:IntKind.i64.wrap ((n:Int)+1)=(n:Int)+1:=by rw[IntKind.wrap_i64];omega
 have eeq:=zPT e1 e2 e3 e4 e5
 have ceq:=zIX a0 a1 a2 a3
 clear up hr3 hg3 y1 y2 y3 y4 y5 y6 y7 y8 y9 hX9 B9 E9 u0 u1 u2 cb HL2 HCF HR hz3 hn
 go_upto_region 14 with(go_at_call 86;refine(HS.out _ _ HF.out.1).mono ?_;rintro e w4 ⟨rfl,h4⟩;obtain rfl:X9=w4:=h4.symm;clear h4)
 go_big_region
 go_wp2_with fail
 go_ret
 obtain⟨_,⟨hg,hbb⟩,b9⟩:=HF.out
 exact⟨rfl,hg.below b9.drew,hbb.trans (b9.drew.mono (Nat.le_trans hg.base (Nat.le_of_lt hg.blk.lt)))⟩
theorem zLQ (h:zAo W B V gv L N) (hi:L[i]? =some q) (hb:Below W.heap.size W V0) (hL:zBU W) (hN:N<=1000000) (s:ByteArray) (hs:s.size<=262144) (j:Int):
 Calls Tryz.prog 56 #[.agg #[.pointer (some ⟨q.q,0,none⟩),.pointer (some ⟨q.d,0,none⟩),.pointer (q.b.map fun x=>⟨x,0,none⟩)],.int .i64 j,.string s] V0 fun e w'=>e= .returned (.bool true)/\zAo w' B V gv L (N+1)/\Below B W w':=by
 cases hq:q.b with
 |none=>exact zJe h hi hq hb hL (by omega) s hs j
 |some b=>exact zJf h hi hq hb hL hN s hs j
end
theorem zAo.at {W:World} {B V N:Nat} {gv:Value} {L:List Gt} (h:zAo W B V gv L N) (a:Int) (hl:0<L.length):∃(i:Nat) (q:Gt) (g c:Nat),lpk a L.length=(i:Int)/\(i:Int)<(L.length:Int)/\L[i]? =some q/\gv= .slice (some ⟨g,0,none⟩) L.length c/\g<W.heap.size/\W.cell? ⟨g,i*3,none⟩=some (.pointer (some ⟨q.q,0,none⟩))/\W.cell? ⟨g,i*3+1,none⟩=some (.pointer (some ⟨q.d,0,none⟩))/\W.cell? ⟨g,i*3+2,none⟩=some (.pointer (q.b.map fun x=>⟨x,0,none⟩)):=by
 obtain⟨h1,h2⟩:=zRw a L.length (by omega)
 obtain⟨i,hi⟩:∃i:Nat,lpk a L.length=(i:Int):=⟨(lpk a L.length).toNat,by omega⟩
 have hil:i<L.length:=by omega
 obtain⟨q,hq⟩:∃q,L[i]? =some q:=⟨_,List.getElem?_eq_getElem hil⟩
 have hr:=h.row
 rcases hr.2 with⟨_,e⟩|⟨g,c,cur,rfl,_,e3,_⟩
 ·omega
 ·obtain⟨a1,a2,a3⟩:=zNx L i q hq
  exact⟨i,q,g,c,hi,by omega,hq,rfl,(Array.getElem?_eq_some_iff.1 e3).1,(hr.cellAt _ (by omega)).trans a1,(hr.cellAt _ (by omega)).trans a2,(hr.cellAt _ (by omega)).trans a3⟩
theorem zPU {X1:World} {n:Nat} {t:TypeId} (hn:X1.heap.size=n) (x0 x1 x2:Value) (hx:∀v ∈ [x0,x1,x2],v.oneCell'=true):∃gb,Value.pointer (some ⟨n,0,none⟩)= .pointer (some ⟨gb,0,none⟩)/\Blk t (X1.alloc (.cells #[x0,x1,x2] t)).drew gb [x0,x1,x2]/\Below X1.heap.size X1 (X1.alloc (.cells #[x0,x1,x2] t)).drew/\X1.heap.size<=gb:=by
 subst hn
 exact⟨_,rfl,Blk.made X1 t [x0,x1,x2] hx,(bal _ _).drew,Nat.le_refl _⟩
section
variable {W : World} {B V N : Nat} {gv : Value} {L : List Gt}
theorem zN2 (h:zAo W B V gv L N) (hl:L.length=0) (k a b c:Int) (s:ByteArray) (hk:k≠1):
 Calls Tryz.prog 37 #[.pointer (some ⟨V,0,none⟩),.agg #[.int .i64 k,.int .i64 a,.int .i64 b,.int .i64 c,.string s]] W fun e w'=>e= .returned (.bool true)/\zAo w' B V gv L N/\Below B W w':=by
 obtain⟨p0,c0,hgv⟩:=zAn h.row
 rw[hl] at hgv
 have HG:Hid (zAo W B V gv L N):=h
 have c0':W.cell? ⟨V,0,none⟩=some (.slice p0 0 c0):=by rw[<-hgv];exact h.blk.cell 0 _ rfl
 have hV:=h.blk.lt
 have hVn:V≠W.heap.size:=Nat.ne_of_lt hV
 have q1:(k == 1)=false:=by simpa using hk
 clear h hgv hl hk
 go_enter Tryz.func37,Tryz.ntmps37
 go_wp2_with fail
 go_ret
 exact⟨rfl,HG.out.below (bal _ _),(bal _ _).mono (Nat.le_trans HG.out.base (Nat.le_of_lt hV))⟩
theorem zN3 (h:zAo W B V gv L N) (hl:0<L.length) (hl2:L.length<=1000000) (hL:zBU W) (hm:zBx W) (hN:N<=1000000) (k:Int) (k1n:k≠1) (a b c:Int) (ha: -9223372036854775808<=a/\a<=9223372036854775807) (hb0: -9223372036854775808<=b/\b<=9223372036854775807) (s:ByteArray) (hs:s.size<=262144):
 Calls Tryz.prog 37 #[.pointer (some ⟨V,0,none⟩),.agg #[.int .i64 k,.int .i64 a,.int .i64 b,.int .i64 c,.string s]] W fun e w'=>e= .returned (.bool true)/\zAo w' B V gv L (N+1)/\Below B W w':=by
 obtain⟨i,q,g,cc,hi,hi2,hq,hgv,hg,e0,e1,e2⟩:=h.at a hl
 have HP:Hid (∀U:World,Calls Tryz.prog 13 #[.int .i64 a,.int .i64 (L.length:Int)] U fun e w'=>e= .returned (.int .i64 (i:Int))/\w'=U):=fun U=>by rw[<-hi];exact zFj a L.length U ha (by omega)
 have HT2:Hid (∀U:World,Below W.heap.size W U->Calls _ _ _ U _):=fun U hb=>zLM h hq hb hL hm s (by unfold maxLen;omega)
 have HT3:Hid (∀U:World,Below W.heap.size W U->Calls _ _ _ U _):=fun U hb=>zLQ h hq hb hL hN s hs b
 have HT6:Hid (∀U:World,Below W.heap.size W U->Calls _ _ _ U _):=fun U hb=>zLP h hq hb b hb0
 have HT4:Hid (∀(m:Nat) (U:World),m<=zCr->Below W.heap.size W U->Calls _ _ _ U _):=fun m U hm hb=>zLN h hq hb m hm
 have HQ:Hid (L[i]? =some q):=hq
 generalize ((zAJ s).1:Int)=k1 at HT2
 generalize ((zAJ s).2.1:Int)=k2 at HT2
 obtain⟨m0,hm0⟩:∃m0:Nat,IntKind.u64.wrap b=(m0:Int):=⟨(IntKind.u64.wrap b).toNat,by rw[IntKind.wrap_u64];omega⟩
 have hm0t:m0<=zCr:=by unfold zCr;rw[IntKind.wrap_u64] at hm0;omega
 obtain⟨m1,hm1⟩:∃m1:Nat,IntKind.u64.wrap (-(m0:Int))=(m1:Int):=⟨(IntKind.u64.wrap (-(m0:Int))).toNat,by rw[IntKind.wrap_u64];omega⟩
 have hm1t:m1<=zCr:=by unfold zCr;rw[IntKind.wrap_u64] at hm1;omega
 have t1:(k == 1)=false:=by simpa using k1n
 have HG:Hid (zAo W B V gv L N):=h
 have c0':W.cell? ⟨V,0,none⟩=some (.slice (some ⟨g,0,none⟩) L.length cc):=by rw[<-hgv];exact h.blk.cell 0 _ rfl
 have c1':=h.blk.cell 1 _ rfl
 have hV:=h.blk.lt
 have hBV:=h.base
 have hVn:V≠W.heap.size:=Nat.ne_of_lt hV
 have hgn:g≠W.heap.size:=Nat.ne_of_lt hg
 have l1:((L.length:Int) == 0)=false:=by rw[beq_eq_false_iff_ne];omega
 have i0:(0:Int)<=(i:Int):=by omega
 obtain⟨Q,D,K,lg,qb⟩:=q
 dsimp only at e0 e1 e2 HT3 HT6
 generalize (qb.map fun x=>(⟨x,0,none⟩:Addr))=bp at e2 HT3 HT6
 clear h hgv hi hq ha hb0 hL hm hN hs k1n
 go_enter Tryz.func37,Tryz.ntmps37
 go_upto_region 5 with fail
 obtain⟨X1,hX1⟩:∃X1,W.alloc (.cells #[.int .i64 k,.int .i64 a,.int .i64 b,.int .i64 c,.string s] 85)=X1:=⟨_,rfl⟩
 rw[hX1]
 have B1:Hid (Below W.heap.size W X1):=by rw[<-hX1];exact bal _ _
 have R1:Hid (Blk 85 X1 W.heap.size [.int .i64 k,.int .i64 a,.int .i64 b,.int .i64 c,.string s]):=by rw[<-hX1];exact Blk.made W _ [.int .i64 k,.int .i64 a,.int .i64 b,.int .i64 c,.string s] (zAF rfl)
 have z1:X1.heap.size=W.heap.size+1:=by rw[<-hX1];simp
 clear hX1
 have SOF:Hid (∀w':World,Below X1.heap.size X1 w'->(Below X1.heap.size X1 w'/\w'.cell? ⟨V,0,none⟩=some (.slice (some ⟨g,0,none⟩) L.length cc)/\w'.cell? ⟨W.heap.size,1,none⟩=some (.int .i64 a)/\w'.cell? ⟨g,i*3,none⟩=some (.pointer (some ⟨Q,0,none⟩))/\w'.cell? ⟨g,i*3+1,none⟩=some (.pointer (some ⟨D,0,none⟩))/\w'.cell? ⟨g,i*3+2,none⟩=some (.pointer bp))):=fun w' hb=>⟨hb,(hb.cell (p:=⟨V,0,none⟩) (by show V<_;omega)).trans ((B1.out.cell (p:=⟨V,0,none⟩) hV).trans c0'),(hb.cell (p:=⟨W.heap.size,1,none⟩) R1.out.lt).trans (R1.out.cell 1 _ rfl),(hb.cell (p:=⟨g,i*3,none⟩) (by show g<_;omega)).trans ((B1.out.cell (p:=⟨g,i*3,none⟩) hg).trans e0),(hb.cell (p:=⟨g,i*3+1,none⟩) (by show g<_;omega)).trans ((B1.out.cell (p:=⟨g,i*3+1,none⟩) hg).trans e1),(hb.cell (p:=⟨g,i*3+2,none⟩) (by show g<_;omega)).trans ((B1.out.cell (p:=⟨g,i*3+2,none⟩) hg).trans e2)⟩
 have hVn1:V≠X1.heap.size:=by omega
 have hgn1:g≠X1.heap.size:=by omega
 have hWn1:W.heap.size≠X1.heap.size:=by omega
 obtain⟨y0,y1,y2,y3,y4,y5⟩:=SOF.out X1 (Below.refl _ _)
 clear y0 e0 e1 e2
 go_cut [5] from 25 to 38 (fun x w'=>∃gb,x= .pointer (some ⟨gb,0,none⟩)/\Blk 122 w' gb [.pointer (some ⟨Q,0,none⟩),.pointer (some ⟨D,0,none⟩),.pointer bp]/\Below X1.heap.size X1 w'/\X1.heap.size<=gb)
 case first=>
  go_region_held3 (fun w'=>Below X1.heap.size X1 w'/\w'.cell? ⟨V,0,none⟩=some (.slice (some ⟨g,0,none⟩) L.length cc)/\w'.cell? ⟨W.heap.size,1,none⟩=some (.int .i64 a)/\w'.cell? ⟨g,i*3,none⟩=some (.pointer (some ⟨Q,0,none⟩))/\w'.cell? ⟨g,i*3+1,none⟩=some (.pointer (some ⟨D,0,none⟩))/\w'.cell? ⟨g,i*3+2,none⟩=some (.pointer bp)) ((go_split_ands;refine SOF.out _ ?_;first|with_reducible assumption|with_reducible exact Below.drew (Below.refl _ _)|with_reducible exact Below.drew (by with_reducible assumption)|with_reducible exact Below.alloc (by with_reducible assumption) (Below.size (by with_reducible assumption)) _|with_reducible exact Below.drew (Below.alloc (Below.refl _ _) (Nat.le_refl _) _)|with_reducible exact Below.alloc (Below.drew (Below.refl _ _)) (Nat.le_refl _) _)) ((go_at_call 13;refine(HP.out _).mono ?_;rintro e w5 ⟨rfl,rfl⟩))
  all_goals
   go_wp2_with fail
   go_meet
   exact zPU z1 _ _ _ (zAF rfl)
 dsimp only at HT2 HT4
 obtain⟨gb,rfl,hgb,hbc,hgz⟩:=hcut
 have HBc:Hid (Below W.heap.size W wc):=B1.out.trans (hbc.mono B1.out.size)
 have HOp:Hid (Blk 85 wc W.heap.size [.int .i64 k,.int .i64 a,.int .i64 b,.int .i64 c,.string s]):=R1.out.below hbc R1.out.lt
 have HGb:Hid (Blk 122 wc gb [.pointer (some ⟨Q,0,none⟩),.pointer (some ⟨D,0,none⟩),.pointer bp]):=hgb
 have o0:=HOp.out.cell 0 _ rfl
 have o1:=HOp.out.cell 1 _ rfl
 have o2:=HOp.out.cell 2 _ rfl
 have o3:=HOp.out.cell 3 _ rfl
 have o4:=HOp.out.cell 4 _ rfl
 have u0:=hgb.cell 0 _ rfl
 have u1:=hgb.cell 1 _ rfl
 have u2:=hgb.cell 2 _ rfl
 clear hgb hbc y1 y2 y3 y4 y5 SOF
 have hgW:W.heap.size<=gb:=by omega
 by_cases k2:k=2
 ·subst k2
  go_wp2_with (first|(go_at_call 54;refine(HT2.out _ HBc.out).mono ?_;rintro e w6 ⟨rfl,hl6,hn6⟩;have HN6:Hid (∀w2,Below w6.heap.size w6 w2->_):=hn6;have u1':=hl6.cell (p:=⟨gb,1,none⟩) hgW u1;have o4':=hl6.cell (p:=⟨W.heap.size,4,none⟩) (Nat.le_refl _) o4;clear hl6 hn6)|(go_at_call 55;refine(HN6.out _ (Below.refl _ _)).mono ?_;rintro e w7 ⟨rfl,hg7⟩;have HG7:Hid (_):=hg7;clear hg7))
  go_ret
  exact⟨by simp,HG7.out.1.le (Nat.le_succ _),HG7.out.2⟩
 by_cases k3:k=3
 ·subst k3
  go_wp2_with (go_at_call 56;refine(HT3.out _ ?_).mono ?_;(first|exact HBc.out|exact HBc.out.drew);rintro e w7 ⟨rfl,hg7⟩;have HG7:Hid (_):=hg7;clear hg7)
  go_ret
  exact⟨rfl,HG7.out⟩
 by_cases k4:k=4
 ·subst k4
  cases hc2:(c.tmod 2 !=0)
  ·skip
   go_wp2_with (first|(go_at_call 57;refine(HT4.out m0 _ hm0t HBc.out).mono ?_;rintro e w6 ⟨rfl,hl6,hn6⟩;have HN6:Hid (∀w2,Below w6.heap.size w6 w2->_):=hn6;have u1':=hl6.cell (p:=⟨gb,1,none⟩) hgW u1;clear hl6 hn6)|(go_at_call 58;refine(HN6.out _ (Below.refl _ _)).mono ?_;rintro e w7 ⟨rfl,hg7⟩;have HG7:Hid (_):=hg7;clear hg7))
   go_ret
   exact⟨rfl,HG7.out.1.le (Nat.le_succ _),HG7.out.2⟩
  ·skip
   go_wp2_with (first|(go_at_call 57;refine(HT4.out m1 _ hm1t HBc.out).mono ?_;rintro e w6 ⟨rfl,hl6,hn6⟩;have HN6:Hid (∀w2,Below w6.heap.size w6 w2->_):=hn6;have u1':=hl6.cell (p:=⟨gb,1,none⟩) hgW u1;clear hl6 hn6)|(go_at_call 58;refine(HN6.out _ (Below.refl _ _)).mono ?_;rintro e w7 ⟨rfl,hg7⟩;have HG7:Hid (_):=hg7;clear hg7))
   go_ret
   exact⟨rfl,HG7.out.1.le (Nat.le_succ _),HG7.out.2⟩
 by_cases k5:k=5
 ·subst k5
  obtain⟨now,hcn,h4⟩:=zNy HG.out HQ.out HBc.out
  have HCN:Hid (Calls _ _ _ wc _):=hcn
  dsimp only at HCN h4
  clear hcn
  go_wp2_with (go_at_call 59;refine HCN.out.mono ?_;rintro e w6 ⟨rfl,h6⟩;obtain rfl:wc=w6:=h6.symm;clear h6)
  go_ret
  exact⟨by simp,(HG.out.below HBc.out).le (Nat.le_succ _),HBc.out.mono (by omega)⟩
 by_cases k6:k=6
 ·subst k6
  have y1':=(HBc.out.cell (p:=⟨V,1,none⟩) hV).trans c1'
  go_wp2_with (go_at_call 61;refine(HT6.out _ ?_).mono ?_;(first|exact HBc.out|exact HBc.out.drew);rintro e w6 ⟨rfl,hb6⟩;have HB6:Hid (Below W.heap.size W w6):=hb6;clear hb6)
  go_ret
  exact⟨rfl,(HG.out.below HB6.out).le (Nat.le_succ _),HB6.out.mono (by omega)⟩
 by_cases k7:k=7
 ·subst k7
  obtain⟨cA,cD,cR,cM,hcn,h6,h7,h8,h9,hDl⟩:=zIW HG.out HQ.out HBc.out
  have HCN:Hid (Calls _ _ _ wc _):=hcn
  dsimp only at HCN h6 h7 h8 h9 hDl
  have hgl:=HGb.out.lt
  have ceq:=zIX (cA:Int) (cD:Int) (cR:Int) (cM:Int)
  clear hcn
  go_upto_region 28 with(go_at_call 62;refine HCN.out.mono ?_;rintro e w6 ⟨rfl,hb6⟩;have HB6:Hid (Below wc.heap.size wc w6):=hb6;clear hb6)
  obtain⟨X9,hX9⟩:∃X9,w6.alloc (.cells #[.int .u64 (cA:Int),.int .u64 (cD:Int),.int .u64 (cR:Int),.int .u64 (cM:Int)] 130)=X9:=⟨_,rfl⟩
  rw[hX9]
  have B9:Below wc.heap.size wc X9:=by rw[<-hX9];exact HB6.out.alloc HB6.out.size _
  have R9:Blk 130 X9 w6.heap.size [.int .u64 (cA:Int),.int .u64 (cD:Int),.int .u64 (cR:Int),.int .u64 (cM:Int)]:=by rw[<-hX9];exact Blk.made w6 _ [.int .u64 (cA:Int),.int .u64 (cD:Int),.int .u64 (cR:Int),.int .u64 (cM:Int)] (zAF rfl)
  have HB9:Hid (Below W.heap.size W X9):=HBc.out.trans (B9.mono HBc.out.size)
  have v1:=(B9.cell (p:=⟨gb,1,none⟩) hgl).trans u1
  have v6:=(B9.cell (p:=⟨D,6,none⟩) hDl).trans h6
  have v7:=(B9.cell (p:=⟨D,7,none⟩) hDl).trans h7
  have v8:=(B9.cell (p:=⟨D,8,none⟩) hDl).trans h8
  have v9:=(B9.cell (p:=⟨D,9,none⟩) hDl).trans h9
  have k0:=R9.cell 0 _ rfl
  have k1:=R9.cell 1 _ rfl
  have k2:=R9.cell 2 _ rfl
  have k3:=R9.cell 3 _ rfl
  clear hX9 B9 R9 o0 o1 o2 o3 o4 u0 u1 u2 h6 h7 h8 h9
  go_big_region
  go_wp2_with fail
  go_ret
  exact⟨rfl,(HG.out.below HB9.out.drew).le (Nat.le_succ _),HB9.out.drew.mono (by omega)⟩
 have t2:(k == 2)=false:=by simpa using k2
 have t3:(k == 3)=false:=by simpa using k3
 have t4:(k == 4)=false:=by simpa using k4
 have t5:(k == 5)=false:=by simpa using k5
 have t6:(k == 6)=false:=by simpa using k6
 have t7:(k == 7)=false:=by simpa using k7
 go_wp2_with fail
 go_ret
 exact⟨rfl,(HG.out.below HBc.out).le (Nat.le_succ _),HBc.out.mono (by omega)⟩
end
theorem zN4 {V0 w1:World} {L:List Value} (hb:Below (V0.alloc (.cells L.toArray 85)).heap.size (V0.alloc (.cells L.toArray 85)) w1) (h1:∀v ∈ L,v.oneCell'=true:=by exact zAF rfl):Below V0.heap.size V0 w1/\Blk 85 w1 V0.heap.size L/\V0.heap.size+1<=w1.heap.size:=by
 have z:(V0.alloc (.cells L.toArray 85)).heap.size=V0.heap.size+1:=by simp
 have s:=hb.size
 exact⟨(bal _ _).trans (hb.mono (by omega)),(Blk.made V0 _ L h1).below hb (by omega),by omega⟩
theorem zHC {V0 w1 w2:World} {L:List Value} (h:Below V0.heap.size V0 w1) (hb:Below (w1.alloc (.cells L.toArray 122)).heap.size (w1.alloc (.cells L.toArray 122)) w2) (h1:∀v ∈ L,v.oneCell'=true:=by exact zAF rfl):Below V0.heap.size V0 w2/\Blk 122 w2 w1.heap.size L:=by
 have z:(w1.alloc (.cells L.toArray 122)).heap.size=w1.heap.size+1:=by simp
 have s:=h.size
 exact⟨(h.alloc s _).trans (hb.mono (by omega)),(Blk.made w1 _ L h1).below hb (by omega)⟩
theorem zIb {w1 w2:World} {L:List Value} {P:Prop} {Q:Nat} {O:Nat->Prop} (h:P) (hb:Below (w1.alloc (.cells L.toArray 122)).heap.size (w1.alloc (.cells L.toArray 122)) w2) (ho:∀x,(x=Q\/O x)->(w1.alloc (.cells L.toArray 122)).heap.size<=x):P/\(∀x,(x=Q\/O x)->w1.heap.size<x)/\Below w1.heap.size w1 w2:=by
 have z:(w1.alloc (.cells L.toArray 122)).heap.size=w1.heap.size+1:=by simp
 exact⟨h,fun x q=>by have:=ho x q;omega,(bal _ _).trans (hb.mono (by omega))⟩
theorem zKW {X:World} {Q K D room N:Nat} {O S2:Nat->Prop} {lg:Value} {bq:Option Nat} (hg:zAa X Q K O lg (.slice none 0 0) none room 0 0 [] 0 0 0 0) (hd:Blk 132 X D [.int .i64 (room:Int),.bool false,.int .i64 0,.slice none 0 0,.int .u64 0,.slice none 0 0,.int .u64 0,.int .u64 0,.int .u64 0,.int .u64 0]) (ho:∀x,(x=Q\/O x)->D<x) (hb:Bok X S2 ⟨Q,D,K,lg,bq⟩ N) (hs:∀x,S2 x->D<x/\¬(x=Q\/O x)):
 zEh X (fun x=>zCg Q D O (.slice none 0 0) (.slice none 0 0) (.slice none 0 0) x\/S2 x) ⟨Q,D,K,lg,bq⟩ N:=by
 refine⟨_,S2,⟨O,.slice none 0 0,.slice none 0 0,.slice none 0 0,none,room,0,0,[],0,0,0,0,⟨hg,⟨hd,.inl ⟨rfl,rfl⟩,World.ownsRow_nil _ _ _ _⟩,⟨Nat.zero_le _,Nat.zero_le _,Nat.zero_le _,Nat.zero_le _,Nat.zero_le _⟩,fun x q r=> ?_⟩,rfl⟩,hb,fun x q z=> ?_,rfl⟩
 ·try dsimp only at q r
  have hx:D<x:=by
   rcases q with q|q|q
   ·exact ho x (.inl q)
   ·exact ho x (.inr q)
   ·cases q
  rcases r with r|r|r
  ·omega
  ·cases r
  ·cases r
 ·try dsimp only[zCg] at q
  obtain⟨z1,z2⟩:=hs x z
  rcases q with(q|q|q)|(q|q|q)
  ·exact z2 (.inl q)
  ·exact z2 (.inr q)
  ·cases q
  ·omega
  ·cases q
  ·cases q
theorem zN5 {Q D m:Nat} {O S2:Nat->Prop} (ho:∀x,(x=Q\/O x)->m<=x) (hd:m<=D) (hs:∀x,S2 x->m<=x):∀x,(zCg Q D O (.slice none 0 0) (.slice none 0 0) (.slice none 0 0) x\/S2 x)->m<=x:=fun x q=>by
 rcases q with((q|q|q)|(q|q|q))|q
 ·exact ho x (.inl q)
 ·exact ho x (.inr q)
 ·cases q
 ·omega
 ·cases q
 ·cases q
 ·exact hs x q
theorem zPV {w1:World} {L:List Value} {S G:Nat->Prop} (h:∀x,S x->(w1.alloc (.cells L.toArray 122)).heap.size<=x/\¬G x):∀x,S x->w1.heap.size<x/\¬G x:=fun x q=>by
 have z:(w1.alloc (.cells L.toArray 122)).heap.size=w1.heap.size+1:=by simp
 have:=h x q
 exact⟨by omega,this.2⟩
section
variable {W : World} {B V N : Nat} {gv : Value} {L : List Gt}
theorem zLR (h:zAo W B V gv L N) (hL:zBU W) (V0:World) (hb:Below W.heap.size W V0) (k a b c:Int) (s:ByteArray) (ha: -9223372036854775808<=a/\a<=9223372036854775807) (hb0: -9223372036854775808<=b/\b<=9223372036854775807) (hr:a<1\/64<a):
 Calls Tryz.prog 53 #[.pointer (some ⟨V,0,none⟩),.agg #[.int .i64 k,.int .i64 a,.int .i64 b,.int .i64 c,.string s]] V0 fun e w'=>e= .returned (.bool true)/\Below V0.heap.size V0 w':=by
 have HP:Hid (∀U:World,Calls Tryz.prog 13 #[.int .i64 b,.int .i64 3] U fun e w'=>e= .returned (.int .i64 (lpk b 3))/\w'=U):=fun U=>zFj b 3 U hb0 (by omega)
 have HN:Hid (∀U:World,Calls _ _ _ U _):=fun U=>zKQ a U ha
 have HW:Hid (∀U:World,Below W.heap.size W U->Calls _ _ _ U _):=fun U hU=>zNo a hr U (hL.below hU)
 have HWO:Hid (∀(odd:Bool) (U:World),Below W.heap.size W U->Calls _ _ _ U _):=fun odd U hU=>zLL a hr odd U (hL.below hU)
 have hd:(decide (1<=a)&&decide (a<=64))=false:=by simp;omega
 rw[hd] at HN
 have HG:Hid (zAo W B V gv L N):=h
 have HB:Hid (Below W.heap.size W V0):=hb
 have hV:=h.blk.lt
 have hz:=hb.size
 have c1:=(hb.cell (p:=⟨V,1,none⟩) hV).trans (h.blk.cell 1 _ rfl)
 have hVn:V≠V0.heap.size:=by omega
 have hVl:V<V0.heap.size:=by omega
 generalize lpk b 3=pk at HP
 clear h hL hb ha hb0 hr hd
 go_enter Tryz.func53,Tryz.ntmps53
 go_upto_region 7 with(first|(go_at_call 13;refine(HP.out _).mono ?_;rintro e w1 ⟨rfl,h1⟩;subst h1)|(go_at_call 79;refine(HN.out _).mono ?_;rintro e w1 ⟨rfl,hb1,_⟩;have HB1:Hid (Below V0.heap.size V0 w1/\Blk 85 w1 V0.heap.size [.int .i64 k,.int .i64 a,.int .i64 b,.int .i64 c,.string s]/\V0.heap.size+1<=w1.heap.size):=zN4 hb1;have o1:=HB1.out.2.1.cell 1 _ rfl;have hz1:=HB1.out.2.2;have hn1:V0.heap.size≠w1.heap.size:=(by omega);have hl1:V0.heap.size<w1.heap.size:=(by omega);clear hb1))
 go_upto_if 32 with fail
 go_cut [9] from 31 to 71 (fun x w'=>x= .int .i64 1/\Below V0.heap.size V0 w'/\w'.cell? ⟨w1.heap.size,0,none⟩=some (.pointer none))
 case first=>
  by_cases h0:pk=0
  ·have t0:(pk == 0)=true:=by simpa using h0
   clear h0
   go_wp2_with (go_at_call 80;refine(HW.out _ ?_).mono ?_;(exact(HB.out.trans (HB1.out.1.mono hz)).alloc (by omega) _);rintro e w2 ⟨rfl,hb2⟩;have HB2:Hid (Below V0.heap.size V0 w2/\Blk 122 w2 w1.heap.size [.pointer none,.pointer (some ⟨V0.heap.size+1,0,none⟩),.pointer none]):=zHC HB1.out.1 hb2;have n0:=HB2.out.2.cell 0 _ rfl;have nf:=HB2.out.2.frozen 0;clear hb2)
   go_meet
   exact⟨rfl,HB2.out.1.setCell (p:=⟨w1.heap.size,0,none⟩) (by show V0.heap.size<=w1.heap.size;omega) _,(HB2.out.2.set 0 (.pointer none)).cell 0 _ rfl⟩
  ·have t0:(pk == 0)=false:=by simpa using h0
   clear h0
   go_wp2_with (go_at_call 81;refine(HWO.out _ _ ?_).mono ?_;(exact(HB.out.trans (HB1.out.1.mono hz)).alloc (by omega) _);rintro e w2 ⟨pb,rfl,hb2⟩;have HB2:Hid (Below V0.heap.size V0 w2/\Blk 122 w2 w1.heap.size [.pointer none,.pointer (some ⟨V0.heap.size+1,0,none⟩),.pointer none]):=zHC HB1.out.1 hb2;have n0:=HB2.out.2.cell 0 _ rfl;have nf:=HB2.out.2.frozen 0;have n2:=HB2.out.2.cell 2 _ rfl;have nf2:=HB2.out.2.frozen 2;clear hb2)
   go_meet
   exact⟨rfl,(HB2.out.1.setCell (p:=⟨w1.heap.size,0,none⟩) (by show V0.heap.size<=w1.heap.size;omega) _).setCell (p:=⟨w1.heap.size,2,none⟩) (by show V0.heap.size<=w1.heap.size;omega) _,((HB2.out.2.set 0 (.pointer none)).set 2 (.pointer pb)).cell 0 _ rfl⟩
 obtain⟨rfl,hbx,hx0⟩:=hcut
 have HBX:Hid (Below V0.heap.size V0 wc):=hbx
 clear hbx
 go_wp2_with fail
 go_ret
 exact⟨rfl,HBX.out⟩
theorem Tryz.infoGt:(Tryz.prog.info? 122).map (fun i=>(i.zero,i.size,i.bytes))=some (some (.agg #[.pointer none,.pointer none,.pointer none]),3,24):=by kernel_rfl
theorem zN6 (h:zAo W B V gv L N) (hl2:L.length<=1000000) (V0:World) (hb:Below W.heap.size W V0) (k b c:Int) (s:ByteArray) (hb0: -9223372036854775808<=b/\b<=9223372036854775807) (room:Nat) (hr1:1<=room) (hr2:room<=64):
 Calls Tryz.prog 53 #[.pointer (some ⟨V,0,none⟩),.agg #[.int .i64 k,.int .i64 (room:Int),.int .i64 b,.int .i64 c,.string s]] V0 fun e w'=>e= .returned (.bool true)/\∃gv' L',zAo w' B V gv' L' (N+1)/\Below B W w':=by
 obtain⟨gp,gc,rfl⟩:=zAn h.row
 have HP:Hid (∀U:World,Calls Tryz.prog 13 #[.int .i64 b,.int .i64 3] U fun e w'=>e= .returned (.int .i64 (lpk b 3))/\w'=U):=fun U=>zFj b 3 U hb0 (by omega)
 have HN:Hid (∀U:World,Calls _ _ _ U _):=fun U=>zKQ (room:Int) U (by omega)
 have HW:Hid (∀U:World,Calls _ _ _ U _):=fun U=>zNS room hr1 hr2 U
 have HWO:Hid (∀(odd:Bool) (U:World),Calls _ _ _ U _):=fun odd U=>zLK room hr1 hr2 odd U
 have hd:(decide (1<=(room:Int))&&decide ((room:Int)<=64))=true:=by simp;omega
 rw[hd] at HN
 have HG:Hid (zAo W B V (.slice gp L.length gc) L N):=h
 have HB:Hid (Below W.heap.size W V0):=hb
 have hV:=h.blk.lt
 have hz:=hb.size
 have c1:=(hb.cell (p:=⟨V,1,none⟩) hV).trans (h.blk.cell 1 _ rfl)
 have hVn:V≠V0.heap.size:=by omega
 have hVl:V<V0.heap.size:=by omega
 generalize lpk b 3=pk at HP
 clear h hb hb0 hd
 go_enter Tryz.func53,Tryz.ntmps53
 go_upto_region 7 with(first|(go_at_call 13;refine(HP.out _).mono ?_;rintro e w1 ⟨rfl,h1⟩;subst h1)|(go_at_call 79;refine(HN.out _).mono ?_;rintro e w1 ⟨rfl,hb1,hk1⟩;have HB1:Hid (Below V0.heap.size V0 w1/\Blk 85 w1 V0.heap.size [.int .i64 k,.int .i64 (room:Int),.int .i64 b,.int .i64 c,.string s]/\V0.heap.size+1<=w1.heap.size):=zN4 hb1;have HK1:Hid (Blk 132 w1 (V0.heap.size+1) [.int .i64 (room:Int),.bool false,.int .i64 0,.slice none 0 0,.int .u64 0,.slice none 0 0,.int .u64 0,.int .u64 0,.int .u64 0,.int .u64 0]):=(by have q:=hk1;rw[show(V0.alloc (.cells #[.int .i64 k,.int .i64 (room:Int),.int .i64 b,.int .i64 c,.string s] 85)).heap.size=V0.heap.size+1 from by simp] at q;exact q);have o1:=HB1.out.2.1.cell 1 _ rfl;have hz1:=HB1.out.2.2;have hn1:V0.heap.size≠w1.heap.size:=(by omega);have hl1:V0.heap.size<w1.heap.size:=(by omega);clear hb1 hk1))
 go_upto_if 32 with fail
 go_cut [9] from 31 to 71 (fun x w'=>x= .int .i64 0/\∃(g:Gt) (S:Nat->Prop),g.d=V0.heap.size+1/\zEh w' S g N/\(∀y,S y->W.heap.size<=y)/\Blk 122 w' w1.heap.size [.pointer (some ⟨g.q,0,none⟩),.pointer (some ⟨V0.heap.size+1,0,none⟩),.pointer (g.b.map fun x=>⟨x,0,none⟩)]/\Below W.heap.size W w')
 case first=>
  have hDl:=HK1.out.lt
  by_cases h0:pk=0
  ·have t0:(pk == 0)=true:=by simpa using h0
   clear h0
   go_wp2_with (go_at_call 80;refine(HW.out _).mono ?_;rintro e w2 ⟨Q,K,O,rfl,hg2,hb2,ho2⟩;have HB2:Hid (Below V0.heap.size V0 w2/\Blk 122 w2 w1.heap.size [.pointer none,.pointer (some ⟨V0.heap.size+1,0,none⟩),.pointer none]):=zHC HB1.out.1 hb2;have HG2:Hid (zAa w2 Q K O .nilFunc (.slice none 0 0) none room 0 0 [] 0 0 0 0/\(∀x,(x=Q\/O x)->w1.heap.size<x)/\Below w1.heap.size w1 w2):=zIb hg2 hb2 ho2;have n0:=HB2.out.2.cell 0 _ rfl;have nf:=HB2.out.2.frozen 0;clear hb2 hg2 ho2)
   go_meet
   refine⟨rfl,⟨Q,V0.heap.size+1,K,.nilFunc,none⟩,(fun x=>zCg Q (V0.heap.size+1) O (.slice none 0 0) (.slice none 0 0) (.slice none 0 0) x\/(fun _=>False) x),rfl,?_⟩
   have tX:Trn (fun x=>x=w1.heap.size) w2 (w2.setCell ⟨w1.heap.size,0,none⟩ (.pointer (some ⟨Q,0,none⟩))):=Trn.setCell (S:=fun x=>x=w1.heap.size) w2 w1.heap.size 0 _ rfl
   have ho:=HG2.out.2.1
   have hw2:=HB2.out.1.size
   refine⟨zKW (S2:=fun _=>False) (HG2.out.1.trn tX (fun x q e=> ?_)) ((HK1.out.below HG2.out.2.2 hDl).trn tX (fun e=>by omega)) (fun x q=>by have:=ho x q;omega) (.inl ⟨rfl,rfl,rfl⟩) (fun _ q=>q.elim),zN5 (fun x q=>by have:=ho x q;omega) (by omega) (fun _ q=>q.elim),HB2.out.2.set 0 (.pointer (some ⟨Q,0,none⟩)),(HB.out.trans (HB2.out.1.mono hz)).trans (tX.to_below (by omega) (fun m hm q=>by omega))⟩
   rcases q with q|q|q
   ·have:=ho x (.inl q);omega
   ·have:=ho x (.inr q);omega
   ·cases q
  ·have t0:(pk == 0)=false:=by simpa using h0
   clear h0
   go_wp2_with (go_at_call 81;refine(HWO.out _ _).mono ?_;rintro e w2 ⟨Q,K,O,bk,p1,p2,sb,lg,rfl,hg2,hl2,hb2,ho2,hs2⟩;have HB2:Hid (Below V0.heap.size V0 w2/\Blk 122 w2 w1.heap.size [.pointer none,.pointer (some ⟨V0.heap.size+1,0,none⟩),.pointer none]):=zHC HB1.out.1 hb2;have HG2:Hid (zAa w2 Q K O lg (.slice none 0 0) none room 0 0 [] 0 0 0 0/\(∀x,(x=Q\/O x)->w1.heap.size<x)/\Below w1.heap.size w1 w2):=zIb hg2 hb2 ho2;have HL2:Hid (∃odd,zBT w2 Q K bk lg p1 p2 sb odd (.slice none 0 0) (.slice none 0 0) (.slice none 0 0) 0 0 0 [] [] []/\∀x,zIR bk p1 p2 sb (.slice none 0 0) (.slice none 0 0) (.slice none 0 0) x->w1.heap.size<x/\¬(x=Q\/O x)):=⟨_,hl2,zPV hs2⟩;have n0:=HB2.out.2.cell 0 _ rfl;have nf:=HB2.out.2.frozen 0;have n2:=HB2.out.2.cell 2 _ rfl;have nf2:=HB2.out.2.frozen 2;clear hb2 hg2 ho2 hl2 hs2)
   go_meet
   refine⟨rfl,⟨Q,V0.heap.size+1,K,lg,some bk⟩,(fun x=>zCg Q (V0.heap.size+1) O (.slice none 0 0) (.slice none 0 0) (.slice none 0 0) x\/zIR bk p1 p2 sb (.slice none 0 0) (.slice none 0 0) (.slice none 0 0) x),rfl,?_⟩
   have tX:Trn (fun x=>x=w1.heap.size) w2 ((w2.setCell ⟨w1.heap.size,0,none⟩ (.pointer (some ⟨Q,0,none⟩))).setCell ⟨w1.heap.size,2,none⟩ (.pointer (some ⟨bk,0,none⟩))):=(Trn.setCell (S:=fun x=>x=w1.heap.size) w2 w1.heap.size 0 _ rfl).trans (Trn.setCell (S:=fun x=>x=w1.heap.size) _ w1.heap.size 2 _ rfl) (fun _ _ q=>q)
   have ho:=HG2.out.2.1
   have hw2:=HB2.out.1.size
   obtain⟨odd,hl,hs⟩:=HL2.out
   refine⟨zKW (S2:=zIR bk p1 p2 sb (.slice none 0 0) (.slice none 0 0) (.slice none 0 0)) (HG2.out.1.trn tX (fun x q e=> ?_)) ((HK1.out.below HG2.out.2.2 hDl).trn tX (fun e=>by omega)) (fun x q=>by have:=ho x q;omega) (.inr ⟨bk,p1,p2,sb,odd,_,_,_,0,[],[],[],rfl,Nat.zero_le _,hl.trn tX (fun x q e=>by have:=hs x q;omega),rfl⟩) (fun x q=>⟨by have:=hs x q;omega,(hs x q).2⟩),zN5 (fun x q=>by have:=ho x q;omega) (by omega) (fun x q=>by have:=hs x q;omega),(HB2.out.2.set 0 (.pointer (some ⟨Q,0,none⟩))).set 2 (.pointer (some ⟨bk,0,none⟩)),(HB.out.trans (HB2.out.1.mono hz)).trans (tX.to_below (by omega) (fun m hm q=>by omega))⟩
   rcases q with q|q|q
   ·have:=ho x (.inl q);omega
   ·have:=ho x (.inr q);omega
   ·cases q
 obtain⟨X4,rfl⟩:∃X4,X4=wc:=⟨_,rfl⟩
 obtain⟨rfl,⟨Q,D,K,lg,bq⟩,S,hgd,hT,hS,hR,bX⟩:=hcut
 dsimp only at hgd hR
 subst hgd
 generalize hbp:(bq.map fun x=>(⟨x,0,none⟩:Addr))=bp at hR
 have HBP:Hid ((bq.map fun x=>(⟨x,0,none⟩:Addr))=bp):=hbp
 have BX:Hid (Below W.heap.size W X4):=bX
 have RX:Hid (Blk 122 X4 w1.heap.size [.pointer (some ⟨Q,0,none⟩),.pointer (some ⟨V0.heap.size+1,0,none⟩),.pointer bp]):=hR
 have PX:Hid (zEh X4 S ⟨Q,V0.heap.size+1,K,lg,bq⟩ N):=hT
 have HSX:Hid (∀x,S x->W.heap.size<=x):=hS
 have HGX:Hid (zAo X4 B V (.slice gp L.length gc) L N):=HG.out.below bX
 have zX:w1.heap.size<X4.heap.size:=RX.out.lt
 have hVX:V<X4.heap.size:=by omega
 have hVX2:V≠X4.heap.size:=by omega
 have hnX2:w1.heap.size≠X4.heap.size:=by omega
 have k0:=HGX.out.blk.cell 0 _ rfl
 have fz0:=HGX.out.blk.frozen 0
 have r0:=RX.out.cell 0 _ rfl
 have r1:=RX.out.cell 1 _ rfl
 have r2:=RX.out.cell 2 _ rfl
 obtain⟨i0,hi0,hz0,hzz,hz2⟩:=zEo Tryz.infoGt
 have hbase:B<=X4.heap.size:=by have:=HG.out.base;omega
 have HOWA:Hid (∀u':World,u'.heap=(X4.alloc (.cells #[.pointer (some ⟨Q,0,none⟩),.pointer (some ⟨V0.heap.size+1,0,none⟩),.pointer bp] 122)).heap->u'.ownsRow B 122 3 (.slice gp L.length gc) L.length (zIV L)):=fun u' hu=>zCH (HGX.out.row.alloc (.cells #[.pointer (some ⟨Q,0,none⟩),.pointer (some ⟨V0.heap.size+1,0,none⟩),.pointer bp] 122)) (fun g _=>by rw[hu])
 have HNW:Hid (∀u':World,u'.heap=(X4.alloc (.cells #[.pointer (some ⟨Q,0,none⟩),.pointer (some ⟨V0.heap.size+1,0,none⟩),.pointer bp] 122)).heap->∀(j:Nat) (y:Value),([.pointer (some ⟨Q,0,none⟩),.pointer (some ⟨V0.heap.size+1,0,none⟩),.pointer bp]:List Value)[j]? =some y->u'.cell? ((⟨X4.heap.size,0,none⟩:Addr).add j)=some y):=fun u' hu=>World.news_of_block (w:=u') (cs:= #[.pointer (some ⟨Q,0,none⟩),.pointer (some ⟨V0.heap.size+1,0,none⟩),.pointer bp]) (t:=122) (fr:=(0,0)) (by rw[hu];exact heap_alloc_new X4 _)
 have HAD:Hid (∀(u' w3:World) (gg cap':Nat),u'.heap=(X4.alloc (.cells #[.pointer (some ⟨Q,0,none⟩),.pointer (some ⟨V0.heap.size+1,0,none⟩),.pointer bp] 122)).heap->u'.os=X4.os->u'.tape=X4.tape->u'.output=X4.output->u'.grownBy w3 (Value.slice gp L.length gc).ownBlock->((Value.slice gp L.length gc).ownBlock=some gg\/gg=X4.heap.size+1)->w3.ownsRow B 122 3 (.slice (some ⟨gg,0,none⟩) (L.length+1) cap') (L.length+1) (zIV L++[.pointer (some ⟨Q,0,none⟩),.pointer (some ⟨V0.heap.size+1,0,none⟩),.pointer bp])->Below W.heap.size W u'/\zEh u' S ⟨Q,V0.heap.size+1,K,lg,bq⟩ N/\u'.grownBy w3 (Value.slice gp L.length gc).ownBlock/\((Value.slice gp L.length gc).ownBlock=some gg\/u'.heap.size<=gg)/\w3.ownsRow B 122 3 (.slice (some ⟨gg,0,none⟩) (L.length+1) cap') (L.length+1) (zIV (L++[⟨Q,V0.heap.size+1,K,lg,bq⟩]))/\w3.cell? ⟨V,0,none⟩=some (.slice gp L.length gc)/\w3.frozen? ⟨V,0,none⟩=false):=fun u' w3 gg cap' q1 q2 q3 q4 q5 q6 q7=>by
  have zu:u'.heap.size=X4.heap.size+1:=by rw[q1];simp
  have bu:Below X4.heap.size X4 u':=⟨q2,q3,q4,by omega,fun m hm=>by rw[q1];exact Below.heap_alloc _ _ _ hm⟩
  have hV3:w3.heap[V]? =X4.heap[V]? :=(q5.block V (by omega) (fun q=>zAx HGX.out.row HGX.out.blk (by decide) q.symm)).trans (bu.block V hVX)
  refine⟨BX.out.trans (bu.mono BX.out.size),PX.out.below bu,q5,?_,by rw[zKV];simp only[zIV];rw[HBP.out];exact q7,(World.cell?_of_block (a:=⟨V,0,none⟩) hV3).trans k0,(World.frozen?_of_block (a:=⟨V,0,none⟩) hV3).trans fz0⟩
  rcases q6 with q|q
  ·exact .inl q
  ·exact .inr (by omega)
 clear hT hS hR bX hbp o1
 go_upto_region 19 with fail
 go_cut [15] from 72 to 78 (fun x w'=>∃gg cap' u',x= .slice (some ⟨gg,0,none⟩) (L.length+1) cap'/\Below W.heap.size W u'/\zEh u' S ⟨Q,V0.heap.size+1,K,lg,bq⟩ N/\u'.grownBy w' (Value.slice gp L.length gc).ownBlock/\((Value.slice gp L.length gc).ownBlock=some gg\/u'.heap.size<=gg)/\w'.ownsRow B 122 3 (.slice (some ⟨gg,0,none⟩) (L.length+1) cap') (L.length+1) (zIV (L++[⟨Q,V0.heap.size+1,K,lg,bq⟩]))/\w'.cell? ⟨V,0,none⟩=some (.slice gp L.length gc)/\w'.frozen? ⟨V,0,none⟩=false)
 case first=>
  go_region_law (refine step_append_lies _ (by rfl) _ _ _ (by rfl) B 122 i0 _ 3 24 Tryz.underlying87 hi0 hz0 hzz hz2 rfl (by decide) _ L.length (zIV L) (by rfl) (HOWA.out _ (by rfl)) ⟨X4.heap.size,0,none⟩ 1 1 [.pointer (some ⟨Q,0,none⟩),.pointer (some ⟨V0.heap.size+1,0,none⟩),.pointer bp] (by rfl) (by rfl) (HNW.out _ (by rfl)) (by simp[Value.oneCell']) (by decide) (by unfold maxLen;omega) (by omega) (by first|exact Nat.le_trans hbase (Nat.le_succ _)|(simp;omega)) (X4.heap.size+1) (by simp) ?_;intro gg cap' w3 hown3 hgrow hat hlt3;have HA3:Hid (∃u',Below W.heap.size W u'/\zEh u' S ⟨Q,V0.heap.size+1,K,lg,bq⟩ N/\u'.grownBy w3 (Value.slice gp L.length gc).ownBlock/\((Value.slice gp L.length gc).ownBlock=some gg\/u'.heap.size<=gg)/\w3.ownsRow B 122 3 (.slice (some ⟨gg,0,none⟩) (L.length+1) cap') (L.length+1) (zIV (L++[⟨Q,V0.heap.size+1,K,lg,bq⟩]))/\w3.cell? ⟨V,0,none⟩=some (.slice gp L.length gc)/\w3.frozen? ⟨V,0,none⟩=false):=⟨_,HAD.out _ _ _ _ (by rfl) (by rfl) (by rfl) (by rfl) hgrow hat hown3⟩;clear hgrow hat hown3)
  all_goals
   go_wp2_with fail
   go_meet
   obtain⟨u',hu'⟩:=HA3.out
   exact⟨_,_,u',rfl,hu'⟩
 obtain⟨gg,cap',u',rfl,hu1,hu2,hu3,hu4,hu5,hu6,hu7⟩:=hcut
 have HMO:Hid (_/\_):=HG.out.more hu1 hu2 HSX.out hu3 hu5 hu4
 clear hu1 hu2 hu3 hu4 hu5 HAD HNW HOWA k0 fz0 r0 r1 r2
 go_wp2_with fail
 go_ret
 exact⟨rfl,_,_,HMO.out.1,HMO.out.2⟩
end
structure Opn where
 k:Int
 a:Int
 b:Int
 c:Int
 s:ByteArray
abbrev Opn.cells (o:Opn):Array Value:= #[.int .i64 o.k,.int .i64 o.a,.int .i64 o.b,.int .i64 o.c,.string o.s]
abbrev Opn.l (o:Opn):List Value:=[.int .i64 o.k,.int .i64 o.a,.int .i64 o.b,.int .i64 o.c,.string o.s]
structure Opn.Ok (o:Opn):Prop where
 a: -9223372036854775808<=o.a/\o.a<=9223372036854775807
 b: -9223372036854775808<=o.b/\o.b<=9223372036854775807
 s:o.s.size<=140737488351232
section
variable {W : World} {B V N : Nat} {gv : Value} {L : List Gt}
theorem zN7 (h:zAo W B V gv L N) (hL:zBU W) (hl2:L.length<=1000000) (a b c:Int) (ha: -9223372036854775808<=a/\a<=9223372036854775807) (hb0: -9223372036854775808<=b/\b<=9223372036854775807) (s:ByteArray):
 Calls Tryz.prog 37 #[.pointer (some ⟨V,0,none⟩),.agg #[.int .i64 1,.int .i64 a,.int .i64 b,.int .i64 c,.string s]] W fun e w'=>e= .returned (.bool true)/\∃gv' L',zAo w' B V gv' L' (N+1)/\Below B W w':=by
 have HO:Hid (∀U:World,Below W.heap.size W U->Calls Tryz.prog 53 #[.pointer (some ⟨V,0,none⟩),.agg #[.int .i64 1,.int .i64 a,.int .i64 b,.int .i64 c,.string s]] U fun e w'=>e= .returned (.bool true)/\∃gv' L',zAo w' B V gv' L' (N+1)/\Below B W w'):=fun U hU=>by
  by_cases hr:a<1\/64<a
  ·refine(zLR h hL U hU 1 a b c s ha hb0 hr).mono fun e w' z=>⟨z.1,gv,L,?_⟩
   have bb:=hU.trans (z.2.mono hU.size)
   exact⟨(h.below bb).le (Nat.le_succ _),bb.mono (Nat.le_trans h.base (Nat.le_of_lt h.blk.lt))⟩
  ·obtain⟨room,rfl⟩:∃room:Nat,a=(room:Int):=⟨a.toNat,by omega⟩
   exact zN6 h hl2 U hU 1 b c s hb0 room (by omega) (by omega)
 clear h hL hl2 ha hb0
 go_enter Tryz.func37,Tryz.ntmps37
 go_wp2_with (go_at_call 53;refine(HO.out _ (bal _ _)).mono ?_;rintro e w6 ⟨rfl,hg6⟩;have HG6:Hid (_):=hg6;clear hg6)
 go_ret
 exact⟨rfl,HG6.out⟩
theorem zPW (h:zAo W B V gv L N) (hL:zBU W) (hm:zBx W) (hN:N<=1000000) (o:Opn) (ho:o.Ok) (hs:o.s.size<=262144):
 Calls Tryz.prog 37 #[.pointer (some ⟨V,0,none⟩),.agg o.cells] W fun e w'=>e= .returned (.bool true)/\∃gv' L',zAo w' B V gv' L' (N+1)/\Below B W w':=by
 obtain⟨k,a,b,c,s⟩:=o
 have hl2:L.length<=1000000:=Nat.le_trans h.len hN
 have ha:=ho.a
 have hb:=ho.b
 dsimp only at ha hb hs ⊢
 by_cases k1:k=1
 ·subst k1;exact zN7 h hL hl2 a b c ha hb s
 by_cases hl:L.length=0
 ·exact(zN2 h hl k a b c s k1).mono fun e w' z=>⟨z.1,gv,L,z.2.1.le (Nat.le_succ _),z.2.2⟩
 have hl0:0<L.length:=Nat.pos_of_ne_zero hl
 exact(zN3 h hl0 hl2 hL hm hN k k1 a b c ha hb s hs).mono fun e w' z=>⟨z.1,gv,L,z.2⟩
end
def zLS (W:World) (p:Option Addr) (ops:List Opn):Prop:=∀i o,ops[i]? =some o->∃sb so,p=some ⟨sb,so,none⟩/\sb<W.heap.size/\∀k v,o.l[k]? =some v->W.cell? ⟨sb,so+(i*5+k),none⟩=some v
def zPX (ops:List Opn) (e:Ending):Prop:=∃q:Bool,e= .returned (.bool q)/\(q=true->ops.length<=262144/\∀o ∈ ops,o.s.size<=262144)
theorem zIc (W:World) (p:Option Addr) (c:Nat) (ops:List Opn) (hp:zLS W p ops) (hok:∀o ∈ ops,o.Ok) (hn:ops.length<=maxLen):
 Calls Tryz.prog 16 #[.slice p ops.length c] W fun e w'=>zPX ops e/\Below W.heap.size W w':=by
 unfold maxLen at hn
 by_cases hbig:262144<ops.length
 ·have d1:decide ((262144:Int)<(ops.length:Int))=true:=by simp;omega
  clear hp hok hn
  go_enter Tryz.func16,Tryz.ntmps16
  go_wp2_with fail
  go_ret
  exact⟨⟨false,rfl,fun q=>by cases q⟩,Below.refl _ _⟩
 ·have d1:decide ((262144:Int)<(ops.length:Int))=false:=by simp;omega
  have hle:ops.length<=262144:=by omega
  have HP:Hid (zLS W p ops):=hp
  have HO:Hid (∀o ∈ ops,o.Ok):=hok
  clear hp hok hn hbig
  go_enter Tryz.func16,Tryz.ntmps16
  go_wp2_with fail
  go_loopw [3,4] (fun nv iv wr=>∃j tot:Nat,j<=ops.length/\iv= .int .i64 j/\nv= .int .i64 tot/\tot<=262144/\(∀o ∈ ops.take j,o.s.size<=262144)/\Below W.heap.size W wr) (fun _ iv _=>ops.length-(intOf iv).toNat)
  case atStart=>exact⟨0,ops.length,Nat.zero_le _,rfl,rfl,hle,fun o ho=>by simp at ho,Below.refl _ _⟩
  case round=>
   obtain⟨j,tot,hj,rfl,rfl,ht,hall,hbr⟩:=hrel
   have HA:Hid (∀o ∈ ops.take j,o.s.size<=262144):=hall
   have HB:Hid (Below W.heap.size W wr):=hbr
   clear hall
   by_cases hlt:j<ops.length
   ·obtain⟨o,ho⟩:∃o,ops[j]? =some o:=⟨_,List.getElem?_eq_getElem hlt⟩
    have HS:Hid (ops.take (j+1)=ops.take j++[o]):=show _=_ by rw[List.take_add_one,ho];rfl
    have hsz:=(HO.out o (List.mem_of_getElem? ho)).s
    obtain⟨sb,so,hpp,hsb,hcs⟩:=HP.out j o ho
    subst hpp
    have s4:=(hbr.cell (p:=⟨sb,so+(j*5+4),none⟩) hsb).trans (hcs 4 _ rfl)
    rw[<-Nat.add_assoc] at s4
    obtain⟨s,hss⟩:∃s,o.s=s:=⟨_,rfl⟩
    have HSS:Hid (o.s=s):=hss
    rw[hss] at s4 hsz
    clear hss
    have i1:(0:Int)<=(j:Int):=by omega
    have i2:(j:Int)<(ops.length:Int):=by omega
    have i3:IntKind.i64.wrap ((j:Int)+1)=(j:Int)+1:=by rw[IntKind.wrap_i64];omega
    have i4:IntKind.i64.wrap ((tot:Int)+(s.size:Int))=((tot+s.size:Nat):Int):=by rw[IntKind.wrap_i64];omega
    clear hcs hbr
    by_cases hb2:262144<tot+s.size
    ·have d2:decide ((262144:Int)<((tot+s.size:Nat):Int))=true:=by simp;omega
     go_wp2_with fail
     go_ret
     exact⟨⟨false,rfl,fun q=>by cases q⟩,HB.out⟩
    ·have d2:decide ((262144:Int)<((tot+s.size:Nat):Int))=false:=by simp;omega
     go_wp2_with fail
     go_roundw
     case measure=>simp[intOf];omega
     case rel=>
      refine⟨j+1,tot+s.size,by omega,by simp,rfl,by omega,fun x hx=> ?_,HB.out⟩
      rw[HS.out] at hx
      rcases List.mem_append.1 hx with q|q
      ·exact HA.out x q
      ·obtain rfl:x=o:=by simpa using q
       rw[HSS.out];omega
   ·obtain rfl:j=ops.length:=by omega
    have i2:¬(ops.length:Int)<(ops.length:Int):=by omega
    clear hbr
    go_wp2_with fail
    go_ret
    exact⟨⟨true,rfl,fun _=>⟨hle,by have:=HA.out;rw[List.take_length] at this;exact this⟩⟩,HB.out⟩
theorem zJg (W:World):zAo (W.alloc (.cells #[.slice none 0 0,.bool false] 89)) W.heap.size W.heap.size (.slice none 0 0) [] 0:=
 ⟨Blk.made W _ [.slice none 0 0,.bool false] (zAF rfl),World.ownsRow_nil _ _ _ _,⟨fun _ _=>False,fun i q h=>by simp at h,fun i j hi=>absurd hi (by simp),fun i x hi=>absurd hi (by simp)⟩,Nat.le_refl _,Nat.le_refl _⟩
theorem zPY (W:World) (hL:zBU W) (hm:zBx W) (p:Option Addr) (c:Nat) (ops:List Opn) (hp:zLS W p ops) (hok:∀o ∈ ops,o.Ok) (hle:ops.length<=262144) (hss:∀o ∈ ops,o.s.size<=262144):
 Calls Tryz.prog 17 #[.slice p ops.length c,.bool false] W fun e w'=>e= .returned (.int .i64 (-1))/\Below W.heap.size W w':=by
 have HP:Hid (zLS W p ops):=hp
 have HO:Hid (∀o ∈ ops,o.Ok/\o.s.size<=262144):=fun o ho=>⟨hok o ho,hss o ho⟩
 have HL:Hid (zBU W/\zBx W):=⟨hL,hm⟩
 clear hp hok hss hL hm
 go_enter Tryz.func17,Tryz.ntmps17
 go_wp2_with fail
 have HG0:Hid (zAo (W.alloc (.cells #[.slice none 0 0,.bool false] 89)) W.heap.size W.heap.size (.slice none 0 0) [] 0):=zJg W
 have HB0:Hid (Below W.heap.size W (W.alloc (.cells #[.slice none 0 0,.bool false] 89))):=bal _ _
 generalize W.alloc (.cells #[.slice none 0 0,.bool false] 89)=W1 at HG0 HB0 ⊢
 go_loopw [6] (fun iv wr=>∃(j:Nat) (gv:Value) (L:List Gt),j<=ops.length/\iv= .int .i64 j/\zAo wr W.heap.size W.heap.size gv L j/\Below W.heap.size W wr) (fun iv _=>ops.length-(intOf iv).toNat)
 case atStart=>exact⟨0,_,_,Nat.zero_le _,rfl,HG0.out,HB0.out⟩
 case round=>
  obtain⟨j,gv,L,hj,rfl,hg,hbr⟩:=hrel
  have HB:Hid (Below W.heap.size W wr):=hbr
  by_cases hlt:j<ops.length
  ·obtain⟨o,ho⟩:∃o,ops[j]? =some o:=⟨_,List.getElem?_eq_getElem hlt⟩
   obtain⟨hk,hs⟩:=HO.out o (List.mem_of_getElem? ho)
   have HST:Hid (Calls _ _ _ wr _):=zPW hg (HL.out.1.below hbr) (HL.out.2.below hbr) (by omega) o hk hs
   obtain⟨sb,so,hpp,hsb,hcs⟩:=HP.out j o ho
   subst hpp
   have s0:=(hbr.cell (p:=⟨sb,so+(j*5+0),none⟩) hsb).trans (hcs 0 _ rfl)
   have s1:=(hbr.cell (p:=⟨sb,so+(j*5+1),none⟩) hsb).trans (hcs 1 _ rfl)
   have s2:=(hbr.cell (p:=⟨sb,so+(j*5+2),none⟩) hsb).trans (hcs 2 _ rfl)
   have s3:=(hbr.cell (p:=⟨sb,so+(j*5+3),none⟩) hsb).trans (hcs 3 _ rfl)
   have s4:=(hbr.cell (p:=⟨sb,so+(j*5+4),none⟩) hsb).trans (hcs 4 _ rfl)
   rw[Nat.add_zero] at s0
   rw[<-Nat.add_assoc] at s1 s2 s3 s4
   obtain⟨k,a,b,c',s⟩:=o
   dsimp only[Opn.cells] at s0 s1 s2 s3 s4 HST
   have i1:(0:Int)<=(j:Int):=by omega
   have i2:(j:Int)<(ops.length:Int):=by omega
   have i3:IntKind.i64.wrap ((j:Int)+1)=(j:Int)+1:=by rw[IntKind.wrap_i64];omega
   clear hcs hbr hg hk hs ho
   go_wp2_with (go_at_call 37;refine HST.out.mono ?_;rintro e w6 ⟨rfl,hg6⟩;have HG6:Hid (_):=hg6;clear hg6)
   go_roundw
   case measure=>simp[intOf];omega
   case rel=>
    obtain⟨gv',L',q1,q2⟩:=HG6.out
    exact⟨j+1,gv',L',by omega,by simp,q1,HB.out.trans q2⟩
  ·obtain rfl:j=ops.length:=by omega
   have i2:¬(ops.length:Int)<(ops.length:Int):=by omega
   clear hbr hg
   go_wp2_with fail
   go_ret
   exact⟨rfl,HB.out⟩
theorem zLT (W:World) (hL:zBU W) (hm:zBx W) (p:Option Addr) (c:Nat) (ops:List Opn) (hp:zLS W p ops) (hok:∀o ∈ ops,o.Ok) (hn:ops.length<=maxLen):
 Calls Tryz.prog 6 #[.slice p ops.length c] W fun e w'=>e= .returned (.bool true)/\Below W.heap.size W w':=by
 have HS:Hid (Calls _ _ _ W _):=zIc W p c ops hp hok hn
 have HU:Hid (∀U:World,Below W.heap.size W U->ops.length<=262144/\(∀o ∈ ops,o.s.size<=262144)->Calls Tryz.prog 17 #[.slice p ops.length c,.bool false] U fun e w'=>e= .returned (.int .i64 (-1))/\Below W.heap.size W w'):=fun U hU hq=>(zPY U (hL.below hU) (hm.below hU) p c ops (fun i o ho=>by
  obtain⟨sb,so,h1,h2,h3⟩:=hp i o ho
  exact⟨sb,so,h1,Nat.lt_of_lt_of_le h2 hU.size,fun k v hv=>(hU.cell (p:=⟨sb,so+(i*5+k),none⟩) h2).trans (h3 k v hv)⟩) hok hq.1 hq.2).mono fun e w' z=>⟨z.1,hU.trans (z.2.mono hU.size)⟩
 clear hL hm hp hok hn
 go_enter Tryz.func6,Tryz.ntmps6
 go_upto_region 2 with(go_at_call 16;refine HS.out.mono ?_;rintro e w1 ⟨⟨q,rfl,hq⟩,hb1⟩;have HQ:Hid (q=true->ops.length<=262144/\∀o ∈ ops,o.s.size<=262144):=hq;have HB1:Hid (Below W.heap.size W w1):=hb1;clear hq hb1)
 cases q with
 |false=>
  go_wp2_with fail
  go_ret
  exact⟨rfl,HB1.out⟩
 |true=>
  have HUX:Hid (Calls _ _ _ w1 _):=HU.out w1 HB1.out (HQ.out rfl)
  go_wp2_with (go_at_call 17;refine HUX.out.mono ?_;rintro e w2 ⟨rfl,hb2⟩;have HB2:Hid (Below W.heap.size W w2):=hb2;clear hb2)
  go_ret
  exact⟨rfl,HB2.out⟩
end Go.Proofs.YtclpnafiiobfhaaGreatDoor
namespace Go.Proofs.YtclpnafiiobfhaaGreatDoor
open Go.RowKit Go.ChangeShapes Go.WideShapes Go.Deep
section
variable {H : Type} {enc : TypeId × Value → H}
theorem Tryz.cellsOp:Tryz.prog.cellsOf 85=5:=by kernel_rfl
theorem zDU {P:Program} {e:TypeId} {x:Nat}:∀(l:List (DataW H)) (d:DataW H),d ∈ l->x ∈ d.weights P e->x ∈ DataW.weightsAll P e l
 |[],_,h,_=>by cases h
 |y::l,d,h,hx=>by
  rw[DataW.weightsAll]
  rcases List.mem_cons.1 h with rfl|q
  ·exact List.mem_append_left _ hx
  ·exact List.mem_append_right _ (zDU l d q hx)
theorem zRx {α:Type} {l:List α} (h:l.length=5):∃a b c d e,l=[a,b,c,d,e]:=by
 match l,h with
 |[a,b,c,d,e],_=>exact⟨a,b,c,d,e,rfl⟩
theorem zQ1 {W:World} {n:Nat} {cs:List Value} {x:DataW H×List MemPlace} (h:DataW.trod enc Tryz.prog W 0 (fun _=>true) true n 85 cs=some x):∃o:Opn,cs=o.l/\x.2=[]/\(-9223372036854775808<=o.a/\o.a<=9223372036854775807)/\(-9223372036854775808<=o.b/\o.b<=9223372036854775807)/\o.s.size ∈ x.1.weights Tryz.prog 85:=by
 have hu:=Tryz.underlying85
 obtain⟨xs,m,_,hx,hl,hlen,hf⟩:=DataW.trod_struct hu h
 rw[Tryz.cellsOp] at hl
 obtain⟨c0,c1,c2,c3,c4,rfl⟩:=zRx hl
 obtain⟨y0,y1,y2,y3,y4,rfl⟩:=zRx (hlen.trans (by rfl))
 have f0:DataW.trod enc Tryz.prog W 0 (fun _=>true) true m 3 (([c0,c1,c2,c3,c4].drop 0).take (Tryz.prog.cellsOf 3))=some y0:=hf 0 _ rfl
 have f1:DataW.trod enc Tryz.prog W 0 (fun _=>true) true m 3 (([c0,c1,c2,c3,c4].drop 1).take (Tryz.prog.cellsOf 3))=some y1:=hf 1 _ rfl
 have f2:DataW.trod enc Tryz.prog W 0 (fun _=>true) true m 3 (([c0,c1,c2,c3,c4].drop 2).take (Tryz.prog.cellsOf 3))=some y2:=hf 2 _ rfl
 have f3:DataW.trod enc Tryz.prog W 0 (fun _=>true) true m 3 (([c0,c1,c2,c3,c4].drop 3).take (Tryz.prog.cellsOf 3))=some y3:=hf 3 _ rfl
 have f4:DataW.trod enc Tryz.prog W 0 (fun _=>true) true m 9 (([c0,c1,c2,c3,c4].drop 4).take (Tryz.prog.cellsOf 9))=some y4:=hf 4 _ rfl
 have ci:Tryz.prog.cellsOf 3=1:=by kernel_rfl
 have cstr:Tryz.prog.cellsOf 9=1:=by kernel_rfl
 rw[ci] at f0 f1 f2 f3
 rw[cstr] at f4
 obtain⟨n0,e0,z0,_⟩:=DataW.trod_int Tryz.underlying3 f0
 obtain⟨n1,e1,z1,w1⟩:=DataW.trod_int Tryz.underlying3 f1
 obtain⟨n2,e2,z2,w2⟩:=DataW.trod_int Tryz.underlying3 f2
 obtain⟨n3,e3,z3,_⟩:=DataW.trod_int Tryz.underlying3 f3
 obtain⟨s,e4,z4,_⟩:=DataW.trod_string Tryz.underlying9 f4
 simp only[List.drop,List.take,List.cons.injEq,and_true] at e0 e1 e2 e3 e4
 subst e0 e1 e2 e3 e4 z0 z1 z2 z3 z4
 refine⟨⟨n0,n1,n2,n3,s⟩,rfl,by rw[hx];rfl,bounds_i64 w1,bounds_i64 w2,?_⟩
 rw[hx]
 show s.size ∈ DataW.weights _ _ (.agg [_,_,_,_,_])
 rw[DataW.weights,hu]
 simp[DataW.weightsEach,DataW.weights]
theorem zJh {α:Type} [Inhabited α] (n:Nat) (p:Nat->α->Prop) (h:∀i,i<n->∃x,p i x):∃l:List α,l.length=n/\∀i x,l[i]? =some x->p i x:=by
 induction n with
 |zero=>exact⟨[],rfl,fun i x hx=>by simp at hx⟩
 |succ n ih=>
  obtain⟨l,hl,hp⟩:=ih (fun i hi=>h i (by omega))
  obtain⟨x,hx⟩:=h n (by omega)
  refine⟨l++[x],by simp[hl],fun i y hy=> ?_⟩
  by_cases e:i<l.length
  ·rw[List.getElem?_append_left e] at hy
   exact hp i y hy
  ·have hi:i<l.length+1:=by have:=(List.getElem?_eq_some_iff.1 hy).1;simpa using this
   obtain rfl:i=l.length:=by omega
   simp at hy
   subst hy
   rw[hl];exact hx
theorem zPZ {W:World} {b0:Nat} {v:Value} {d:DataW H} {ps:List MemPlace} (hval:Value.okWide Tryz.prog W .any b0 48 v) (h:DataW.Trod enc Tryz.prog W 0 (fun _=>true) true 48 v d ps):∃(p:Option Addr) (ops:List Opn) (c:Nat),v= .slice p ops.length c/\zLS W p ops/\ops.length<=maxLen/\(∀x ∈ ps,x.block<W.heap.size)/\∀o ∈ ops,(-9223372036854775808<=o.a/\o.a<=9223372036854775807)/\(-9223372036854775808<=o.b/\o.b<=9223372036854775807)/\o.s.size ∈ d.weights Tryz.prog 48:=by
 obtain⟨a0,l0,c0,rfl⟩:=okWide_slice Tryz.underlying48 hval
 obtain⟨n,t0⟩:=h
 rcases open_slice Tryz.underlying48 t0 with⟨hc,hx⟩|⟨a,len,cap,m,k,D,Pl,hc,_,hl,hm,hmm,hx,hall⟩
 ·simp[Value.cells] at hc
  obtain⟨rfl,rfl,rfl⟩:=hc
  simp only[Prod.mk.injEq] at hx
  obtain⟨rfl,rfl⟩:=hx
  exact⟨none,[],0,rfl,(fun i o h=>by simp at h),Nat.zero_le _,(fun x h=>by cases h),(fun o h=>by cases h)⟩
 ·simp[Value.cells] at hc
  obtain⟨rfl,rfl,rfl⟩:=hc
  simp only[Prod.mk.injEq] at hx
  obtain⟨rfl,rfl⟩:=hx
  simp only[if_true] at hmm
  subst hmm
  rw[Tryz.cellsOp] at hall
  have each:∀i,i<m->∃o:Opn,(∀k v,o.l[k]? =some v->W.cell? ((a.add (i*5)).add k)=some v)/\Pl i=[]/\(-9223372036854775808<=o.a/\o.a<=9223372036854775807)/\(-9223372036854775808<=o.b/\o.b<=9223372036854775807)/\o.s.size ∈ (D i).weights Tryz.prog 85:=fun i hi=>by
   obtain⟨cs',h1,h2⟩:=hall i hi
   obtain⟨o,rfl,q2,q3,q4,q5⟩:=zQ1 h2
   obtain⟨_,hl5,hcell⟩:=World.cells?_some h1
   exact⟨o,fun k v hv=>(hcell k (by have:=(List.getElem?_eq_some_iff.1 hv).1;rw[hl5] at this;exact this)).trans hv,q2,q3,q4,q5⟩
  obtain⟨sb,so,spot⟩:=a
  have hspot:0<m->spot=none:=fun h=>by
   obtain⟨o,ho,_⟩:=each 0 h
   have:=ho 0 _ rfl
   simpa[Addr.add] using World.cell?_spot this
  have hlt:0<m->sb<W.heap.size:=fun h=>by
   obtain⟨o,ho,_⟩:=each 0 h
   have:=World.block_lt_of_cell? W _ (ho 0 _ rfl)
   simpa[Addr.add] using this
  haveI:Inhabited Opn:=⟨⟨0,0,0,0,ByteArray.empty⟩⟩
  obtain⟨ops,hlen,hops⟩:=zJh l0 _ (fun i hi=>each i (by omega))
  refine⟨some ⟨sb,so,spot⟩,ops,m,by rw[hlen],fun i o ho=> ?_,by omega,fun x hx=> ?_,fun o ho=> ?_⟩
  ·have hi:i<l0:=by have:=(List.getElem?_eq_some_iff.1 ho).1;omega
   refine⟨sb,so,by rw[hspot (by omega)],hlt (by omega),fun k v hv=> ?_⟩
   have:=(hops i o ho).1 k v hv
   rw[hspot (by omega)] at this
   have e:((⟨sb,so,none⟩:Addr).add (i*5)).add k=⟨sb,so+(i*5+k),none⟩:=by
    by_cases q1:i*5=0<;>by_cases q2:k=0<;>simp[Addr.add,q1,q2]<;>omega
   rw[e] at this
   exact this
  ·rcases List.mem_append.1 hx with h1|h2
   ·simp only[MemPlace.row,List.mem_map,List.mem_range] at h1
    obtain⟨j,hj,rfl⟩:=h1
    exact hlt (by rw[Tryz.cellsOp] at hj;omega)
   ·obtain⟨j,hj,hxj⟩:=List.mem_flatMap.1 h2
    obtain⟨o,_,q,_⟩:=each j (List.mem_range.1 hj)
    rw[q] at hxj
    cases hxj
  ·obtain⟨i,hi,rfl⟩:=List.mem_iff_getElem.1 ho
   obtain⟨_,_,q3,q4,q5⟩:=hops i _ (List.getElem?_eq_getElem hi)
   refine⟨q3,q4,?_⟩
   rw[DataW.weights,Tryz.underlying48]
   refine List.mem_cons_of_mem _ (List.mem_append_left _ (zDU _ (D i) (List.mem_map.2 ⟨i,List.mem_range.2 (by omega),rfl⟩) q5))
end
end Go.Proofs.YtclpnafiiobfhaaGreatDoor

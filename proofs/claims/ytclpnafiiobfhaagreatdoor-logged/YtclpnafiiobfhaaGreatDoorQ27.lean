import Derived.DeepKeys4
import Derived.Test.YtclpnafiiobfhaaGreatDoorQ26
import Derived.RangeFuncNested
import Derived.RangeFuncBound
set_option linter.unusedVariables false
set_option linter.unusedSimpArgs false
namespace Go.Proofs.YtclpnafiiobfhaaGreatDoor
open Go.RowKit
open Go.MapKept (Stamped stamped_iff stamped_push stamped_modify stamped_erase stamped_empty)
open Go.ChangeMaps (setBlock heap_setBlock_same heap_setBlock_other modify_eq_set)
theorem Tryz.laidOutOk:laidOutB Tryz.prog=true:=by kernel_rfl
theorem zQV:(240:TypeId)<Tryz.prog.types.size:=of_decide_eq_true (by kernel_rfl)
theorem zCG:Maps.Keyed Tryz.prog 240:=Maps.Keyed.of_law (deep_law_laid Tryz.laidOutOk (m:=3) (by omega) zQV (by kernel_rfl) (by kernel_rfl))
structure Ky.Wf (k:Ky):Prop where
 la:0<=k.la/\k.la<4294967296
 lp:0<=k.lp/\k.lp<65536
 ha:0<=k.ha/\k.ha<4294967296
 hp:0<=k.hp/\k.hp<65536
 p:0<=k.p/\k.p<256
theorem zOj:Tryz.prog.types.size=418:=by kernel_rfl
theorem zHx:Tryz.prog.cellsOf 240=5:=by kernel_rfl
theorem zHy:Tryz.prog.cellsOf 238=2:=by kernel_rfl
theorem zNC:Tryz.prog.cellsOf 35=1:=by kernel_rfl
theorem zND:Tryz.prog.cellsOf 36=1:=by kernel_rfl
theorem zOk:Tryz.prog.cellsOf 5=1:=by kernel_rfl
theorem zOl:Tryz.prog.keyType 240=true:=by kernel_rfl
theorem zOm (n:Nat) (a:Int) (h:0<=a/\a<4294967296):Tryz.prog.keyLits (n+1) 35 [.int .u32 a]=some [.int .u32 a]:=by
 have:(Lit.int .u32 a).wf=true:=WalkArith.wf_u32 (by omega);simp[Program.keyLits,Tryz.underlying35,this]
theorem zOn (n:Nat) (a:Int) (h:0<=a/\a<65536):Tryz.prog.keyLits (n+1) 36 [.int .u16 a]=some [.int .u16 a]:=by
 have:(Lit.int .u16 a).wf=true:=by
  have e1:IntKind.u16.min=0:=by decide
  have e2:IntKind.u16.max=65535:=by decide
  simp[Lit.wf,e1,e2];omega
 simp[Program.keyLits,Tryz.underlying36,this]
theorem zQW (n:Nat) (a:Int) (h:0<=a/\a<256):Tryz.prog.keyLits (n+1) 5 [.int .u8 a]=some [.int .u8 a]:=by
 have:(Lit.int .u8 a).wf=true:=WalkArith.wf_u8 (by omega);simp[Program.keyLits,Tryz.underlying5,this]
theorem zKC (n:Nat) (a s:Int) (h:0<=a/\a<4294967296) (g:0<=s/\s<65536):Tryz.prog.keyLits (n+2) 238 [.int .u32 a,.int .u16 s]=some [.int .u32 a,.int .u16 s]:=by
 rw[Program.keyLits.eq_def];simp[Tryz.underlying238,zHy,zNC,zND,zOm n a h,zOn n s g]
theorem zC8 {k:Ky} (h:k.Wf):∃kl,keyOf Tryz.prog 240 (.agg k.cells)=some kl:=by
 have e:Tryz.prog.keyLits (Tryz.prog.types.size+1) 240 (Value.agg k.cells).cells.toList=some [.int .u32 k.la,.int .u16 k.lp,.int .u32 k.ha,.int .u16 k.hp,.int .u8 k.p]:=by
  rw[zOj,Program.keyLits.eq_def];simp[Tryz.underlying240,zHx,zHy,zOk,Value.cells,zKC _ _ _ h.la h.lp,zKC _ _ _ h.ha h.hp,zQW _ _ h.p]
 refine⟨.string (keyBytes [.int .u32 k.la,.int .u16 k.lp,.int .u32 k.ha,.int .u16 k.hp,.int .u8 k.p]),?_⟩;have hf:(Value.agg k.cells).formed Tryz.prog 240=true:=by simp[Value.formed,Tryz.underlying240,zHx]
 unfold keyOf;rw[Tryz.underlying240];simp only[zOl,hf,Bool.and_self,if_true];rw[e];rfl
theorem Ky.inj {k k':Ky} (h:(Value.agg k.cells)= .agg k'.cells):k=k':=by
 obtain⟨a,b,c,d,e⟩:=k;obtain⟨a',b',c',d',e'⟩:=k';simp[Ky.cells] at h;simp[h]
def Plc (W:World) (b:Nat) (R:Ky->Nat->Prop):Prop:=∃es clock,W.heap[b]? =some (.map es clock)/\Stamped es clock/\(∀e ∈ es.toList,∃(k:Ky) (i:Nat),k.Wf/\e.key= .agg k.cells/\e.val= .int .i64 (i:Int)/\R k i)/\∀k i,R k i->∃e ∈ es.toList,e.key= .agg k.cells/\e.val= .int .i64 (i:Int)
theorem Plc.congr {W:World} {b:Nat} {R S:Ky->Nat->Prop} (h:Plc W b R) (e:∀k i,R k i↔S k i):Plc W b S:=by
 obtain⟨es,clock,hb,hs,h1,h2⟩:=h;exact⟨es,clock,hb,hs,fun x hx=>by obtain⟨k,i,a,b,c,d⟩:=h1 x hx;exact⟨k,i,a,b,c,(e k i).1 d⟩,fun k i q=>h2 k i ((e k i).2 q)⟩
theorem Plc.lt {W:World} {b:Nat} {R:Ky->Nat->Prop} (h:Plc W b R):b<W.heap.size:=by
 obtain⟨es,clock,hb,_⟩:=h;exact(Array.getElem?_eq_some_iff.1 hb).1
theorem Plc.same {W W':World} {b:Nat} {R:Ky->Nat->Prop} (h:Plc W b R) (e:W'.heap[b]? =W.heap[b]?):Plc W' b R:=by
 obtain⟨es,clock,hb,r⟩:=h;exact⟨es,clock,e.trans hb,r⟩
theorem Plc.made (W:World):Plc (W.alloc (.map #[] 0)) W.heap.size (fun _ _=>False):=
 ⟨#[],0,(MapKept.heap_alloc W _).1,stamped_empty 0,by simp,fun _ _ q=>q.elim⟩
theorem zC9 {es:Array MapEntry} {clock:Nat} (h:Stamped es clock) {x y:MapEntry} (hx:x ∈ es.toList) (hy:y ∈ es.toList) (e:x.key=y.key):x=y:=by
 have hn:=((stamped_iff es clock).1 h).2.2;obtain⟨i,hi,rfl⟩:=List.mem_iff_getElem.1 hx;obtain⟨j,hj,rfl⟩:=List.mem_iff_getElem.1 hy;rcases Nat.lt_trichotomy i j with q|q|q
 ·exact absurd e (List.pairwise_iff_getElem.1 hn i j hi hj q)
 ·subst q;rfl
 ·exact absurd e.symm (List.pairwise_iff_getElem.1 hn j i hj hi q)
theorem zOo (w:World):(zeroValue 3).run Tryz.prog w= .ok (.int .i64 0) w:=by kernel_rfl
theorem zCe:Tryz.prog.underlying 260=some (.map 240 3):=Tryz.underlying260
theorem Plc.keys {es:Array MapEntry} {R:Ky->Nat->Prop} (h1:∀e ∈ es.toList,∃(k:Ky) (i:Nat),k.Wf/\e.key= .agg k.cells/\e.val= .int .i64 (i:Int)/\R k i):∀e ∈ es.toList,∃l,keyOf Tryz.prog 240 e.key=some l:=fun e he=>by
 obtain⟨k,i,a,b,_⟩:=h1 e he;obtain⟨l,hl⟩:=zC8 a;exact⟨l,by rw[b];exact hl⟩
theorem Plc.look_some {W:World} {b:Nat} {R:Ky->Nat->Prop} (h:Plc W b R) {k:Ky} (hk:k.Wf) {i:Nat} (hR:R k i):
 (Instr.lookup 260 (.map (some b)) (.agg k.cells) true).run Tryz.prog W= .ok (.tuple #[.int .i64 (i:Int),.bool true]) W:=by
 obtain⟨es,clock,hb,hs,h1,h2⟩:=h;obtain⟨kl,hkl⟩:=zC8 hk;obtain⟨x,hx,hxk,hxv⟩:=h2 k i hR;rcases zCG.find W hkl es.toList (Plc.keys h1) with⟨_,q2⟩|⟨j,e0,q1,q2,q3⟩
 ·exact absurd hxk (q2 x hx)
 ·have:e0=x:=zC9 hs (List.mem_of_getElem? q2) hx (by rw[q3,hxk])
  subst this;simp[Instr.lookup,run_underlying zCe,MapKept.run_getObj_map hb,zCG.check W _ hkl,q1,Result.andThen,hxv]
theorem Plc.look_none {W:World} {b:Nat} {R:Ky->Nat->Prop} (h:Plc W b R) {k:Ky} (hk:k.Wf) (hR:∀i,¬R k i):
 (Instr.lookup 260 (.map (some b)) (.agg k.cells) true).run Tryz.prog W= .ok (.tuple #[.int .i64 0,.bool false]) W:=by
 obtain⟨es,clock,hb,hs,h1,h2⟩:=h;obtain⟨kl,hkl⟩:=zC8 hk;rcases zCG.find W hkl es.toList (Plc.keys h1) with⟨q1,q2⟩|⟨j,e0,q1,q2,q3⟩
 ·simp[Instr.lookup,run_underlying zCe,MapKept.run_getObj_map hb,zCG.check W _ hkl,q1,zOo W,Result.andThen]
 ·obtain⟨k',i,_,ek,_,r⟩:=h1 e0 (List.mem_of_getElem? q2)
  rw[q3] at ek;obtain rfl:=Ky.inj ek;exact absurd r (hR i)
theorem Plc.store {W:World} {b:Nat} {R:Ky->Nat->Prop} (h:Plc W b R) {k:Ky} (hk:k.Wf) (i:Nat):
 ∃W',(Instr.mapUpdate 260 (.map (some b)) (.agg k.cells) (.int .i64 (i:Int))).run Tryz.prog W= .ok () W'/\Plc W' b (fun x j=>(x=k/\j=i)\/(x≠k/\R x j))/\W.grownBy W' (some b):=by
 obtain⟨es,clock,hb,hs,h1,h2⟩:=h;obtain⟨kl,hkl⟩:=zC8 hk;rcases zCG.find W hkl es.toList (Plc.keys h1) with⟨q1,q2⟩|⟨j,e0,q1,q2,q3⟩
 ·refine⟨setBlock W b (.map (es.push ⟨.agg k.cells,.int .i64 (i:Int),clock⟩) (clock+1)),?_,⟨_,_,heap_setBlock_same hb _,stamped_push hs q2,?_,?_⟩,⟨rfl,rfl,rfl,by simp[setBlock],fun x _ hx=>heap_setBlock_other hb _ (fun e=>hx (by rw[e]))⟩⟩
  ·simp[Instr.mapUpdate,run_underlying zCe,MapKept.run_getObj_map hb,zCG.check W false hkl,q1,MapKept.run_setObj_map _ hb,Result.andThen,setBlock]
  ·intro e he
   simp only[Array.toList_push,List.mem_append,List.mem_singleton] at he;rcases he with he|rfl
   ·obtain⟨k',i',a,b',c,d⟩:=h1 e he
    exact⟨k',i',a,b',c,.inr ⟨fun q=>q2 e he (by rw[b',q]),d⟩⟩
   ·exact⟨k,i,hk,rfl,rfl,.inl ⟨rfl,rfl⟩⟩
  ·rintro x j (⟨rfl,rfl⟩|⟨hne,hr⟩)
   ·exact⟨⟨.agg x.cells,.int .i64 (j:Int),clock⟩,by simp,rfl,rfl⟩
   ·obtain⟨e,he,r⟩:=h2 x j hr
    exact⟨e,by simp only[Array.toList_push,List.mem_append];exact .inl he,r⟩
 ·have hj:es[j]? =some e0:=by simpa using q2
  have hjl:j<es.toList.length:=(List.getElem?_eq_some_iff.1 q2).1;have hlist:(es.modify j (fun e'=>{e' with key:= .agg k.cells,val:= .int .i64 (i:Int)})).toList=es.toList.set j {e0 with key:= .agg k.cells,val:= .int .i64 (i:Int)}:=by rw[Array.toList_modify,modify_eq_set _ _ _ _ q2]
  refine⟨setBlock W b (.map (es.modify j (fun e'=>{e' with key:= .agg k.cells,val:= .int .i64 (i:Int)})) clock),?_,⟨_,_,heap_setBlock_same hb _,stamped_modify hs _ _ (fun _ _=>rfl) (fun e' _ he'=>by rw[hj] at he';cases he';exact q3.symm),?_,?_⟩,⟨rfl,rfl,rfl,by simp[setBlock],fun x _ hx=>heap_setBlock_other hb _ (fun e=>hx (by rw[e]))⟩⟩
  ·simp[Instr.mapUpdate,run_underlying zCe,MapKept.run_getObj_map hb,zCG.check W false hkl,q1,hj,q3,zCG.stays W hkl,MapKept.run_setObj_map _ hb,Result.andThen,setBlock]
  ·intro e he
   rw[hlist] at he;obtain⟨y,hy,rfl⟩:=List.mem_iff_getElem.1 he;rw[List.getElem_set]
   split
   ·exact⟨k,i,hk,rfl,rfl,.inl ⟨rfl,rfl⟩⟩
   ·rename_i hne
    have hy':y<es.toList.length:=by simpa using hy
    obtain⟨k',i',a,b',c,d⟩:=h1 _ (List.getElem_mem hy');refine⟨k',i',a,b',c,.inr ⟨fun q=>hne ?_,d⟩⟩;subst q;have hn:=((stamped_iff es clock).1 hs).2.2;obtain⟨hj0,e0e⟩:=List.getElem?_eq_some_iff.1 q2;rcases Nat.lt_trichotomy j y with w|w|w
    ·exact absurd (by rw[e0e,q3,b']) (List.pairwise_iff_getElem.1 hn j y hj0 hy' w)
    ·exact w
    ·exact absurd (by rw[e0e,q3,b']) (List.pairwise_iff_getElem.1 hn y j hy' hj0 w)
  ·rintro x y (⟨rfl,rfl⟩|⟨hne,hr⟩)
   ·refine⟨{e0 with key:= .agg x.cells,val:= .int .i64 (y:Int)},?_,rfl,rfl⟩
    rw[hlist];exact List.mem_iff_getElem.2 ⟨j,by simpa using hjl,by simp⟩
   ·obtain⟨e,he,ek,ev⟩:=h2 x y hr
    obtain⟨z,hz,rfl⟩:=List.mem_iff_getElem.1 he;refine⟨es.toList[z],?_,ek,ev⟩;rw[hlist];refine List.mem_iff_getElem.2 ⟨z,by simpa using hz,?_⟩;rw[List.getElem_set]
    split
    ·rename_i q
     subst q;obtain⟨_,e0e⟩:=List.getElem?_eq_some_iff.1 q2;rw[e0e,q3] at ek;exact absurd (Ky.inj ek).symm hne
    ·rfl
theorem Plc.drop {W:World} {b:Nat} {R:Ky->Nat->Prop} (h:Plc W b R) {k:Ky} (hk:k.Wf) (ty:TypeId):
 ∃W',(Builtin.delete_ #[260,240] ty #[.map (some b),.agg k.cells]).run Tryz.prog W= .ok (.tuple #[]) W'/\Plc W' b (fun x j=>x≠k/\R x j)/\W.grownBy W' (some b):=by
 obtain⟨es,clock,hb,hs,h1,h2⟩:=h;obtain⟨kl,hkl⟩:=zC8 hk;rcases zCG.find W hkl es.toList (Plc.keys h1) with⟨q1,q2⟩|⟨j,e0,q1,q2,q3⟩
 ·refine⟨setBlock W b (.map es clock),?_,⟨_,_,heap_setBlock_same hb _,hs,?_,fun x y q=>h2 x y q.2⟩,⟨rfl,rfl,rfl,by simp[setBlock],fun x _ hx=>heap_setBlock_other hb _ (fun e=>hx (by rw[e]))⟩⟩
  ·simp[Builtin.delete_,run_underlying zCe,MapKept.run_getObj_map hb,zCG.check W _ hkl,q1,MapKept.run_setObj_map _ hb,Result.andThen,setBlock]
  ·intro e he
   obtain⟨k',i',a,b',c,d⟩:=h1 e he;exact⟨k',i',a,b',c,fun q=>q2 e he (by rw[b',q]),d⟩
 ·have hjl:j<es.toList.length:=(List.getElem?_eq_some_iff.1 q2).1
  have hjs:j<es.size:=by simpa using hjl
  have hsub:(es.eraseIdxIfInBounds j).toList=es.toList.eraseIdx j:=by
   unfold Array.eraseIdxIfInBounds;rw[dif_pos hjs];simp
  have hmem:∀x,x ∈ es.toList.eraseIdx j↔(x ∈ es.toList/\x≠e0):=by
   intro x;obtain⟨_,e0e⟩:=List.getElem?_eq_some_iff.1 q2;rw[List.mem_eraseIdx_iff_getElem]
   constructor
   ·rintro⟨y,hy,hne,rfl⟩
    refine⟨List.getElem_mem hy,fun q=>hne ?_⟩;have hn:=((stamped_iff es clock).1 hs).2.2;rcases Nat.lt_trichotomy j y with w|w|w
    ·exact absurd (by rw[e0e,q]) (List.pairwise_iff_getElem.1 hn j y hjl hy w)
    ·exact w.symm
    ·exact absurd (by rw[e0e,q]) (List.pairwise_iff_getElem.1 hn y j hy hjl w)
   ·rintro⟨hx,hne⟩
    obtain⟨y,hy,rfl⟩:=List.mem_iff_getElem.1 hx;exact⟨y,hy,fun q=>hne (by subst q;exact e0e),rfl⟩
  refine⟨setBlock W b (.map (es.eraseIdxIfInBounds j) clock),?_,⟨_,_,heap_setBlock_same hb _,stamped_erase hs j,?_,?_⟩,⟨rfl,rfl,rfl,by simp[setBlock],fun x _ hx=>heap_setBlock_other hb _ (fun e=>hx (by rw[e]))⟩⟩
  ·simp[Builtin.delete_,run_underlying zCe,MapKept.run_getObj_map hb,zCG.check W _ hkl,q1,MapKept.run_setObj_map _ hb,Result.andThen,setBlock]
  ·intro e he
   rw[hsub,hmem] at he;obtain⟨k',i',a,b',c,d⟩:=h1 e he.1;exact⟨k',i',a,b',c,fun q=>he.2 (zC9 hs he.1 (List.mem_of_getElem? q2) (by rw[b',q3,q])),d⟩
  ·rintro x y ⟨hne,hr⟩
   obtain⟨e,he,ek,ev⟩:=h2 x y hr;exact⟨e,by rw[hsub,hmem];exact⟨he,fun q=>hne (Ky.inj (by rw[<-ek,q,q3]))⟩,ek,ev⟩
end Go.Proofs.YtclpnafiiobfhaaGreatDoor
namespace Go.Proofs.YtclpnafiiobfhaaGreatDoor
open Go.RowKit
structure Trn (S:Nat->Prop) (w w':World):Prop where
 os:w'.os=w.os
 tape:w'.tape=w.tape
 output:w'.output=w.output
 size:w.heap.size<=w'.heap.size
 block:∀m,m<w.heap.size->¬S m->w'.heap[m]? =w.heap[m]?
section
variable {S S' : Nat → Prop} {w w' w'' : World}
theorem Trn.refl (S:Nat->Prop) (w:World):Trn S w w:=⟨rfl,rfl,rfl,Nat.le_refl _,fun _ _ _=>rfl⟩
theorem Trn.trans (h:Trn S w w') (g:Trn S' w' w'') (hs:∀m,m<w.heap.size->S' m->S m):Trn S w w'':=
 ⟨g.os.trans h.os,g.tape.trans h.tape,g.output.trans h.output,Nat.le_trans h.size g.size,fun m hm hn=>(g.block m (Nat.lt_of_lt_of_le hm h.size) (fun q=>hn (hs m hm q))).trans (h.block m hm hn)⟩
theorem Trn.mono (h:Trn S w w') (hs:∀m,m<w.heap.size->S m->S' m):Trn S' w w':=⟨h.os,h.tape,h.output,h.size,fun m hm hn=>h.block m hm (fun q=>hn (hs m hm q))⟩
theorem Trn.below (h:Below w.heap.size w w'):Trn S w w':=⟨h.os,h.tape,h.output,h.size,fun m hm _=>h.block m hm⟩
theorem Trn.grown {b:Nat} (h:w.grownBy w' (some b)) (hb:S b):Trn S w w':=⟨h.os,h.tape,h.output,h.size,fun m hm hn=>h.block m hm (fun q=>hn (by cases q;exact hb))⟩
theorem Trn.grown' {r:Option Nat} (h:w.grownBy w' r) (hb:∀b,r=some b->S b):Trn S w w':=⟨h.os,h.tape,h.output,h.size,fun m hm hn=>h.block m hm (fun q=>hn (hb m q.symm))⟩
theorem Trn.to_below (h:Trn S w w') {B:Nat} (hB:B<=w.heap.size) (hs:∀m,m<B->¬S m):Below B w w':=⟨h.os,h.tape,h.output,h.size,fun m hm=>h.block m (Nat.lt_of_lt_of_le hm hB) (hs m hm)⟩
theorem Trn.drew (S:Nat->Prop) (w:World):Trn S w w.drew:=Trn.below (Below.drew (Below.refl _ _))
theorem Trn.alloc (S:Nat->Prop) (w:World) (o:Obj):Trn S w (w.alloc o):=Trn.below ((Below.refl _ _).alloc (Nat.le_refl _) o)
end
theorem Trn.setCell {S:Nat->Prop} (w:World) (g i:Nat) (v:Value) (hg:S g):Trn S w (w.setCell ⟨g,i,none⟩ v):=by
 refine⟨rfl,rfl,rfl,by simp[World.setCell],fun m _ hn=> ?_⟩;simp only[World.setCell,Array.getElem?_modify];rw[if_neg (fun q=>hn (by rw[<-q];exact hg))]
theorem Trn.setCells {S:Nat->Prop} (g:Nat) (hg:S g):∀(vs:List Value) (o:Nat) (w:World),Trn S w (w.setCells g o vs)
 |[],_,w=>Trn.refl S w
 |v::r,o,w=>by rw[World.setCells];exact(Trn.setCell w g o v hg).trans (Trn.setCells g hg r _ _) (fun _ _ q=>q)
theorem zEe (g:Nat) (t:TypeId) (fr:Nat×Nat):∀(vs:List Value) (o:Nat) (w:World) (cur:Array Value),w.heap[g]? =some (.cells cur t fr)->∃cur':Array Value,(w.setCells g o vs).heap[g]? =some (.cells cur' t fr)/\cur'.size=cur.size/\(∀x,x<o\/o+vs.length<=x->cur'[x]? =cur[x]?)/\∀j,j<vs.length->o+j<cur.size->cur'[o+j]? =vs[j]?
 |[],o,w,cur,h=>⟨cur,h,rfl,fun _ _=>rfl,fun j hj=>absurd hj (by simp)⟩
 |v::r,o,w,cur,h=>by
  have h1:(w.setCell ⟨g,o,none⟩ v).heap[g]? =some (.cells (cur.setIfInBounds o v) t fr):=by
   simp[World.setCell,Array.getElem?_modify,h]
  obtain⟨cur',e1,e2,e3,e4⟩:=zEe g t fr r (o+1) _ _ h1;refine⟨cur',by rw[World.setCells];exact e1,by rw[e2];simp,fun x hx=> ?_,fun j hj hs=> ?_⟩
  ·rw[e3 x (by simp only[List.length_cons] at hx;omega),Array.getElem?_setIfInBounds_ne (by simp only[List.length_cons] at hx;omega)]
  ·rcases j with _|j
   ·rw[Nat.add_zero] at hs ⊢
    rw[e3 o (by omega),Array.getElem?_setIfInBounds_self_of_lt hs];rfl
   ·have:=e4 j (by simpa using hj) (by simp only[Array.size_setIfInBounds];omega)
    rw[show o+(j+1)=o+1+j by omega,this];rfl
theorem En.len (e:En):e.l.length=14:=rfl
theorem zAR.same {W W':World} {g n cap:Nat} {f:Nat->En} (h:zAR W g n cap f) (e:W'.heap[g]? =W.heap[g]?):zAR W' g n cap f:=by
 obtain⟨cur,hh,r⟩:=h;exact⟨cur,e.trans hh,r⟩
theorem zAR.congr {W:World} {g n cap:Nat} {f f':Nat->En} (h:zAR W g n cap f) (e:∀i,i<n->f i=f' i):zAR W g n cap f':=by
 obtain⟨cur,hh,a,b,c,d⟩:=h;exact⟨cur,hh,a,b,c,fun i hi k v hv=>d i hi k v (by rw[e i hi];exact hv)⟩
theorem zAR.part {W:World} {g n cap:Nat} {f:Nat->En} (h:zAR W g n cap f) {i:Nat} (hi:i<n) (o:Nat) (vs:List Value) (e:En) (he:e.l=(f i).l.take o++vs++(f i).l.drop (o+vs.length)) (ho:o+vs.length<=14):zAR (W.setCells g (i*14+o) vs) g n cap (Hp.put f i e):=by
 obtain⟨cur,hh,a,b,c,d⟩:=h;obtain⟨cur',e1,e2,e3,e4⟩:=zEe g _ _ vs (i*14+o) W cur hh;refine⟨cur',e1,by rw[e2,a],b,c,fun x hx k v hv=> ?_⟩;have hk:k<14:=by have:=(List.getElem?_eq_some_iff.1 hv).1;rw[En.len] at this;exact this
 by_cases q:x=i
 ·subst q
  rw[Hp.put_same,he] at hv
  by_cases k1:k<o
  ·rw[e3 _ (by omega)]
   refine d x hx k v ?_;rw[List.append_assoc,List.getElem?_append_left (by rw[List.length_take,En.len];omega),List.getElem?_take_of_lt k1] at hv;exact hv
  ·by_cases k2:k<o+vs.length
   ·have hs:x*14+o+(k-o)<cur.size:=by rw[a];omega
    have:=e4 (k-o) (by omega) hs;rw[show x*14+k=x*14+o+(k-o) by omega,this];rw[List.getElem?_append_left (by rw[List.length_append,List.length_take,En.len];omega),List.getElem?_append_right (by rw[List.length_take,En.len];omega),List.length_take,En.len,Nat.min_eq_left (by omega)] at hv;exact hv
   ·rw[e3 _ (by omega)]
    refine d x hx k v ?_;rw[List.getElem?_append_right (by rw[List.length_append,List.length_take,En.len];omega),List.getElem?_drop,List.length_append,List.length_take,En.len,Nat.min_eq_left (by omega),show o+vs.length+(k-(o+vs.length))=k by omega] at hv;exact hv
 ·rw[Hp.put_other _ _ _ _ q] at hv
  rw[e3 _ (by omega)];exact d x hx k v hv
theorem zAR.put {W:World} {g n cap:Nat} {f:Nat->En} (h:zAR W g n cap f) {i:Nat} (hi:i<n) (e:En):zAR (W.setCells g (i*14) e.l) g n cap (Hp.put f i e):=
 h.part hi 0 e.l e (by simp) (by rw[En.len];omega)
theorem zAR.swap {W:World} {g n cap:Nat} {f:Nat->En} (h:zAR W g n cap f) {a b:Nat} (ha:a<n) (hb:b<n):zAR ((W.setCells g (a*14) (f b).l).setCells g (b*14) (f a).l) g n cap (Hp.swp f a b):=
 ((h.put ha (f b)).put hb (f a)).congr (fun i _=>by
   unfold Hp.put Hp.swp
   by_cases q:i=b
   ·subst q;simp;intro e;rw[e]
   ·simp[q])
def zEn (W:World) (v:Value) (n:Nat) (f:Nat->En):Prop:=(v= .slice none 0 0/\n=0)\/∃g cap,v= .slice (some ⟨g,0,none⟩) n cap/\zAR W g n cap f
structure zAK (W:World) (T mb:Nat) (v:Value) (room births n:Nat) (f:Nat->En):Prop where
 blk:Blk 263 W T [.int .i64 (room:Int),.int .u64 (births:Int),.map (some mb),v]
 row:zEn W v n f
 map:Plc W mb (fun k i=>i<n/\(f i).k=k)
 wf:∀i,i<n->(f i).k.Wf
 ns:∀i,i<n->(f i).n<18446744073709551616
 tm:T≠mb
 tr:∀g,v.ownBlock=some g->g≠T/\g≠mb
 le:n<=room
 big:room<=64
theorem zEn.below {W W':World} {v:Value} {n:Nat} {f:Nat->En} (h:zEn W v n f) (hb:Below W.heap.size W W'):zEn W' v n f:=by
 rcases h with q|⟨g,cap,e,r⟩
 ·exact .inl q
 ·exact .inr ⟨g,cap,e,r.below hb r.lt⟩
theorem zAK.below {W W':World} {T mb room births n:Nat} {v:Value} {f:Nat->En} (h:zAK W T mb v room births n f) (hb:Below W.heap.size W W'):zAK W' T mb v room births n f:=
 {blk:=h.blk.below hb h.blk.lt,row:=h.row.below hb,map:=h.map.same (hb.block mb h.map.lt),wf:=h.wf,ns:=h.ns,tm:=h.tm,tr:=h.tr,le:=h.le,big:=h.big}
theorem zAK.ents {W:World} {T mb room births n g cap:Nat} {f:Nat->En} (h:zAK W T mb (.slice (some ⟨g,0,none⟩) n cap) room births n f):zAR W g n cap f:=by
 rcases h.row with⟨q,_⟩|⟨g',cap',q,r⟩
 ·cases q
 ·cases q;exact r
theorem zAK.congr {W:World} {T mb room births n:Nat} {v:Value} {f f':Nat->En} (h:zAK W T mb v room births n f) (e:f=f'):zAK W T mb v room births n f':=e▸h
def Ows (T mb:Nat) (v:Value) (x:Nat):Prop:=x=T\/x=mb\/v.ownBlock=some x
theorem zAd {W:World} {b i:Nat} {c:Array Value} {t:TypeId} (h:W.heap[b]? =some (.cells c t)) (v:Value) (hv:c[i]? =some v):W.cell? ⟨b,i,none⟩=some v:=by
 simp only[World.cell?,h];exact hv
theorem Trn.keep {S:Nat->Prop} {A B:World} {m:Nat} {o:Obj} (ht:Trn S A B) (hn:¬S m) (ho:A.heap[m]? =some o):B.heap[m]? =some o:=
 (ht.block _ (Array.getElem?_eq_some_iff.1 ho).1 hn).trans ho
def zAV (l:List Fl):List Value:=l.flatMap fun x=>x.cells.toList
theorem zFa (l:List Fl) (x:Fl):zAV (l++[x])=zAV l++x.cells.toList:=by simp[zAV]
theorem Tryz.infoFl:(Tryz.prog.info? 197).map (fun i=>(i.zero,i.size,i.bytes))=some (some (.agg #[.int .u32 0,.int .u32 0,.int .u8 0,.int .u16 0,.int .u16 0,.bool false,.bool false,.int .u64 0]),8,24):=by kernel_rfl
theorem zFb (W:World) (L:List Value) (t:TypeId):∀j u,L[j]? =some u->(W.alloc (.cells L.toArray t)).cell? ((⟨W.heap.size,0,none⟩:Addr).add j)=some u:=by
 intro j u h;have e:(⟨W.heap.size,0,none⟩:Addr).add j=⟨W.heap.size,j,none⟩:=by
  by_cases q:j=0<;>simp[Addr.add,q]
 rw[e];exact zAd (c:=L.toArray) (heap_alloc_new W _) _ (by rw[List.getElem?_toArray];exact h)
structure Kpt (a b:Nat) (W W':World):Prop where
 size:W.heap.size<=W'.heap.size
 block:∀m,a<=m->m<b->W'.heap[m]? =W.heap[m]?
theorem Kpt.refl (a b:Nat) (W:World):Kpt a b W W:=⟨Nat.le_refl _,fun _ _ _=>rfl⟩
theorem Kpt.trans {a b:Nat} {A B C:World} (h:Kpt a b A B) (k:Kpt a b B C):Kpt a b A C:=⟨Nat.le_trans h.size k.size,fun m h1 h2=>(k.block m h1 h2).trans (h.block m h1 h2)⟩
theorem Kpt.mono {a b a' b':Nat} {A B:World} (h:Kpt a b A B) (ha:a<=a') (hb:b'<=b):Kpt a' b' A B:=⟨h.size,fun m h1 h2=>h.block m (Nat.le_trans ha h1) (Nat.lt_of_lt_of_le h2 hb)⟩
theorem Kpt.put {a b l:Nat} (W:World) (o:Obj) (h:l<a):Kpt a b W (W.putObj l o):=⟨by simp,fun m h1 _=>World.putObj_heap_other (by omega)⟩
theorem Kpt.alloc {a b:Nat} {A B:World} (h:Kpt a b A B) (hb:b<=B.heap.size) (o:Obj):Kpt a b A (B.alloc o):=⟨by simp;exact Nat.le_succ_of_le h.size,fun m h1 h2=>(Below.heap_alloc _ _ _ (by omega)).trans (h.block m h1 h2)⟩
theorem Kpt.trn {a b:Nat} {S:Nat->Prop} {A B:World} (h:Trn S A B) (hb:b<=A.heap.size) (hs:∀m,a<=m->m<b->¬S m):Kpt a b A B:=⟨h.size,fun m h1 h2=>h.block m (by omega) (hs m h1 h2)⟩
theorem Trn.put {S:Nat->Prop} (W:World) (l:Nat) (o:Obj) (h:S l):Trn S W (W.putObj l o):=⟨rfl,rfl,rfl,by simp,fun m _ hn=>World.putObj_heap_other (fun e=>hn (e▸h))⟩
abbrev Btw (a b m:Nat):Prop:=a<=m/\m<b
theorem zHz {P:Program} {l fn:Nat} {tmps:Array Value} {assign body:Go.Code} {W:World} {R:Ending->World->Prop} {n m:Nat} (h:RoundIn Fence.wide n P l fn tmps assign body W R):RoundIn Fence.wide m P l fn tmps assign body W R:=⟨h.1,fun c cs _=>h.2 c cs (room_wide _)⟩
def zQ4 {α:Type} (P:Program) (g:Nat) (lb:Array Value) (encs:α->Array Value) (xs:List α) (W:World):Prop:=
 ∀(l:Nat) (J Jx:Nat->List α->World->Prop),
  (∀b W2,W.heap.size<=b->b<=W2.heap.size->Below W.heap.size W W2->J b [] W2)->
  (∀b pre A B,J b pre A->Trn (Btw W.heap.size b) A B->J b pre B)->
  (∀b pre A B,Jx b pre A->Trn (Btw W.heap.size b) A B->Jx b pre B)->
  (∀b pre x A,W.heap.size<=b->b<=A.heap.size->J b pre A->pre++[x]<+:xs->YieldAt Fence.wide 0 P l (encs x) A fun e A'=>
    (e= .returned (.bool true)/\J b (pre++[x]) A'/\Kpt W.heap.size b A A')\/(e= .returned (.bool false)/\Jx b (pre++[x]) A'/\Kpt W.heap.size b A A'))->
  Calls P g (#[.func (.yield l) #[] #[]]++lb) W fun e W'=>(∃v,e= .returned v)/\∃b,W.heap.size<=b/\b<=W'.heap.size/\(J b xs W'\/∃pre,pre<+:xs/\Jx b pre W')
def zRr (a b:Nat) (I:World->Prop) (Ix:Go.Code->World->Prop) (W:World):Exit->Act->World->Prop
 | .normal,_,W'=>Kpt a b W W'/\I W'
 | .ret,_,W'=>Kpt a b W W'/\Ix .ret W'
 | .exit id,_,W'=>Kpt a b W W'/\Ix (.exit id) W'
 | .goto t,_,W'=>Kpt a b W W'/\Ix (.goto t) W'
 | .panic _,_,_=>False
 | .outgrown,_,_=>False
theorem zEu {α:Type} {P:Program} {n:Nat} {g:Operand} {ps:Array Tmp} {assign body:Go.Code} {Q:Exit->Act->World->Prop} {a:Act} {w:World} {gf:Nat} {lb:Array Value} {encs:α->Array Value} {xs:List α}
 (hg:a.eval g= .func (.func gf) #[] lb) (eg:∀args w,(callFunc gf args).run P w= .ok (.enter gf args) w)
 (hseq:∀W1,Below w.heap.size w W1->zQ4 P gf lb encs xs W1) (hps:∀x,(encs x).size=ps.size)
 (I:Nat->List α->World->Prop) (Ix:Nat->Go.Code->List α->World->Prop)
 (hs:∀b W2,w.heap.size<=b->b<=W2.heap.size->Below w.heap.size w W2->I b [] W2)
 (hI:∀b pre A B,I b pre A->Trn (Btw w.heap.size b) A B->I b pre B)
 (hIx:∀b c pre A B,Ix b c pre A->Trn (Btw w.heap.size b) A B->Ix b c pre B)
 (Ax:Nat->α->Act->World->Prop) (hAx:∀b x a' A B,Ax b x a' A->Trn (Btw w.heap.size b) A B->Ax b x a' B)
 (hassign:∀(l b:Nat) (pre:List α) (x:α) (W:World) (K:Act->World->Prop),w.heap.size<=b->b<=W.heap.size->I b pre W->(∀a' W',Below W.heap.size W W'->Ax b x a' W'->K a' W')->
   assign.wpIn (Fence.wide.inRound l) 0 P (Exit.then K (fun _ _ _=>False)) {tmps:=(ps.zip (encs x)).foldl (fun t (p,v)=>t.setIfInBounds p v) a.tmps,defers:=[]} W)
 (hbody:∀(l b:Nat) (pre:List α) (x:α) (a':Act) (W:World),w.heap.size<=b->b<=W.heap.size->I b pre W->Ax b x a' W->pre++[x]<+:xs->
   body.wpIn (Fence.wide.inRound l) 0 P (zRr w.heap.size b (I b (pre++[x])) (fun c=>Ix b c (pre++[x])) W) a' W)
 (hdone:∀(D b:Nat) (W:World),w.heap.size<=D->D<b->b<=W.heap.size->I b xs W->W.heap[D]? =some (.deferred (some []))->Q .normal {a with defers:={target:= .collected D,args:= #[]}::a.defers} W)
 (hstop:∀(D b:Nat) (c:Go.Code) (pre:List α) (W:World),w.heap.size<=D->D<b->b<=W.heap.size->pre<+:xs->Ix b c pre W->W.heap[D]? =some (.deferred (some []))->c.wpIn Fence.wide n P Q {a with defers:={target:= .collected D,args:= #[]}::a.defers} W):
 (Go.Code.rangeFunc g ps assign body).wpIn Fence.wide n P Q a w:=by
 refine wpIn_rangeFunc fun fn hfn=> ?_
 obtain⟨R,hR⟩:∃R:LoopState->Option Go.Code->Loop,R=fun st pe=>{state:=st,pending:=pe,fn,tmps:=a.tmps,params:=ps,assign,body,defers:=w.heap.size}:=⟨_,rfl⟩
 obtain⟨W1,hW1⟩:∃W1,(w.alloc (.deferred (some []))).alloc (.loop (R .ready none))=W1:=⟨_,rfl⟩;have hz:W1.heap.size=w.heap.size+2:=by rw[<-hW1];simp
 have r1:W1.heap[w.heap.size+1]? =some (.loop (R .ready none)):=by
  rw[<-hW1];have:=World.alloc_heap_new (w.alloc (.deferred (some []))) (.loop (R .ready none));rwa [World.size_alloc] at this
 have d1:W1.heap[w.heap.size]? =some (.deferred (some [])):=by
  rw[<-hW1,Below.heap_alloc _ _ _ (by simp)];exact World.alloc_heap_new w _
 have b1:Below w.heap.size w W1:=by
  rw[<-hW1];exact((Below.refl _ w).alloc (Nat.le_refl _) _).alloc (by simp) _
 refine⟨w.heap.size+1,[{target:= .collected w.heap.size,args:= #[]}],W1,{target:= .fn (.func gf) lb,args:= #[.func (.yield (w.heap.size+1)) #[] #[]]},W1,gf,#[.func (.yield (w.heap.size+1)) #[] #[]]++lb,W1,?_,?_,fun _ _=>trivial,?_,(fun h=>by simp[Fence.wide] at h),callsIn_wide.2 ?_⟩
 ·rw[<-hW1,hR];exact run_enterLoop_outer _ _ _ _ _
 ·simp only[resolve,hg]
  simp[go_sem]
 ·simp[invoke,go_sem,eg]
 have keepB:∀{b m:Nat} {A B:World} {o:Obj},Trn (Btw W1.heap.size b) A B->m<W1.heap.size->A.heap[m]? =some o->B.heap[m]? =some o:=fun ht hm ho=>
  (ht.block _ (Array.getElem?_eq_some_iff.1 ho).1 (fun q=>by have:=q.1;omega)).trans ho
 have wid:∀{b:Nat} {A B:World},Trn (Btw W1.heap.size b) A B->Trn (Btw w.heap.size b) A B:=fun ht=>ht.mono fun m _ q=>⟨by have:=q.1;omega,q.2⟩
 refine(hseq W1 b1 (w.heap.size+1)
  (fun b pre W=>I b pre W/\W.heap[w.heap.size+1]? =some (.loop (R .ready none))/\W.heap[w.heap.size]? =some (.deferred (some [])))
  (fun b pre W=>∃c,Ix b c pre W/\W.heap[w.heap.size+1]? =some (.loop (R .done (some c)))/\W.heap[w.heap.size]? =some (.deferred (some [])))
  (fun b W2 h1 h2 h3=>⟨hs b W2 (by omega) h2 (b1.trans (h3.mono (by omega))),(h3.block _ (by omega)).trans r1,(h3.block _ (by omega)).trans d1⟩)
  (fun b pre A B h t=>⟨hI b pre A B h.1 (wid t),keepB t (by omega) h.2.1,keepB t (by omega) h.2.2⟩)
  (fun b pre A B h t=>by
    obtain⟨c,h1,h2,h3⟩:=h;exact⟨c,hIx b c pre A B h1 (wid t),keepB t (by omega) h2,keepB t (by omega) h3⟩)
  ?_).mono ?_
 ·rintro b pre x A hb hA ⟨hi,hl,hd⟩ hx
  have hlt:w.heap.size+1<A.heap.size:=(Array.getElem?_eq_some_iff.1 hl).1;have hlb:w.heap.size+1<b:=by omega
  have hy:=run_yield (P:=P) (args:=encs x) hl (by rw[hR];exact hps x);rw[hR] at hy;refine⟨fn,_,assign,body,hy,roundIn_of_wpIn hfn (hassign _ b pre x A _ (by omega) hA hi fun a' A0 hb0 hax=> ?_)⟩;have l0:A0.heap[w.heap.size+1]? =some (.loop (R .ready none)):=(hb0.block _ hlt).trans hl;have d0:A0.heap[w.heap.size]? =some (.deferred (some [])):=(hb0.block _ (by omega)).trans hd;have hz0:A.heap.size<=A0.heap.size:=hb0.size;refine⟨_,run_beginRound l0 (by rw[hR]),?_⟩;obtain⟨A1,hA1⟩:∃A1,A0.putObj (w.heap.size+1) (.loop {R .ready none with state:= .busy})=A1:=⟨_,rfl⟩;rw[hA1];have s1:A1.heap.size=A0.heap.size:=by rw[<-hA1];simp
  have l1:A1.heap[w.heap.size+1]? =some (.loop {R .ready none with state:= .busy}):=by rw[<-hA1];exact World.putObj_heap_same (by omega)
  have e1:A1.heap[w.heap.size]? =some (.deferred (some [])):=by rw[<-hA1];exact(World.putObj_heap_other (by omega)).trans d0
  have tp:Trn (Btw w.heap.size b) A0 A1:=by rw[<-hA1];exact Trn.put _ _ _ ⟨by omega,hlb⟩
  have i1:I b pre A1:=hI b pre _ _ (hI b pre _ _ hi (Trn.below hb0)) tp;have k1:Kpt W1.heap.size b A A1:=by
   refine(Kpt.trn (S:=fun _=>False) (Trn.below hb0) hA (fun _ _ _ h=>h)).trans ?_;rw[<-hA1];exact Kpt.put _ _ (by omega)
  refine wpIn_mono (hbody _ b pre x a' A1 (by omega) (by omega) i1 (hAx _ _ _ _ _ hax tp) hx) ?_;have fin:∀(jump:Option Go.Code) (W3:World),Kpt w.heap.size b A1 W3->
   (Instr.endRound (w.heap.size+1) jump).run P W3= .ok (.bool jump.isNone) (W3.putObj (w.heap.size+1) (.loop (R (if jump.isNone then .ready else .done) jump)))/\
   (W3.putObj (w.heap.size+1) (.loop (R (if jump.isNone then .ready else .done) jump))).heap[w.heap.size+1]? =some (.loop (R (if jump.isNone then .ready else .done) jump))/\
   (W3.putObj (w.heap.size+1) (.loop (R (if jump.isNone then .ready else .done) jump))).heap[w.heap.size]? =some (.deferred (some []))/\
   Kpt W1.heap.size b A (W3.putObj (w.heap.size+1) (.loop (R (if jump.isNone then .ready else .done) jump)))/\
   Trn (Btw w.heap.size b) W3 (W3.putObj (w.heap.size+1) (.loop (R (if jump.isNone then .ready else .done) jump))):=fun jump W3 hk=>by
   have l3:=(hk.block (w.heap.size+1) (by omega) hlb).trans l1;have hr:=run_endRound (P:=P) jump l3;have g3:=(Array.getElem?_eq_some_iff.1 l3).1;rw[hR] at hr ⊢;exact⟨hr,World.putObj_heap_same g3,(World.putObj_heap_other (by omega)).trans ((hk.block w.heap.size (Nat.le_refl _) (by omega)).trans e1),(k1.trans (hk.mono (by omega) (Nat.le_refl _))).trans (Kpt.put _ _ (by omega)),Trn.put _ _ _ ⟨by omega,hlb⟩⟩
  rintro e a3 W3 hp;cases e with
  |normal=>
   obtain⟨h1,h2,h3,h4,h5⟩:=fin none W3 hp.1;exact⟨_,_,h1,.inl ⟨rfl,⟨hI _ _ _ _ hp.2 h5,h2,h3⟩,h4⟩⟩
  |ret=>
   obtain⟨h1,h2,h3,h4,h5⟩:=fin (some .ret) W3 hp.1;exact⟨_,_,h1,.inr ⟨rfl,⟨.ret,hIx _ _ _ _ _ hp.2 h5,h2,h3⟩,h4⟩⟩
  |exit id=>
   obtain⟨h1,h2,h3,h4,h5⟩:=fin (some (.exit id)) W3 hp.1;exact⟨_,_,h1,.inr ⟨rfl,⟨.exit id,hIx _ _ _ _ _ hp.2 h5,h2,h3⟩,h4⟩⟩
  |goto t=>
   obtain⟨h1,h2,h3,h4,h5⟩:=fin (some (.goto t)) W3 hp.1;exact⟨_,_,h1,.inr ⟨rfl,⟨.goto t,hIx _ _ _ _ _ hp.2 h5,h2,h3⟩,h4⟩⟩
  |panic ch=>exact hp.elim
  |outgrown=>exact hp.elim
 ·rintro e W2 ⟨⟨v,rfl⟩,b,hb,hb2,(⟨hi,hl,hd⟩|⟨pre,hp,c,hi,hl,hd⟩)⟩
  ·exact⟨none,_,by have:=run_endLoop (P:=P) hl (by rw[hR];simp);rw[hR] at this;exact this,hdone w.heap.size b _ (Nat.le_refl _) (by omega) (by simp;exact hb2) (hI _ _ _ _ hi (Trn.put _ _ _ ⟨by omega,by omega⟩)) ((World.putObj_heap_other (by omega)).trans hd)⟩
  ·exact⟨some c,_,by have:=run_endLoop (P:=P) hl (by rw[hR];simp);rw[hR] at this;exact this,hstop w.heap.size b c pre _ (Nat.le_refl _) (by omega) (by simp;exact hb2) hp (hIx _ _ _ _ _ hi (Trn.put _ _ _ ⟨by omega,by omega⟩)) ((World.putObj_heap_other (by omega)).trans hd)⟩
theorem zNE {W:World} {g n cap:Nat} {f:Nat->En} (h:zAR W g n cap f):zAR W.drew g n cap f:=h
theorem zH0 {W:World} {g n cap:Nat} {f:Nat->En} (h:zAR W g n cap f) {a b:Nat} (ha:a<n) (hb:b<n) (X Y:List Value) (hX:(f a).l=X) (hY:(f b).l=Y):zAR (((W.setCells g (a*14) Y).setCells g (b*14) X).drew) g n cap (Hp.swp f a b):=by
 subst hX hY;exact zNE (h.swap ha hb)
theorem zKD (W:World) (g a b:Nat) (X Y:List Value):Trn (fun x=>x=g) W (((W.setCells g a Y).setCells g b X).drew):=((Trn.setCells (S:=fun x=>x=g) g rfl _ _ _).trans (Trn.setCells (S:=fun x=>x=g) g rfl _ _ _) (fun _ _ q=>q)).trans (Trn.drew _ _) (fun _ _ q=>q)
theorem Plc.fn {W:World} {b:Nat} {R:Ky->Nat->Prop} (h:Plc W b R) {k:Ky} {i j:Nat} (hi:R k i) (hj:R k j):i=j:=by
 obtain⟨es,clock,hb,hs,h1,h2⟩:=h;obtain⟨x,hx,xk,xv⟩:=h2 k i hi;obtain⟨y,hy,yk,yv⟩:=h2 k j hj;have e:=zC9 hs hx hy (xk.trans yk.symm);rw[e,yv] at xv;have:(j:Int)=(i:Int):=by simpa using xv
 omega
theorem zH1 {T mb g n cap room births i j:Nat} {f:Nat->En} {w wc W1 W2:World} (HT:zAK w T mb (.slice (some ⟨g,0,none⟩) n cap) room births n f) (hi:i<n) (hj:j<n) (HW:Trn (fun x=>x=g) w wc) (HG1:wc.drew.grownBy W1 (some mb)) (HG2:W1.drew.grownBy W2 (some mb)) (HE1:zAR W1 g n cap (Hp.swp f i j)) (HB1:Blk 263 W1 T [.int .i64 (room:Int),.int .u64 (births:Int),.map (some mb),.slice (some ⟨g,0,none⟩) n cap])
 (HP2:Plc W2 mb (fun x y=>(x=(f i).k/\y=j)\/(x≠(f i).k/\((x=(f j).k/\y=i)\/(x≠(f j).k/\(y<n/\(f y).k=x)))))):
 zAK W2 T mb (.slice (some ⟨g,0,none⟩) n cap) room births n (Hp.swp f i j)/\Trn (Ows T mb (.slice (some ⟨g,0,none⟩) n cap)) w W2:=by
 obtain⟨gT,gm⟩:=HT.tr g rfl;have hT2:W2.heap[T]? =W1.heap[T]? :=HG2.block T HB1.lt (fun q=>HT.tm (by cases q;rfl));have hg2:W2.heap[g]? =W1.heap[g]? :=HG2.block g HE1.lt (fun q=>gm (by cases q;rfl));have apart:∀a b,a<n->b<n->(f a).k=(f b).k->a=b:=fun a b ha hb e=>HT.map.fn ⟨ha,e⟩ ⟨hb,rfl⟩
 refine⟨⟨⟨hT2.trans HB1.1,HB1.2⟩,.inr ⟨g,cap,rfl,HE1.same hg2⟩,HP2.congr (fun x y=> ?_),fun y hy=> ?_,fun y hy=> ?_,HT.tm,HT.tr,HT.le,HT.big⟩,?_⟩
 ·by_cases yi:y=i
  ·subst yi
   rw[Hp.swp_left]
   constructor
   ·rintro(⟨rfl,rfl⟩|⟨q0,⟨rfl,_⟩|⟨q,_,r⟩⟩)
    ·exact⟨hi,rfl⟩
    ·exact⟨hi,rfl⟩
    ·exact absurd r.symm q0
   ·rintro⟨_,rfl⟩
    by_cases e:(f j).k=(f y).k
    ·exact .inl ⟨e,(apart j y hj hi e).symm⟩
    ·exact .inr ⟨e,.inl ⟨rfl,rfl⟩⟩
  ·by_cases yj:y=j
   ·subst yj
    rw[Hp.swp_right]
    constructor
    ·rintro(⟨rfl,_⟩|⟨_,⟨_,q⟩|⟨q,_,r⟩⟩)
     ·exact⟨hj,rfl⟩
     ·exact absurd q yi
     ·exact absurd r.symm q
    ·rintro⟨_,rfl⟩
     exact .inl ⟨rfl,rfl⟩
   ·rw[Hp.swp_other f i j y yi yj]
    constructor
    ·rintro(⟨_,q⟩|⟨_,⟨_,q⟩|⟨_,q⟩⟩)
     ·exact absurd q yj
     ·exact absurd q yi
     ·exact q
    ·rintro⟨hy,rfl⟩
     exact .inr ⟨fun e=>yi (apart y i hy hi e),.inr ⟨fun e=>yj (apart y j hy hj e),hy,rfl⟩⟩
 ·by_cases yi:y=i
  ·subst yi;rw[Hp.swp_left];exact HT.wf j hj
  ·by_cases yj:y=j
   ·subst yj;rw[Hp.swp_right];exact HT.wf i hi
   ·rw[Hp.swp_other f i j y yi yj];exact HT.wf y hy
 ·by_cases yi:y=i
  ·subst yi;rw[Hp.swp_left];exact HT.ns j hj
  ·by_cases yj:y=j
   ·subst yj;rw[Hp.swp_right];exact HT.ns i hi
   ·rw[Hp.swp_other f i j y yi yj];exact HT.ns y hy
 ·have h1:Trn (Ows T mb (.slice (some ⟨g,0,none⟩) n cap)) w wc:=HW.mono (fun m _ q=>by subst q;exact .inr (.inr rfl))
  have h2:Trn (Ows T mb (.slice (some ⟨g,0,none⟩) n cap)) wc.drew W1:=Trn.grown HG1 (.inr (.inl rfl));have h3:Trn (Ows T mb (.slice (some ⟨g,0,none⟩) n cap)) W1.drew W2:=Trn.grown HG2 (.inr (.inl rfl));exact(((h1.trans (Trn.drew _ _) (fun _ _ q=>q)).trans h2 (fun _ _ q=>q)).trans (Trn.drew _ _) (fun _ _ q=>q)).trans h3 (fun _ _ q=>q)
theorem zAH {W:World} {g n cap:Nat} {f:Nat->En} (h:zAR W g n cap f) {i:Nat} (hi:i<n) (L:List Value) (hL:(f i).l=L) (k:Nat) (v:Value) (hv:L[k]? =some v):W.cell? ⟨g,i*14+k,none⟩=some v:=h.cell hi k v (by rw[hL];exact hv)
end Go.Proofs.YtclpnafiiobfhaaGreatDoor

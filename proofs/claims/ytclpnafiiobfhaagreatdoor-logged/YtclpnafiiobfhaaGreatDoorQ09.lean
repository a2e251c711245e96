import Derived.Test.YtclpnafiiobfhaaGreatDoorQ08
import Derived.Test.YtclpnafiiobfhaaGreatDoorQ03
set_option linter.unusedVariables false
set_option linter.unusedSimpArgs false
set_option maxRecDepth 100000
set_option maxHeartbeats 6400000
namespace Go.Proofs.YtclpnafiiobfhaaGreatDoor
open Go.RowKit
def zJu (x:Ins):List Value:=[.int .u8 x.op,.int .u8 x.r,.int .u8 x.t,.int .u8 x.f,.int .u32 x.k]
def zAU:List Ins->List Value
 |[]=>[]
 |x::l=>zJu x++zAU l
theorem zGm (l:List Ins) (x:Ins):zAU (l++[x])=zAU l++zJu x:=by
 induction l with
 |nil=>simp[zAU]
 |cons a l ih=>simp[zAU,ih]
def zHD (l:List Nat):List Value:=l.map fun(n:Nat)=>Value.int .i64 (n:Int)
theorem Tryz.infoInsn:(Tryz.prog.info? 250).map (fun i=>(i.zero,i.size,i.bytes))=some (some (.agg #[.int .u8 0,.int .u8 0,.int .u8 0,.int .u8 0,.int .u32 0]),5,8):=by kernel_rfl
theorem Tryz.infoInt:(Tryz.prog.info? 3).map (fun i=>(i.zero,i.size,i.bytes))=some (some (.int .i64 0),1,8):=by kernel_rfl
structure Cod where
 L:List Ins
 T:List Nat
 F:List Nat
 z:Nat
structure zAP (w:World) (B Q:Nat) (c:Cod) (lv tv fv:Value):Prop where
 c0:w.cell? ⟨Q,0,none⟩=some lv
 c1:w.cell? ⟨Q,1,none⟩=some tv
 c2:w.cell? ⟨Q,2,none⟩=some fv
 c3:w.cell? ⟨Q,3,none⟩=some (.int .u64 (c.z:Int))
 o0:w.ownsRow B 250 5 lv c.L.length (zAU c.L)
 o1:w.ownsRow B 3 1 tv c.T.length (zHD c.T)
 o2:w.ownsRow B 3 1 fv c.F.length (zHD c.F)
 d01:∀g,lv.ownBlock=some g->tv.ownBlock≠some g
 d02:∀g,lv.ownBlock=some g->fv.ownBlock≠some g
 d12:∀g,tv.ownBlock=some g->fv.ownBlock≠some g
 f:∀i,w.frozen? ⟨Q,i,none⟩=false
 lt:Q<B
 le:B<=w.heap.size
theorem zAP.below {w w':World} {B Q:Nat} {c:Cod} {lv tv fv:Value} (h:zAP w B Q c lv tv fv) (hw:Below w.heap.size w w'):zAP w' B Q c lv tv fv:=by
 have hQ:Q<w.heap.size:=Nat.lt_of_lt_of_le h.lt h.le;exact⟨(hw.cell (p:=⟨Q,0,none⟩) hQ).trans h.c0,(hw.cell (p:=⟨Q,1,none⟩) hQ).trans h.c1,(hw.cell (p:=⟨Q,2,none⟩) hQ).trans h.c2,(hw.cell (p:=⟨Q,3,none⟩) hQ).trans h.c3,zAS h.o0 (fun g hg=>hw.block g (h.o0.lt g hg).2),zAS h.o1 (fun g hg=>hw.block g (h.o1.lt g hg).2),zAS h.o2 (fun g hg=>hw.block g (h.o2.lt g hg).2),h.d01,h.d02,h.d12,fun i=>(hw.frozen (p:=⟨Q,i,none⟩) hQ).trans (h.f i),h.lt,Nat.le_trans h.le hw.size⟩
theorem zA7 {w:World} {B:Nat} {e:TypeId} {sz:Nat} {v:Value} {n:Nat} {xs:List Value} (h:w.ownsRow B e sz v n xs):∃p c,v= .slice p n c:=by
 rcases h.2 with⟨e,e'⟩|⟨g,cap,cur,e,_⟩
 ·rw[e'];exact⟨_,_,e⟩
 ·exact⟨_,_,e⟩
def Own (w:World) (Q m:Nat):Prop:=m=Q\/∃i v,i<3/\w.cell? ⟨Q,i,none⟩=some v/\v.ownBlock=some m
structure zBj (Q:Nat) (w w':World):Prop where
 os:w'.os=w.os
 tape:w'.tape=w.tape
 output:w'.output=w.output
 size:w.heap.size<=w'.heap.size
 block:∀m,m<w.heap.size->¬Own w Q m->w'.heap[m]? =w.heap[m]? /\¬Own w' Q m
theorem zBj.refl (Q:Nat) (w:World):zBj Q w w:=⟨rfl,rfl,rfl,Nat.le_refl _,fun _ _ h=>⟨rfl,h⟩⟩
theorem zBj.trans {Q:Nat} {a b c:World} (h:zBj Q a b) (k:zBj Q b c):zBj Q a c:=
 ⟨k.os.trans h.os,k.tape.trans h.tape,k.output.trans h.output,Nat.le_trans h.size k.size,fun m hm hn=>by
   have h1:=h.block m hm hn;have h2:=k.block m (Nat.lt_of_lt_of_le hm h.size) h1.2;exact⟨h2.1.trans h1.1,h2.2⟩⟩
theorem zBj.of {Q:Nat} {w w':World} (h:Below w.heap.size w w') (hQ:Q<w.heap.size):zBj Q w w':=
 ⟨h.os,h.tape,h.output,h.size,fun m hm hn=>⟨h.block m hm,fun q=>hn (by
   rcases q with q|⟨i,v,hi,hc,hv⟩
   ·exact Or.inl q
   ·exact Or.inr ⟨i,v,hi,by rw[<-h.cell (p:=⟨Q,i,none⟩) hQ];exact hc,hv⟩)⟩⟩
theorem zBj.cell {Q:Nat} {w w':World} (h:zBj Q w w') {p:Addr} (hp:p.block<w.heap.size) (hn:¬Own w Q p.block):w'.cell? p=w.cell? p:=World.cell?_of_block (w:=w) (h.block p.block hp hn).1
theorem zAP.own {w:World} {B Q:Nat} {c:Cod} {lv tv fv:Value} (h:zAP w B Q c lv tv fv) {m:Nat} (hm:Own w Q m):m=Q\/B<=m:=by
 rcases hm with q|⟨i,v,hi,hc,hv⟩
 ·exact Or.inl q
 ·right
  rcases i with _|_|_|i
  ·rw[h.c0] at hc;injection hc with hc;subst hc;exact zAE h.o0 m hv
  ·rw[h.c1] at hc;injection hc with hc;subst hc;exact zAE h.o1 m hv
  ·rw[h.c2] at hc;injection hc with hc;subst hc;exact zAE h.o2 m hv
  ·omega
theorem zAP.own_lt {w:World} {B Q:Nat} {c:Cod} {lv tv fv:Value} (h:zAP w B Q c lv tv fv) {m:Nat} (hm:Own w Q m):m<w.heap.size:=by
 rcases hm with q|⟨i,v,hi,hc,hv⟩
 ·have:=h.lt;have:=h.le;omega
 ·rcases i with _|_|_|i
  ·rw[h.c0] at hc;injection hc with hc;subst hc;exact(h.o0.lt m hv).2
  ·rw[h.c1] at hc;injection hc with hc;subst hc;exact(h.o1.lt m hv).2
  ·rw[h.c2] at hc;injection hc with hc;subst hc;exact(h.o2.lt m hv).2
  ·omega
theorem zGn {Q fld:Nat} {W w3:World} {v:Value} {gg n cap:Nat} (hf:fld<3) (hQ:Q<W.heap.size) (hv:W.cell? ⟨Q,fld,none⟩=some v) (hb3:w3.os=W.os/\w3.tape=W.tape/\w3.output=W.output/\W.heap.size<=w3.heap.size) (hb3':∀m,m<W.heap.size->some m≠v.ownBlock->w3.heap[m]? =W.heap[m]?) (hat:v.ownBlock=some gg\/W.heap.size<=gg) (hQv:v.ownBlock≠some Q):
 zBj Q W (w3.setCell ⟨Q,fld,none⟩ (.slice (some ⟨gg,0,none⟩) n cap)):=by
 have hcell:∀i,i≠fld->(w3.setCell ⟨Q,fld,none⟩ (.slice (some ⟨gg,0,none⟩) n cap)).cell? ⟨Q,i,none⟩=W.cell? ⟨Q,i,none⟩:=fun i hi=>by
  rw[World.cell?_setCell_other _ _ _ _ (by intro q;apply hi;injection q with q1 q2;omega)];exact World.cell?_of_block (w:=W) (hb3' Q hQ (fun q=>hQv q.symm))
 refine⟨hb3.1,hb3.2.1,hb3.2.2.1,by simp[World.setCell];exact hb3.2.2.2,fun m hm hn=>⟨?_,fun q=> ?_⟩⟩
 ·rw[Below.heap_setCell _ _ _ _ (fun q=>hn (Or.inl q))]
  exact hb3' m hm (fun q=>hn (Or.inr ⟨fld,v,hf,hv,q.symm⟩))
 ·rcases q with q|⟨i,u,hi,hc,hu⟩
  ·exact hn (Or.inl q)
  ·by_cases e:i=fld
   ·subst e
    have hs:(w3.setCell ⟨Q,i,none⟩ (.slice (some ⟨gg,0,none⟩) n cap)).cell? ⟨Q,i,none⟩=some (.slice (some ⟨gg,0,none⟩) n cap):=World.cell?_setCell_same _ _ _ ((World.cell?_of_block (w:=W) (hb3' Q hQ (fun q=>hQv q.symm))).trans hv);rw[hs] at hc
    injection hc with hc
    subst hc;have e2:gg=m:=by injection hu
    subst e2;rcases hat with h1|h1
    ·exact hn (Or.inr ⟨i,v,hi,hv,h1⟩)
    ·omega
   ·rw[hcell i e] at hc
    exact hn (Or.inr ⟨i,u,hi,hc,hu⟩)
theorem zIz (B Q:Nat) (c:Cod) (lv tv fv:Value) (x:Ins) (w:World) (h:zAP w B Q c lv tv fv) (hl:c.L.length<=4000):
 Calls Tryz.prog 123 #[.pointer (some ⟨Q,0,none⟩),.agg #[.int .u8 x.op,.int .u8 x.r,.int .u8 x.t,.int .u8 x.f,.int .u32 x.k]] w fun e w'=>e= .returned (.tuple #[])/\(∃lv',zAP w' B Q ⟨c.L++[x],c.T,c.F,c.z⟩ lv' tv fv)/\zBj Q w w':=by
 obtain⟨op,r,t,f,k⟩:=x;obtain⟨W0,hW0⟩:∃W0,w.alloc (.cells #[.int .u8 op,.int .u8 r,.int .u8 t,.int .u8 f,.int .u32 k] 250)=W0:=⟨_,rfl⟩;have hz0':W0.heap.size=w.heap.size+1:=by rw[<-hW0];simp
 have HB0:Hid (Below w.heap.size w W0):=show Below w.heap.size w W0 by rw[<-hW0];exact(Below.refl _ w).alloc (Nat.le_refl _) _
 have hc:∀i,W0.cell? ⟨w.heap.size,i,none⟩=(#[.int .u8 op,.int .u8 r,.int .u8 t,.int .u8 f,.int .u32 k]:Array Value)[i]? :=fun i=>by rw[<-hW0,World.cell?_alloc_at _ _ _ _ rfl]
 have r0:W0.cell? ⟨w.heap.size,0,none⟩=some (.int .u8 op):=hc 0;have r1:W0.cell? ⟨w.heap.size,1,none⟩=some (.int .u8 r):=hc 1;have r2:W0.cell? ⟨w.heap.size,2,none⟩=some (.int .u8 t):=hc 2;have r3:W0.cell? ⟨w.heap.size,3,none⟩=some (.int .u8 f):=hc 3;have r4:W0.cell? ⟨w.heap.size,4,none⟩=some (.int .u32 k):=hc 4;have HW0:=hid hW0;have HC0:Hid (zAP W0 B Q c lv tv fv):=h.below HB0.out;have HH:=hid h;have hQB:=h.lt;have hBw:=h.le;obtain⟨lp,lc,hlv⟩:=zA7 h.o0;clear hW0 hc h;go_enter Tryz.func123,Tryz.ntmps123;go_upto_region 1 with fail
 rw[HW0.out];obtain⟨k0,k1,k2,k3,o0,o1,o2,d01,d02,d12,kf,klt,kle⟩:=HC0.out;rw[hlv] at k0;have HOW:Hid (W0.ownsRow B 250 5 (.slice lp c.L.length lc) c.L.length (zAU c.L)):=show World.ownsRow _ _ _ _ _ _ _ by rw[<-hlv];exact o0
 have HLV:=hid hlv;obtain⟨i0,hi0,hz0,hz1,hz2⟩:=zAi Tryz.infoInsn;have fQ:=kf 0;have HOWA:Hid (∀u:World,u.heap=(W0.alloc (.cells #[.int .u8 op,.int .u8 r,.int .u8 t,.int .u8 f,.int .u32 k] 250)).heap->u.ownsRow B 250 5 (.slice lp c.L.length lc) c.L.length (zAU c.L)):=fun u hu=>zAS (HOW.out.alloc (.cells #[.int .u8 op,.int .u8 r,.int .u8 t,.int .u8 f,.int .u32 k] 250)) (fun g _=>by rw[hu])
 have HNW:Hid (∀u:World,u.heap=(W0.alloc (.cells #[.int .u8 op,.int .u8 r,.int .u8 t,.int .u8 f,.int .u32 k] 250)).heap->∀(j:Nat) (y:Value),([.int .u8 op,.int .u8 r,.int .u8 t,.int .u8 f,.int .u32 k]:List Value)[j]? =some y->u.cell? ((⟨W0.heap.size,0,none⟩:Addr).add j)=some y):=fun u hu=>World.news_of_block (w:=u) (cs:= #[.int .u8 op,.int .u8 r,.int .u8 t,.int .u8 f,.int .u32 k]) (t:=250) (fr:=(0,0)) (by rw[hu];exact heap_alloc_new W0 _)
 have HUB:Hid (∀u u':World,u.heap=(W0.alloc (.cells #[.int .u8 op,.int .u8 r,.int .u8 t,.int .u8 f,.int .u32 k] 250)).heap->u.os=W0.os->u.tape=W0.tape->u.output=W0.output->u.grownBy u' (Value.slice lp c.L.length lc).ownBlock->Below B W0 u'/\(∀m,m<W0.heap.size->some m≠lv.ownBlock->u'.heap[m]? =W0.heap[m]?)):=fun u u' h1 h2 h3 h4 hg=>by
  have hbu:Below B W0 u:=⟨h2,h3,h4,by rw[h1];simp,fun k hk=>by rw[h1];exact Below.heap_alloc _ _ _ (by omega)⟩;refine⟨Below.grown (w:=u) hbu hg (by rw[h1];simp;omega) (zAE HOW.out),fun m hm hn=> ?_⟩;rw[hg.block m (by rw[h1];simp;omega) (by rw[<-HLV.out];exact hn),h1];exact Below.heap_alloc _ _ _ hm
 have hQw:Q<W0.heap.size:=by omega
 have hQn:Q≠W0.heap.size:=by omega
 have hgn:w.heap.size≠W0.heap.size:=by omega
 have hgl:w.heap.size<W0.heap.size:=by omega
 have hBW:B<=W0.heap.size:=by omega
 clear o0 kf HW0 hz0';go_region_law (refine step_append_lies _ (by rfl) _ _ _ (by rfl) B 250 i0 _ 5 8 Tryz.underlying220 hi0 hz0 hz1 hz2 rfl (by decide) _ c.L.length (zAU c.L) (by rfl) (HOWA.out _ (by rfl)) ⟨W0.heap.size,0,none⟩ 1 1 [.int .u8 op,.int .u8 r,.int .u8 t,.int .u8 f,.int .u32 k] (by rfl) (by rfl) (HNW.out _ (by rfl)) (by simp[Value.oneCell']) (by decide) (by unfold maxLen;omega) (by omega) (by first|omega|(simp;done)|(simp;omega)) (W0.heap.size+1) (by simp) ?_;intro gg cap' w3 hown3 hgrow hat hlt3;have HB3:Hid (Below B W0 w3/\(∀m,m<W0.heap.size->some m≠lv.ownBlock->w3.heap[m]? =W0.heap[m]?)):=HUB.out _ _ (by rfl) (by rfl) (by rfl) (by rfl) hgrow;have HAT:=hid hat;clear hgrow hat;have m0:=(HB3.out.1.cell (p:=⟨Q,0,none⟩) hQB).trans k0;have g0:=(HB3.out.1.frozen (p:=⟨Q,0,none⟩) hQB).trans fQ)
 all_goals
  go_wp2_with fail;go_end0;have hd:∀v:Value,(∀g,lv.ownBlock=some g->v.ownBlock≠some g)->(∀g,v.ownBlock=some g->g<W0.heap.size)->∀g,(Value.slice (some ⟨gg,0,none⟩) (c.L.length+1) cap').ownBlock=some g->v.ownBlock≠some g:=fun v h1 h2 g hg hv=>by
   cases hg;rcases HAT.out with q|q
   ·exact h1 gg (by rw[HLV.out];exact q) hv
   ·have hlt:gg<W0.heap.size:=h2 gg hv
    omega
  have l1:∀g,tv.ownBlock=some g->g<W0.heap.size:=fun g hg=>(HC0.out.o1.lt g hg).2
  have l2:∀g,fv.ownBlock=some g->g<W0.heap.size:=fun g hg=>(HC0.out.o2.lt g hg).2
  have hchg:zBj Q w (w3.setCell ⟨Q,0,none⟩ (.slice (some ⟨gg,0,none⟩) (c.L.length+1) cap')):=(zBj.of HB0.out (by omega)).trans (zGn (v:=lv) (by decide) hQw HC0.out.c0 ⟨HB3.out.1.os,HB3.out.1.tape,HB3.out.1.output,HB3.out.1.size⟩ HB3.out.2 (by
   rcases HAT.out with q|q
   ·left;rw[HLV.out];exact q
   ·right;omega) (fun q=>by have:=zAE HC0.out.o0 Q q;omega))
  refine⟨rfl,⟨.slice (some ⟨gg,0,none⟩) (c.L.length+1) cap',?_⟩,hchg⟩;refine⟨World.cell?_setCell_same _ _ _ m0,?_,?_,?_,?_,?_,?_,hd tv d01 l1,hd fv d02 l2,d12,fun i=> ?_,hQB,?_⟩
  ·rw[World.cell?_setCell_other _ _ _ _ (by simp)];exact(HB3.out.1.cell (p:=⟨Q,1,none⟩) hQB).trans k1
  ·rw[World.cell?_setCell_other _ _ _ _ (by simp)];exact(HB3.out.1.cell (p:=⟨Q,2,none⟩) hQB).trans k2
  ·rw[World.cell?_setCell_other _ _ _ _ (by simp)];exact(HB3.out.1.cell (p:=⟨Q,3,none⟩) hQB).trans k3
  ·refine zAS (w:=w3) ?_ (fun g hg=> ?_)
   ·rw[List.length_append,zGm];exact hown3
   ·have hgB:B<=g:=zAE hown3 g hg
    exact Below.heap_setCell _ _ _ _ (by show g≠Q;omega)
  ·refine zAS o1 (fun g hg=> ?_)
   have hgB:B<=g:=zAE o1 g hg;rw[Below.heap_setCell _ _ _ _ (by show g≠Q;omega)];exact HB3.out.2 g (l1 g hg) (fun q=>d01 g q.symm hg)
  ·refine zAS o2 (fun g hg=> ?_)
   have hgB:B<=g:=zAE o2 g hg;rw[Below.heap_setCell _ _ _ _ (by show g≠Q;omega)];exact HB3.out.2 g (l2 g hg) (fun q=>d02 g q.symm hg)
  ·simp
   exact(HB3.out.1.frozen (p:=⟨Q,i,none⟩) hQB).trans (HC0.out.f i)
  ·simp[World.setCell]
   have:=HB3.out.1.size;omega
theorem zMN (B Q:Nat) (c:Cod) (lv tv fv:Value) (x:Ins) (w:World) (h:zAP w B Q c lv tv fv) (hl:c.L.length<=4000) (hT:c.T.length<=4000) (hF:c.F.length<=4000):
 Calls Tryz.prog 294 #[.pointer (some ⟨Q,0,none⟩),.agg #[.int .u8 x.op,.int .u8 x.r,.int .u8 x.t,.int .u8 x.f,.int .u32 x.k]] w fun e w'=>e= .returned (.tuple #[])/\(∃lv' fv',zAP w' B Q ⟨c.L++[x],c.T,c.F++[c.L.length],c.z⟩ lv' tv fv')/\zBj Q w w':=by
 obtain⟨op,r,t,f,k⟩:=x;obtain⟨W0,hW0⟩:∃W0,w.alloc (.cells #[.int .u8 op,.int .u8 r,.int .u8 t,.int .u8 f,.int .u32 k] 250)=W0:=⟨_,rfl⟩;have hz0':W0.heap.size=w.heap.size+1:=by rw[<-hW0];simp
 have HB0:Hid (Below w.heap.size w W0):=show Below w.heap.size w W0 by rw[<-hW0];exact(Below.refl _ w).alloc (Nat.le_refl _) _
 have HCC:Hid (∀i,W0.cell? ⟨w.heap.size,i,none⟩=(#[.int .u8 op,.int .u8 r,.int .u8 t,.int .u8 f,.int .u32 k]:Array Value)[i]?):=fun i=>by rw[<-hW0,World.cell?_alloc_at _ _ _ _ rfl]
 have HW0:=hid hW0;have HC0:Hid (zAP W0 B Q c lv tv fv):=h.below HB0.out;have HFN:Hid (some w.heap.size≠fv.ownBlock):=fun q=>by have:=(h.o2.lt _ q.symm).2;omega
 have hQB:=h.lt;have hBw:=h.le;clear hW0 h;go_enter Tryz.func294,Tryz.ntmps294;go_upto_region 1 with fail
 rw[HW0.out];have hgn:w.heap.size≠W0.heap.size:=by omega
 have hgl':w.heap.size<W0.heap.size:=by omega
 have hgQ:w.heap.size≠Q:=by omega
 obtain⟨k0,k1,k2,k3,o0,o1,o2,d01,d02,d12,kf,klt,kle⟩:=HC0.out;obtain⟨lp,lc,hlv⟩:=zA7 o0;obtain⟨vp,vc,hvv⟩:=zA7 o2;rw[hlv] at k0;rw[hvv] at k2;have HOW:Hid (W0.ownsRow B 3 1 (.slice vp c.F.length vc) c.F.length (zHD c.F)):=show World.ownsRow _ _ _ _ _ _ _ by rw[<-hvv];exact o2
 have HVV:=hid hvv;have HLV:=hid hlv;obtain⟨i0,hi0,hz0,hz1,hz2⟩:=zAi Tryz.infoInt;have fQ:=kf 2;have HOWA:Hid (∀u:World,u.heap=(W0.alloc (.cells #[.int .i64 (c.L.length:Int)] 3)).heap->u.ownsRow B 3 1 (.slice vp c.F.length vc) c.F.length (zHD c.F)):=fun u hu=>zAS (HOW.out.alloc (.cells #[.int .i64 (c.L.length:Int)] 3)) (fun g _=>by rw[hu])
 have HNW:Hid (∀u:World,u.heap=(W0.alloc (.cells #[.int .i64 (c.L.length:Int)] 3)).heap->∀(j:Nat) (y:Value),([.int .i64 (c.L.length:Int)]:List Value)[j]? =some y->u.cell? ((⟨W0.heap.size,0,none⟩:Addr).add j)=some y):=fun u hu=>World.news_of_block (w:=u) (cs:= #[.int .i64 (c.L.length:Int)]) (t:=3) (fr:=(0,0)) (by rw[hu];exact heap_alloc_new W0 _)
 have HUB:Hid (∀u u':World,u.heap=(W0.alloc (.cells #[.int .i64 (c.L.length:Int)] 3)).heap->u.os=W0.os->u.tape=W0.tape->u.output=W0.output->u.grownBy u' (Value.slice vp c.F.length vc).ownBlock->Below B W0 u'/\(∀m,m<W0.heap.size->some m≠fv.ownBlock->u'.heap[m]? =W0.heap[m]?)):=fun u u' h1 h2 h3 h4 hg=>by
  have hbu:Below B W0 u:=⟨h2,h3,h4,by rw[h1];simp,fun k hk=>by rw[h1];exact Below.heap_alloc _ _ _ (by omega)⟩;refine⟨Below.grown (w:=u) hbu hg (by rw[h1];simp;omega) (zAE HOW.out),fun m hm hn=> ?_⟩;rw[hg.block m (by rw[h1];simp;omega) (by rw[<-HVV.out];exact hn),h1];exact Below.heap_alloc _ _ _ hm
 have hQw:Q<W0.heap.size:=by omega
 have hQn:Q≠W0.heap.size:=by omega
 have hBW:B<=W0.heap.size:=by omega
 have HCA:Hid (∀(gg cap':Nat) (w3:World),w3.ownsRow B 3 1 (.slice (some ⟨gg,0,none⟩) (c.F.length+1) cap') (c.F.length+1) (zHD c.F++[.int .i64 (c.L.length:Int)])->((Value.slice vp c.F.length vc).ownBlock=some gg\/gg=W0.heap.size+1)->Below B W0 w3->(∀m,m<W0.heap.size->some m≠fv.ownBlock->w3.heap[m]? =W0.heap[m]?)->zAP (w3.setCell ⟨Q,2,none⟩ (.slice (some ⟨gg,0,none⟩) (c.F.length+1) cap')) B Q ⟨c.L,c.T,c.F++[c.L.length],c.z⟩ lv tv (.slice (some ⟨gg,0,none⟩) (c.F.length+1) cap')):=fun gg cap' w3 hown3 hat hb3 hb3'=>by
  obtain⟨k0,k1,k2,k3,o0,o1,o2,d01,d02,d12,kf,klt,kle⟩:=HC0.out;have l0:∀g,lv.ownBlock=some g->g<W0.heap.size:=fun g hg=>(o0.lt g hg).2
  have lo:∀g,tv.ownBlock=some g->g<W0.heap.size:=fun g hg=>(o1.lt g hg).2
  have hgl:∀g,lv.ownBlock=some g->(Value.slice (some ⟨gg,0,none⟩) (c.F.length+1) cap').ownBlock≠some g:=fun g hg hv=>by
   have e:gg=g:=by injection hv
   subst e;rcases hat with q|q
   ·exact d02 gg hg (by rw[HVV.out];exact q)
   ·have hlt:=l0 gg hg
    omega
  have hgo:∀g,(Value.slice (some ⟨gg,0,none⟩) (c.F.length+1) cap').ownBlock=some g->tv.ownBlock≠some g:=fun g hv hg=>by
   have e:gg=g:=by injection hv
   subst e;rcases hat with q|q
   ·exact d12 gg hg (by rw[HVV.out];exact q)
   ·have hlt:=lo gg hg
    omega
  have own':(w3.setCell ⟨Q,2,none⟩ (.slice (some ⟨gg,0,none⟩) (c.F.length+1) cap')).ownsRow B 3 1 (.slice (some ⟨gg,0,none⟩) (c.F.length+1) cap') (c.F++[c.L.length]).length (zHD (c.F++[c.L.length])):=by
   refine zAS (w:=w3) ?_ (fun g hg=> ?_)
   ·rw[List.length_append];unfold zHD at hown3 ⊢;rw[List.map_append];exact hown3
   ·have hgB:B<=g:=zAE hown3 g hg
    exact Below.heap_setCell _ _ _ _ (by show g≠Q;omega)
  have ownL:(w3.setCell ⟨Q,2,none⟩ (.slice (some ⟨gg,0,none⟩) (c.F.length+1) cap')).ownsRow B 250 5 lv c.L.length (zAU c.L):=zAS o0 (fun g hg=>by
   have hgB:B<=g:=zAE o0 g hg;rw[Below.heap_setCell _ _ _ _ (by show g≠Q;omega)];exact hb3' g (l0 g hg) (fun q=>d02 g hg q.symm))
  have ownO:(w3.setCell ⟨Q,2,none⟩ (.slice (some ⟨gg,0,none⟩) (c.F.length+1) cap')).ownsRow B 3 1 tv c.T.length (zHD c.T):=zAS o1 (fun g hg=>by
   have hgB:B<=g:=zAE o1 g hg;rw[Below.heap_setCell _ _ _ _ (by show g≠Q;omega)];exact hb3' g (lo g hg) (fun q=>d12 g hg q.symm))
  have oth:∀i,i≠2->(w3.setCell ⟨Q,2,none⟩ (.slice (some ⟨gg,0,none⟩) (c.F.length+1) cap')).cell? ⟨Q,i,none⟩=W0.cell? ⟨Q,i,none⟩:=fun i hi=>by
   rw[World.cell?_setCell_other _ _ _ _ (by intro q;apply hi;injection q with q1 q2;omega)];exact hb3.cell (p:=⟨Q,i,none⟩) klt
  have same:(w3.setCell ⟨Q,2,none⟩ (.slice (some ⟨gg,0,none⟩) (c.F.length+1) cap')).cell? ⟨Q,2,none⟩=some (.slice (some ⟨gg,0,none⟩) (c.F.length+1) cap'):=World.cell?_setCell_same _ _ _ ((hb3.cell (p:=⟨Q,2,none⟩) klt).trans k2);exact⟨(oth 0 (by decide)).trans k0,(oth 1 (by decide)).trans k1,same,(oth 3 (by decide)).trans k3,ownL,ownO,own',d01,hgl,fun g h1 h2=>hgo g h2 h1,fun i=>by rw[show(w3.setCell ⟨Q,2,none⟩ (.slice (some ⟨gg,0,none⟩) (c.F.length+1) cap')).frozen? ⟨Q,i,none⟩=w3.frozen? ⟨Q,i,none⟩ by simp];exact(hb3.frozen (p:=⟨Q,i,none⟩) klt).trans (kf i),klt,by simp[World.setCell];have:=hb3.size;omega⟩
 clear o0 o1 o2 d01 d02 d12 kf hlv hvv HW0 hz0';go_region_law (refine step_append_lies _ (by rfl) _ _ _ (by rfl) B 3 i0 _ 1 8 Tryz.underlying107 hi0 hz0 hz1 hz2 rfl (by decide) _ c.F.length (zHD c.F) (by rfl) (HOWA.out _ (by rfl)) ⟨W0.heap.size,0,none⟩ 1 1 [.int .i64 (c.L.length:Int)] (by rfl) (by rfl) (HNW.out _ (by rfl)) (by simp[Value.oneCell']) (by decide) (by unfold maxLen;omega) (by omega) (by first|omega|(simp;done)|(simp;omega)) (W0.heap.size+1) (by simp) ?_;intro gg cap' w3 hown3 hgrow hat hlt3;have HB3:Hid (Below B W0 w3/\(∀m,m<W0.heap.size->some m≠fv.ownBlock->w3.heap[m]? =W0.heap[m]?)):=HUB.out _ _ (by rfl) (by rfl) (by rfl) (by rfl) hgrow;have HC3:Hid (zAP _ B Q _ _ _ _):=HCA.out gg cap' w3 hown3 hat HB3.out.1 HB3.out.2;have HG3:Hid (zBj Q W0 (w3.setCell ⟨Q,2,none⟩ (.slice (some ⟨gg,0,none⟩) (c.F.length+1) cap'))):=zGn (v:=fv) (by decide) hQw HC0.out.c2 ⟨HB3.out.1.os,HB3.out.1.tape,HB3.out.1.output,HB3.out.1.size⟩ HB3.out.2 (hat.elim (fun q=>Or.inl (by rw[HVV.out];exact q)) (fun q=>Or.inr (by omega))) (fun q=>by have:=zAE HC0.out.o2 Q q;omega);clear hgrow hat hown3;have m0:=(HB3.out.1.cell (p:=⟨Q,2,none⟩) hQB).trans k2;have g0:=(HB3.out.1.frozen (p:=⟨Q,2,none⟩) hQB).trans fQ;have HR3:Hid (∀i,w3.cell? ⟨w.heap.size,i,none⟩=(#[.int .u8 op,.int .u8 r,.int .u8 t,.int .u8 f,.int .u32 k]:Array Value)[i]?):=(fun i=>by rw[World.cell?_of_block (w:=W0) (HB3.out.2 w.heap.size hgl' HFN.out)];exact HCC.out i);have r0:w3.cell? ⟨w.heap.size,0,none⟩=some (.int .u8 op):=HR3.out 0;have r1:w3.cell? ⟨w.heap.size,1,none⟩=some (.int .u8 r):=HR3.out 1;have r2:w3.cell? ⟨w.heap.size,2,none⟩=some (.int .u8 t):=HR3.out 2;have r3:w3.cell? ⟨w.heap.size,3,none⟩=some (.int .u8 f):=HR3.out 3;have r4:w3.cell? ⟨w.heap.size,4,none⟩=some (.int .u32 k):=HR3.out 4;clear hlt3)
 all_goals
  go_wp2_with (go_at_call 123;refine(zIz B Q _ lv tv _ ⟨op,r,t,f,k⟩ _ HC3.out hl).mono ?_;rintro e w4 ⟨rfl,⟨lv',hC4⟩,hch4⟩);go_end0;exact⟨rfl,⟨lv',_,hC4⟩,((zBj.of HB0.out (by omega)).trans HG3.out).trans hch4⟩
theorem zI0 (B Q:Nat) (c:Cod) (lv tv fv:Value) (op k:Int) (w:World) (h:zAP w B Q c lv tv fv) (hl:c.L.length<=4000) (hT:c.T.length<=4000) (hF:c.F.length<=4000):
 Calls Tryz.prog 293 #[.pointer (some ⟨Q,0,none⟩),.int .u8 op,.int .u32 k] w fun e w'=>e= .returned (.tuple #[])/\(∃lv' tv',zAP w' B Q ⟨c.L++[⟨op,0,0,0,k⟩],c.T++[c.L.length],c.F,c.z⟩ lv' tv' fv)/\zBj Q w w':=by
 have HC0:=hid h;have hQB:=h.lt;have hBw:=h.le;clear h;go_enter Tryz.func293,Tryz.ntmps293;go_upto_region 0 with fail
 obtain⟨k0,k1,k2,k3,o0,o1,o2,d01,d02,d12,kf,klt,kle⟩:=HC0.out;obtain⟨lp,lc,hlv⟩:=zA7 o0;obtain⟨vp,vc,hvv⟩:=zA7 o1;rw[hlv] at k0;rw[hvv] at k1;have HOW:Hid (w.ownsRow B 3 1 (.slice vp c.T.length vc) c.T.length (zHD c.T)):=show World.ownsRow _ _ _ _ _ _ _ by rw[<-hvv];exact o1
 have HVV:=hid hvv;have HLV:=hid hlv;obtain⟨i0,hi0,hz0,hz1,hz2⟩:=zAi Tryz.infoInt;have fQ:=kf 1;have HOWA:Hid (∀u:World,u.heap=(w.alloc (.cells #[.int .i64 (c.L.length:Int)] 3)).heap->u.ownsRow B 3 1 (.slice vp c.T.length vc) c.T.length (zHD c.T)):=fun u hu=>zAS (HOW.out.alloc (.cells #[.int .i64 (c.L.length:Int)] 3)) (fun g _=>by rw[hu])
 have HNW:Hid (∀u:World,u.heap=(w.alloc (.cells #[.int .i64 (c.L.length:Int)] 3)).heap->∀(j:Nat) (y:Value),([.int .i64 (c.L.length:Int)]:List Value)[j]? =some y->u.cell? ((⟨w.heap.size,0,none⟩:Addr).add j)=some y):=fun u hu=>World.news_of_block (w:=u) (cs:= #[.int .i64 (c.L.length:Int)]) (t:=3) (fr:=(0,0)) (by rw[hu];exact heap_alloc_new w _)
 have HUB:Hid (∀u u':World,u.heap=(w.alloc (.cells #[.int .i64 (c.L.length:Int)] 3)).heap->u.os=w.os->u.tape=w.tape->u.output=w.output->u.grownBy u' (Value.slice vp c.T.length vc).ownBlock->Below B w u'/\(∀m,m<w.heap.size->some m≠tv.ownBlock->u'.heap[m]? =w.heap[m]?)):=fun u u' h1 h2 h3 h4 hg=>by
  have hbu:Below B w u:=⟨h2,h3,h4,by rw[h1];simp,fun k hk=>by rw[h1];exact Below.heap_alloc _ _ _ (by omega)⟩;refine⟨Below.grown (w:=u) hbu hg (by rw[h1];simp;omega) (zAE HOW.out),fun m hm hn=> ?_⟩;rw[hg.block m (by rw[h1];simp;omega) (by rw[<-HVV.out];exact hn),h1];exact Below.heap_alloc _ _ _ hm
 have hQw:Q<w.heap.size:=by omega
 have hQn:Q≠w.heap.size:=by omega
 have hBW:B<=w.heap.size:=by omega
 have HCA:Hid (∀(gg cap':Nat) (w3:World),w3.ownsRow B 3 1 (.slice (some ⟨gg,0,none⟩) (c.T.length+1) cap') (c.T.length+1) (zHD c.T++[.int .i64 (c.L.length:Int)])->((Value.slice vp c.T.length vc).ownBlock=some gg\/gg=w.heap.size+1)->Below B w w3->(∀m,m<w.heap.size->some m≠tv.ownBlock->w3.heap[m]? =w.heap[m]?)->zAP (w3.setCell ⟨Q,1,none⟩ (.slice (some ⟨gg,0,none⟩) (c.T.length+1) cap')) B Q ⟨c.L,c.T++[c.L.length],c.F,c.z⟩ lv (.slice (some ⟨gg,0,none⟩) (c.T.length+1) cap') fv):=fun gg cap' w3 hown3 hat hb3 hb3'=>by
  obtain⟨k0,k1,k2,k3,o0,o1,o2,d01,d02,d12,kf,klt,kle⟩:=HC0.out;have l0:∀g,lv.ownBlock=some g->g<w.heap.size:=fun g hg=>(o0.lt g hg).2
  have lo:∀g,fv.ownBlock=some g->g<w.heap.size:=fun g hg=>(o2.lt g hg).2
  have hgl:∀g,lv.ownBlock=some g->(Value.slice (some ⟨gg,0,none⟩) (c.T.length+1) cap').ownBlock≠some g:=fun g hg hv=>by
   have e:gg=g:=by injection hv
   subst e;rcases hat with q|q
   ·exact d01 gg hg (by rw[HVV.out];exact q)
   ·have hlt:=l0 gg hg
    omega
  have hgo:∀g,(Value.slice (some ⟨gg,0,none⟩) (c.T.length+1) cap').ownBlock=some g->fv.ownBlock≠some g:=fun g hv hg=>by
   have e:gg=g:=by injection hv
   subst e;rcases hat with q|q
   ·exact d12 gg (by rw[HVV.out];exact q) hg
   ·have hlt:=lo gg hg
    omega
  have own':(w3.setCell ⟨Q,1,none⟩ (.slice (some ⟨gg,0,none⟩) (c.T.length+1) cap')).ownsRow B 3 1 (.slice (some ⟨gg,0,none⟩) (c.T.length+1) cap') (c.T++[c.L.length]).length (zHD (c.T++[c.L.length])):=by
   refine zAS (w:=w3) ?_ (fun g hg=> ?_)
   ·rw[List.length_append];unfold zHD at hown3 ⊢;rw[List.map_append];exact hown3
   ·have hgB:B<=g:=zAE hown3 g hg
    exact Below.heap_setCell _ _ _ _ (by show g≠Q;omega)
  have ownL:(w3.setCell ⟨Q,1,none⟩ (.slice (some ⟨gg,0,none⟩) (c.T.length+1) cap')).ownsRow B 250 5 lv c.L.length (zAU c.L):=zAS o0 (fun g hg=>by
   have hgB:B<=g:=zAE o0 g hg;rw[Below.heap_setCell _ _ _ _ (by show g≠Q;omega)];exact hb3' g (l0 g hg) (fun q=>d01 g hg q.symm))
  have ownO:(w3.setCell ⟨Q,1,none⟩ (.slice (some ⟨gg,0,none⟩) (c.T.length+1) cap')).ownsRow B 3 1 fv c.F.length (zHD c.F):=zAS o2 (fun g hg=>by
   have hgB:B<=g:=zAE o2 g hg;rw[Below.heap_setCell _ _ _ _ (by show g≠Q;omega)];exact hb3' g (lo g hg) (fun q=>d12 g q.symm hg))
  have oth:∀i,i≠1->(w3.setCell ⟨Q,1,none⟩ (.slice (some ⟨gg,0,none⟩) (c.T.length+1) cap')).cell? ⟨Q,i,none⟩=w.cell? ⟨Q,i,none⟩:=fun i hi=>by
   rw[World.cell?_setCell_other _ _ _ _ (by intro q;apply hi;injection q with q1 q2;omega)];exact hb3.cell (p:=⟨Q,i,none⟩) klt
  have same:(w3.setCell ⟨Q,1,none⟩ (.slice (some ⟨gg,0,none⟩) (c.T.length+1) cap')).cell? ⟨Q,1,none⟩=some (.slice (some ⟨gg,0,none⟩) (c.T.length+1) cap'):=World.cell?_setCell_same _ _ _ ((hb3.cell (p:=⟨Q,1,none⟩) klt).trans k1);exact⟨(oth 0 (by decide)).trans k0,same,(oth 2 (by decide)).trans k2,(oth 3 (by decide)).trans k3,ownL,own',ownO,hgl,d02,hgo,fun i=>by rw[show(w3.setCell ⟨Q,1,none⟩ (.slice (some ⟨gg,0,none⟩) (c.T.length+1) cap')).frozen? ⟨Q,i,none⟩=w3.frozen? ⟨Q,i,none⟩ by simp];exact(hb3.frozen (p:=⟨Q,i,none⟩) klt).trans (kf i),klt,by simp[World.setCell];have:=hb3.size;omega⟩
 clear o0 o1 o2 d01 d02 d12 kf hlv hvv;go_region_law (refine step_append_lies _ (by rfl) _ _ _ (by rfl) B 3 i0 _ 1 8 Tryz.underlying107 hi0 hz0 hz1 hz2 rfl (by decide) _ c.T.length (zHD c.T) (by rfl) (HOWA.out _ (by rfl)) ⟨w.heap.size,0,none⟩ 1 1 [.int .i64 (c.L.length:Int)] (by rfl) (by rfl) (HNW.out _ (by rfl)) (by simp[Value.oneCell']) (by decide) (by unfold maxLen;omega) (by omega) (by first|omega|(simp;done)|(simp;omega)) (w.heap.size+1) (by simp) ?_;intro gg cap' w3 hown3 hgrow hat hlt3;have HB3:Hid (Below B w w3/\(∀m,m<w.heap.size->some m≠tv.ownBlock->w3.heap[m]? =w.heap[m]?)):=HUB.out _ _ (by rfl) (by rfl) (by rfl) (by rfl) hgrow;have HC3:Hid (zAP _ B Q _ _ _ _):=HCA.out gg cap' w3 hown3 hat HB3.out.1 HB3.out.2;have HG3:Hid (zBj Q w (w3.setCell ⟨Q,1,none⟩ (.slice (some ⟨gg,0,none⟩) (c.T.length+1) cap'))):=zGn (v:=tv) (by decide) hQw HC0.out.c1 ⟨HB3.out.1.os,HB3.out.1.tape,HB3.out.1.output,HB3.out.1.size⟩ HB3.out.2 (hat.elim (fun q=>Or.inl (by rw[HVV.out];exact q)) (fun q=>Or.inr (by omega))) (fun q=>by have:=zAE HC0.out.o1 Q q;omega);clear hgrow hat hown3;have m0:=(HB3.out.1.cell (p:=⟨Q,1,none⟩) hQB).trans k1;have g0:=(HB3.out.1.frozen (p:=⟨Q,1,none⟩) hQB).trans fQ;clear hlt3)
 all_goals
  go_wp2_with (go_at_call 123;refine(zIz B Q _ lv _ fv ⟨op,0,0,0,k⟩ _ HC3.out hl).mono ?_;rintro e w4 ⟨rfl,⟨lv',hC4⟩,hch4⟩);go_end0;exact⟨rfl,⟨lv',_,hC4⟩,HG3.out.trans hch4⟩
def Cod.add (c:Cod) (x:Ins):Cod:=⟨c.L++[x],c.T,c.F,c.z⟩
def Cod.leave (c:Cod) (x:Ins):Cod:=⟨c.L++[x],c.T,c.F++[c.L.length],c.z⟩
def Cod.unless (c:Cod) (x:Ins):Cod:=⟨c.L++[x],c.T++[c.L.length],c.F,c.z⟩
def Cod.sure (c:Cod) (e:Nat):Cod:=if c.z<e then⟨c.L++[⟨9,1,0,0,(e:Int)⟩],c.T,c.F++[c.L.length],e⟩ else c
def zAg (w:World) (B Q:Nat) (c:Cod):Prop:=∃lv tv fv,zAP w B Q c lv tv fv
theorem zAg.below {w w':World} {B Q:Nat} {c:Cod} (h:zAg w B Q c) (hw:Below w.heap.size w w'):zAg w' B Q c:=by
 obtain⟨lv,tv,fv,h⟩:=h;exact⟨lv,tv,fv,h.below hw⟩
structure Cod.Sm (c:Cod) (n:Nat):Prop where
 L:c.L.length<=n
 T:c.T.length<=n
 F:c.F.length<=n
theorem Cod.Sm.add {c:Cod} {n:Nat} (h:c.Sm n) (x:Ins):(c.add x).Sm (n+1):=⟨by have:=h.L;simp[Cod.add];omega,by have:=h.T;simp[Cod.add];omega,by have:=h.F;simp[Cod.add];omega⟩
theorem Cod.Sm.leave {c:Cod} {n:Nat} (h:c.Sm n) (x:Ins):(c.leave x).Sm (n+1):=⟨by have:=h.L;simp[Cod.leave];omega,by have:=h.T;simp[Cod.leave];omega,by have:=h.F;simp[Cod.leave];omega⟩
theorem Cod.Sm.unless {c:Cod} {n:Nat} (h:c.Sm n) (x:Ins):(c.unless x).Sm (n+1):=⟨by have:=h.L;simp[Cod.unless];omega,by have:=h.T;simp[Cod.unless];omega,by have:=h.F;simp[Cod.unless];omega⟩
theorem Cod.Sm.sure {c:Cod} {n:Nat} (h:c.Sm n) (e:Nat):(c.sure e).Sm (n+1):=by
 have:=h.L;have:=h.T;have:=h.F;unfold Cod.sure
 split
 ·exact⟨by simp;omega,by simp;omega,by simp;omega⟩
 ·exact⟨by omega,by omega,by omega⟩
theorem Cod.Sm.mono {c:Cod} {n m:Nat} (h:c.Sm n) (hm:n<=m):c.Sm m:=⟨Nat.le_trans h.L hm,Nat.le_trans h.T hm,Nat.le_trans h.F hm⟩
def zCD (fn:Nat) (args:Array Value) (B Q:Nat) (c c':Cod):Prop:=∀w,zAg w B Q c->Calls Tryz.prog fn args w fun e w'=>e= .returned (.tuple #[])/\zAg w' B Q c'/\zBj Q w w'
theorem zFA (B Q:Nat) (c:Cod) (x:Ins) (hs:c.Sm 3900):zCD 123 #[.pointer (some ⟨Q,0,none⟩),.agg #[.int .u8 x.op,.int .u8 x.r,.int .u8 x.t,.int .u8 x.f,.int .u32 x.k]] B Q c (c.add x):=fun w ⟨lv,tv,fv,h⟩=>
 (zIz B Q c lv tv fv x w h (by have:=hs.L;omega)).mono fun e w' ⟨he,⟨lv',hC⟩,hch⟩=>⟨he,⟨lv',tv,fv,hC⟩,hch⟩
theorem zJv (B Q:Nat) (c:Cod) (x:Ins) (hs:c.Sm 3900):zCD 294 #[.pointer (some ⟨Q,0,none⟩),.agg #[.int .u8 x.op,.int .u8 x.r,.int .u8 x.t,.int .u8 x.f,.int .u32 x.k]] B Q c (c.leave x):=fun w ⟨lv,tv,fv,h⟩=>
 (zMN B Q c lv tv fv x w h (by have:=hs.L;omega) (by have:=hs.T;omega) (by have:=hs.F;omega)).mono fun e w' ⟨he,⟨lv',fv',hC⟩,hch⟩=>⟨he,⟨lv',tv,fv',hC⟩,hch⟩
theorem zCY (B Q:Nat) (c:Cod) (op k:Int) (hs:c.Sm 3900):zCD 293 #[.pointer (some ⟨Q,0,none⟩),.int .u8 op,.int .u32 k] B Q c (c.unless ⟨op,0,0,0,k⟩):=fun w ⟨lv,tv,fv,h⟩=>
 (zI0 B Q c lv tv fv op k w h (by have:=hs.L;omega) (by have:=hs.T;omega) (by have:=hs.F;omega)).mono fun e w' ⟨he,⟨lv',tv',hC⟩,hch⟩=>⟨he,⟨lv',tv',fv,hC⟩,hch⟩
theorem zMO (B Q:Nat) (c:Cod) (v:Nat) (hv:v<=2) (hs:c.Sm 3900):zCD 104 #[.pointer (some ⟨Q,0,none⟩),.int .u8 (v:Int)] B Q c (c.add ⟨0,0,0,0,(v:Int)⟩):=by
 intro w hC;have HA:=hid (zFA B Q c ⟨0,0,0,0,(v:Int)⟩ hs w hC);have hv':(v:Int)<=2:=by omega
 clear hC;go_enter Tryz.func104,Tryz.ntmps104;go_wp2_with (go_at_call 123;refine HA.out.mono ?_;rintro e w1 ⟨rfl,h1,h2⟩);go_end0;exact⟨rfl,h1,h2⟩
theorem zPg (B Q:Nat) (c:Cod) (k:Int) (hs:c.Sm 3900):zCD 307 #[.pointer (some ⟨Q,0,none⟩),.int .u32 k] B Q c (c.add ⟨4,0,0,0,k⟩):=by
 intro w hC;have HA:=hid (zFA B Q c ⟨4,0,0,0,k⟩ hs w hC);clear hC;go_enter Tryz.func307,Tryz.ntmps307;go_wp2_with (go_at_call 123;refine HA.out.mono ?_;rintro e w1 ⟨rfl,h1,h2⟩);go_end0;exact⟨rfl,h1,h2⟩
theorem zMP (B Q:Nat) (c:Cod) (k:Int) (hs:c.Sm 3900):zCD 298 #[.pointer (some ⟨Q,0,none⟩),.int .u32 k] B Q c (c.add ⟨6,0,0,0,k⟩):=by
 intro w hC;have HA:=hid (zFA B Q c ⟨6,0,0,0,k⟩ hs w hC);clear hC;go_enter Tryz.func298,Tryz.ntmps298;go_wp2_with (go_at_call 123;refine HA.out.mono ?_;rintro e w1 ⟨rfl,h1,h2⟩);go_end0;exact⟨rfl,h1,h2⟩
theorem zFB (B Q:Nat) (c:Cod) (op k:Int) (hs:c.Sm 3900):zCD 292 #[.pointer (some ⟨Q,0,none⟩),.int .u8 op,.int .u32 k] B Q c (c.leave ⟨op,0,0,0,k⟩):=by
 intro w hC;have HA:=hid (zJv B Q c ⟨op,0,0,0,k⟩ hs w hC);clear hC;go_enter Tryz.func292,Tryz.ntmps292;go_wp2_with (go_at_call 294;refine HA.out.mono ?_;rintro e w1 ⟨rfl,h1,h2⟩);go_end0;exact⟨rfl,h1,h2⟩
theorem zKh (op k:Nat) (w:World) (hop:op=1\/op=2\/op=3) (hk:k<=100):
 Calls Tryz.prog 204 #[.agg #[.int .u8 (op:Int),.int .u8 0,.int .u8 0,.int .u8 0,.int .u32 (k:Int)]] w fun e w'=>e= .returned (.int .u64 ((k+(if op=1 then 1 else if op=2 then 2 else 4):Nat):Int))/\Below w.heap.size w w':=by
 have hk':(k:Int)<=100:=by omega
 rcases hop with rfl|rfl|rfl
 all_goals
  go_enter Tryz.func204,Tryz.ntmps204;go_wp2;go_ret;exact⟨rfl,bal _ _⟩
theorem zAP.setZ {w:World} {B Q:Nat} {c:Cod} {lv tv fv:Value} (h:zAP w B Q c lv tv fv) (e:Nat):zAP (w.setCell ⟨Q,3,none⟩ (.int .u64 (e:Int))) B Q ⟨c.L,c.T,c.F,e⟩ lv tv fv:=by
 have blk:∀g,B<=g->(w.setCell ⟨Q,3,none⟩ (.int .u64 (e:Int))).heap[g]? =w.heap[g]? :=fun g hg=>Below.heap_setCell _ _ _ _ (by have:=h.lt;show g≠Q;omega)
 exact⟨by rw[World.cell?_setCell_other _ _ _ _ (by simp)];exact h.c0,by rw[World.cell?_setCell_other _ _ _ _ (by simp)];exact h.c1,by rw[World.cell?_setCell_other _ _ _ _ (by simp)];exact h.c2,World.cell?_setCell_same _ _ _ h.c3,zAS h.o0 (fun g hg=>blk g (zAE h.o0 g hg)),zAS h.o1 (fun g hg=>blk g (zAE h.o1 g hg)),zAS h.o2 (fun g hg=>blk g (zAE h.o2 g hg)),h.d01,h.d02,h.d12,fun i=>by simp[h.f],h.lt,by simp[World.setCell];exact h.le⟩
structure Bx (W:World) (Q g:Nat) (vs:Array Value):Prop where
 lt:g<W.heap.size
 free:¬Own W Q g
 c:∀i,W.cell? ⟨g,i,none⟩=vs[i]?
theorem Bx.chgO {W W':World} {Q g:Nat} {vs:Array Value} (h:Bx W Q g vs) (hc:zBj Q W W'):Bx W' Q g vs:=
 ⟨Nat.lt_of_lt_of_le h.lt hc.size,(hc.block g h.lt h.free).2,fun i=>(hc.cell (p:=⟨g,i,none⟩) h.lt h.free).trans (h.c i)⟩
theorem Bx.made {w:World} {B Q:Nat} {c:Cod} (h:zAg w B Q c) (vs:Array Value) (t:TypeId):Bx (w.alloc (.cells vs t)) Q w.heap.size vs:=by
 obtain⟨lv,tv,fv,h⟩:=h;have hQ:Q<w.heap.size:=Nat.lt_of_lt_of_le h.lt h.le;refine⟨by simp,fun q=> ?_,fun i=>by rw[World.cell?_alloc_at _ _ _ _ rfl]⟩;have hq:Own w Q w.heap.size:=by
  rcases q with q|⟨i,v,hi,hc,hv⟩
  ·exact Or.inl q
  ·exact Or.inr ⟨i,v,hi,by rw[World.cell?_alloc_lt _ _ ⟨Q,i,none⟩ hQ] at hc;exact hc,hv⟩
 exact Nat.lt_irrefl _ (h.own_lt hq)
theorem zJw (W:World) (Q:Nat) (v:Value):zBj Q W (W.setCell ⟨Q,3,none⟩ v):=by
 refine⟨rfl,rfl,rfl,by simp[World.setCell],fun m hm hn=>⟨Below.heap_setCell _ _ _ _ (fun q=>hn (Or.inl q)),fun q=>hn ?_⟩⟩;rcases q with q|⟨i,u,hi,hc,hu⟩
 ·exact Or.inl q
 ·rw[World.cell?_setCell_other _ _ _ _ (by intro q;injection q with q1 q2;omega)] at hc
  exact Or.inr ⟨i,u,hi,hc,hu⟩
theorem zAg.lt {w:World} {B Q:Nat} {c:Cod} (h:zAg w B Q c):Q<w.heap.size:=by
 obtain⟨lv,tv,fv,h⟩:=h;exact Nat.lt_of_lt_of_le h.lt h.le
theorem zA2 (w:World) (Q:Nat) (o:Obj) (hQ:Q<w.heap.size):zBj Q w (w.alloc o):=zBj.of (bal _ _) hQ
theorem zGo (B Q:Nat) (c:Cod) (op k e:Nat) (hop:op=1\/op=2\/op=3) (hk:k<=100) (he:e=k+(if op=1 then 1 else if op=2 then 2 else 4)) (hs:c.Sm 3800):zCD 291 #[.pointer (some ⟨Q,0,none⟩),.int .u8 (op:Int),.int .u32 (k:Int)] B Q c ((c.sure e).add ⟨(op:Int),0,0,0,(k:Int)⟩):=by
 intro w hC;have HC:=hid hC;have hQ:=hC.lt;have he4:e<=104:=by rw[he];rcases hop with rfl|rfl|rfl<;>simp<;>omega
 obtain⟨W0,hW0⟩:∃W0,w.alloc (.cells #[.int .u8 (op:Int),.int .u8 0,.int .u8 0,.int .u8 0,.int .u32 (k:Int)] 250)=W0:=⟨_,rfl⟩;have HB0:Hid (Below w.heap.size w W0):=show Below w.heap.size w W0 by rw[<-hW0];exact(Below.refl _ w).alloc (Nat.le_refl _) _
 have HX0:Hid (Bx W0 Q w.heap.size #[.int .u8 (op:Int),.int .u8 0,.int .u8 0,.int .u8 0,.int .u32 (k:Int)]):=show Bx W0 Q w.heap.size _ by rw[<-hW0];exact Bx.made hC _ _
 have HW0:=hid hW0;have hLE:=zKh op k W0 hop hk;rw[<-he] at hLE;have HLE:=hid hLE;have r0:W0.cell? ⟨w.heap.size,0,none⟩=some (.int .u8 (op:Int)):=HX0.out.c 0;have r1:W0.cell? ⟨w.heap.size,1,none⟩=some (.int .u8 0):=HX0.out.c 1;have r2:W0.cell? ⟨w.heap.size,2,none⟩=some (.int .u8 0):=HX0.out.c 2;have r3:W0.cell? ⟨w.heap.size,3,none⟩=some (.int .u8 0):=HX0.out.c 3;have r4:W0.cell? ⟨w.heap.size,4,none⟩=some (.int .u32 (k:Int)):=HX0.out.c 4;clear hW0 hC hLE he hop;go_enter Tryz.func291,Tryz.ntmps291;go_upto_region 1 with fail
 rw[HW0.out];clear HW0;go_upto_region 2 with(go_at_call 204;refine HLE.out.mono ?_;rintro e' W1 ⟨rfl,hb1⟩)
 have hQ0:Q<W0.heap.size:=Nat.lt_of_lt_of_le hQ HB0.out.size;have HG1:Hid (zBj Q w W1):=(zBj.of HB0.out hQ).trans (zBj.of hb1 hQ0);have HC1:Hid (zAg W1 B Q c):=(HC.out.below HB0.out).below hb1;have HX1:Hid (Bx W1 Q w.heap.size #[.int .u8 (op:Int),.int .u8 0,.int .u8 0,.int .u8 0,.int .u32 (k:Int)]):=HX0.out.chgO (zBj.of hb1 hQ0);obtain⟨lv,tv,fv,hcA⟩:=HC1.out;have z3:=hcA.c3;clear hb1 hcA r0 r1 r2 r3 r4 HLE HB0 HX0
 by_cases hz:c.z<e
 ·have HE:Hid (c.sure e=⟨(c.leave ⟨9,1,0,0,(e:Int)⟩).L,(c.leave ⟨9,1,0,0,(e:Int)⟩).T,(c.leave ⟨9,1,0,0,(e:Int)⟩).F,e⟩):=show _=_ by unfold Cod.sure;rw[if_pos hz];rfl
  have hz':(c.z:Int)<(e:Int):=by omega
  have he4':(e:Int)<=104:=by omega
  have HLv:Hid (Calls _ _ _ W1 _):=zJv B Q c ⟨9,1,0,0,(e:Int)⟩ (hs.mono (by decide)) W1 HC1.out;clear hz;go_upto_region 4 with(go_at_call 294;refine HLv.out.mono ?_;rintro e' W2 ⟨rfl,hC2,hG2⟩)
  have HX2:Hid (Bx W2 Q w.heap.size #[.int .u8 (op:Int),.int .u8 0,.int .u8 0,.int .u8 0,.int .u32 (k:Int)]):=HX1.out.chgO hG2;obtain⟨lv2,tv2,fv2,hcB⟩:=hC2;have z2:=hcB.c3;have f2:=hcB.f 3;have HC3:Hid (zAg (W2.setCell ⟨Q,3,none⟩ (.int .u64 (e:Int))) B Q (c.sure e)):=show zAg _ _ _ _ by rw[HE.out];exact⟨lv2,tv2,fv2,hcB.setZ e⟩
  have HX3:Hid (Bx (W2.setCell ⟨Q,3,none⟩ (.int .u64 (e:Int))) Q w.heap.size #[.int .u8 (op:Int),.int .u8 0,.int .u8 0,.int .u8 0,.int .u32 (k:Int)]):=HX2.out.chgO (zJw _ _ _);have HG3:Hid (zBj Q w (W2.setCell ⟨Q,3,none⟩ (.int .u64 (e:Int)))):=(HG1.out.trans hG2).trans (zJw _ _ _);have HAd:Hid (Calls _ _ _ (W2.setCell ⟨Q,3,none⟩ (.int .u64 (e:Int))) _):=zFA B Q (c.sure e) ⟨(op:Int),0,0,0,(k:Int)⟩ ((hs.sure e).mono (by decide)) _ HC3.out;have r0:W2.cell? ⟨w.heap.size,0,none⟩=some (.int .u8 (op:Int)):=HX2.out.c 0;have r1:W2.cell? ⟨w.heap.size,1,none⟩=some (.int .u8 0):=HX2.out.c 1;have r2:W2.cell? ⟨w.heap.size,2,none⟩=some (.int .u8 0):=HX2.out.c 2;have r3:W2.cell? ⟨w.heap.size,3,none⟩=some (.int .u8 0):=HX2.out.c 3;have r4:W2.cell? ⟨w.heap.size,4,none⟩=some (.int .u32 (k:Int)):=HX2.out.c 4;have hne:w.heap.size≠Q:=by omega
  clear hcB hG2 HLv;go_wp2_with (go_at_call 123;refine HAd.out.mono ?_;rintro e' W4 ⟨rfl,hC4,hG4⟩);go_end0;exact⟨rfl,hC4,HG3.out.trans hG4⟩
 ·have HE:Hid (c.sure e=c):=show _=_ by unfold Cod.sure;rw[if_neg hz]
  have hz':(e:Int)<=(c.z:Int):=by omega
  have HAd:Hid (Calls _ _ _ W1 _):=zFA B Q c ⟨(op:Int),0,0,0,(k:Int)⟩ (hs.mono (by decide)) W1 HC1.out;have r0:W1.cell? ⟨w.heap.size,0,none⟩=some (.int .u8 (op:Int)):=HX1.out.c 0;have r1:W1.cell? ⟨w.heap.size,1,none⟩=some (.int .u8 0):=HX1.out.c 1;have r2:W1.cell? ⟨w.heap.size,2,none⟩=some (.int .u8 0):=HX1.out.c 2;have r3:W1.cell? ⟨w.heap.size,3,none⟩=some (.int .u8 0):=HX1.out.c 3;have r4:W1.cell? ⟨w.heap.size,4,none⟩=some (.int .u32 (k:Int)):=HX1.out.c 4;clear hz;go_wp2_with (go_at_call 123;refine HAd.out.mono ?_;rintro e' W4 ⟨rfl,hC4,hG4⟩);go_end0;rw[HE.out];exact⟨rfl,hC4,HG1.out.trans hG4⟩
end Go.Proofs.YtclpnafiiobfhaaGreatDoor

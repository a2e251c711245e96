import Derived.Test.YtclpnafiiobfhaaGreatDoorQ47
set_option linter.unusedVariables false
set_option linter.unusedSimpArgs false
set_option maxRecDepth 20000
set_option maxHeartbeats 6400000
namespace Go.Proofs.YtclpnafiiobfhaaGreatDoor
open Go.RowKit
def zG7 (F:List Fl) (h:Hd):Int:=match zBS F h with
 |some i=>(i:Int)
 |none=> -1
def zIM (F:List Fl) (h:Hd):Nat:=match zBS F h with
 |some i=>zBo (F.getD i fl0) h
 |none=>0
theorem zAn {w:World} {base size n:Nat} {e:TypeId} {v:Value} {xs:List Value} (h:w.ownsRow base e size v n xs):∃p c,v= .slice p n c:=by
 rcases h.2 with⟨q,e⟩|⟨g,cap,cur,q,_⟩
 ·exact⟨none,0,by rw[q,e]⟩
 ·exact⟨_,cap,q⟩
section
variable {D : Nat} {rv fv : Value} {R : Option Bk} {room now : Nat} {F : List Fl} {cA cD cR cM : Nat}
theorem zAQ.flow {W:World} (h:zAQ W D rv fv R room now F cA cD cR cM) {i:Nat} {x:Fl} (hx:F[i]? =some x):∃g c,fv= .slice (some ⟨g,0,none⟩) F.length c/\g<W.heap.size/\∀k v,x.l[k]? =some v->W.cell? ⟨g,i*8+k,none⟩=some v:=by
 have hi:i<F.length:=(List.getElem?_eq_some_iff.1 hx).1;have hf:=h.flows;rcases hf.2 with⟨_,e⟩|⟨g,c,cur,rfl,_,e3,_⟩
 ·omega
 ·exact⟨g,c,rfl,(Array.getElem?_eq_some_iff.1 e3).1,fun k v hv=>zJT hf rfl i x hx k v hv⟩
theorem zGQ (W:World) (h:zAQ W D rv fv R room now F cA cD cR cM) (hF:F.length<=64) (hd:Hd):
 Calls Tryz.prog 112 #[.pointer (some ⟨D,0,none⟩),.agg hd.cells] W fun e w'=>e= .returned (.tuple #[.int .i64 (zG7 F hd),.int .i64 (zIM F hd:Int)])/\Below W.heap.size W w':=by
 have HH:=hid h;have HF:Hid (∀(x:Fl) (V:World),Calls Tryz.prog 132 #[.agg x.cells,.agg hd.cells] V fun e w'=>e= .returned (.int .i64 (zBo x hd:Int))/\Below V.heap.size V w'):=fun x V=>zNe x hd V
 have HI:Hid (∀(j:Nat) (x:Fl),F[j]? =some x->(∀(k:Nat) (y:Fl),k<j->F[k]? =some y->zBo y hd=0)->zBo x hd≠0->zG7 F hd=(j:Int)/\zIM F hd=zBo x hd):=fun j x hx h0 h1=>by
  unfold zG7 zIM;rw[zPI hx h0 h1];refine⟨rfl,?_⟩
  show zBo (F.getD j fl0) hd=_
  rw[List.getD_eq_getElem?_getD,hx];rfl
 have HN:Hid ((∀(k:Nat) (y:Fl),k<F.length->F[k]? =some y->zBo y hd=0)->zG7 F hd= -1/\zIM F hd=0):=fun h0=>by
  unfold zG7 zIM;rw[zNf h0];exact⟨rfl,rfl⟩
 obtain⟨a,b,p,s,d,fl⟩:=hd;obtain⟨pp,cc,hfv⟩:=zAn h.flows;have hD:=h.blk.lt;have hDn:D≠W.heap.size:=Nat.ne_of_lt hD;generalize zG7 F ⟨a,b,p,s,d,fl⟩=iD at HI HN ⊢;generalize zIM F ⟨a,b,p,s,d,fl⟩=wD at HI HN ⊢;clear h;dsimp only[Hd.cells] at HF ⊢;go_enter Tryz.func112,Tryz.ntmps112;go_wp2_with fail;have HB0:Hid (Below W.heap.size W (W.alloc (.cells #[.int .u32 a,.int .u32 b,.int .u8 p,.int .u16 s,.int .u16 d,.int .u8 fl] 38))):=bal _ _;have HHd:Hid (∀i x,(#[.int .u32 a,.int .u32 b,.int .u8 p,.int .u16 s,.int .u16 d,.int .u8 fl]:Array Value)[i]? =some x->(W.alloc (.cells #[.int .u32 a,.int .u32 b,.int .u8 p,.int .u16 s,.int .u16 d,.int .u8 fl] 38)).cell? ⟨W.heap.size,i,none⟩=some x):=fun i x hx=>by
  rw[World.cell?_alloc_at _ _ _ _ rfl];exact hx
 have hz1:(W.alloc (.cells #[.int .u32 a,.int .u32 b,.int .u8 p,.int .u16 s,.int .u16 d,.int .u8 fl] 38)).heap.size=W.heap.size+1:=by simp
 generalize W.alloc (.cells #[.int .u32 a,.int .u32 b,.int .u8 p,.int .u16 s,.int .u16 d,.int .u8 fl] 38)=W1 at HB0 HHd hz1 ⊢;go_loopw [6] (fun i wr=>∃j:Nat,j<=F.length/\i= .int .i64 j/\(∀k y,k<j->F[k]? =some y->zBo y ⟨a,b,p,s,d,fl⟩=0)/\Below W1.heap.size W1 wr) (fun i _=>F.length-(intOf i).toNat)
 case atStart=>exact⟨0,Nat.zero_le _,rfl,fun k _ hk=>absurd hk (by omega),Below.refl _ _⟩
 case round=>
  obtain⟨j,hj,rfl,hz,hbr⟩:=hrel;have HZ:=hid hz;have HBr:=hid hbr;have c5:wr.cell? ⟨D,5,none⟩=some (.slice pp F.length cc):=by rw[<-hfv];exact(hbr.cell (p:=⟨D,5,none⟩) (by show D<_;omega)).trans ((HB0.out.cell (p:=⟨D,5,none⟩) hD).trans (HH.out.blk.cell 5 _ rfl))
  have hz3:=hbr.size
  by_cases hlt:j<F.length
  ·obtain⟨x,hx⟩:∃x,F[j]? =some x:=⟨_,List.getElem?_eq_getElem hlt⟩
   have HX:=hid hx;obtain⟨g,c,e,hg,hc⟩:=HH.out.flow hx;rw[hfv] at e;cases e;have HC:Hid (∀k v,x.l[k]? =some v->wr.cell? ⟨g,j*8+k,none⟩=some v):=fun k v hv=>(hbr.cell (p:=⟨g,j*8+k,none⟩) (by show g<_;omega)).trans ((HB0.out.cell (p:=⟨g,j*8+k,none⟩) hg).trans (hc k v hv))
   have g0:=(hbr.cell (p:=⟨W.heap.size,0,none⟩) (by show W.heap.size<_;omega)).trans (HHd.out 0 _ rfl);have g1:=(hbr.cell (p:=⟨W.heap.size,1,none⟩) (by show W.heap.size<_;omega)).trans (HHd.out 1 _ rfl);have g2:=(hbr.cell (p:=⟨W.heap.size,2,none⟩) (by show W.heap.size<_;omega)).trans (HHd.out 2 _ rfl);have g3:=(hbr.cell (p:=⟨W.heap.size,3,none⟩) (by show W.heap.size<_;omega)).trans (HHd.out 3 _ rfl);have g4:=(hbr.cell (p:=⟨W.heap.size,4,none⟩) (by show W.heap.size<_;omega)).trans (HHd.out 4 _ rfl);have g5:=(hbr.cell (p:=⟨W.heap.size,5,none⟩) (by show W.heap.size<_;omega)).trans (HHd.out 5 _ rfl);have HFX:Hid (∀V:World,Below wr.heap.size wr V->Calls Tryz.prog 132 #[.agg x.cells,.agg #[.int .u32 a,.int .u32 b,.int .u8 p,.int .u16 s,.int .u16 d,.int .u8 fl]] V fun e w'=>e= .returned (.int .i64 (zBo x ⟨a,b,p,s,d,fl⟩:Int))/\Below wr.heap.size wr w'):=fun V hb=>(HF.out x V).mono fun e w' z=>⟨z.1,hb.trans (z.2.mono hb.size)⟩
   obtain⟨k,hk⟩:∃k,zBo x ⟨a,b,p,s,d,fl⟩=k:=⟨_,rfl⟩;have HK:=hid hk;rw[hk] at HFX;obtain⟨x1,x2,x3,x4,x5,x6,x7,x8⟩:=x;have e0:=HC.out 0 _ rfl;have e1:=HC.out 1 _ rfl;have e2:=HC.out 2 _ rfl;have e3:=HC.out 3 _ rfl;have e4:=HC.out 4 _ rfl;have e5:=HC.out 5 _ rfl;have e6:=HC.out 6 _ rfl;have e7:=HC.out 7 _ rfl;have i1:(0:Int)<=(j:Int):=by omega
   have i2:(j:Int)<(F.length:Int):=by omega
   have i3:IntKind.i64.wrap ((j:Int)+1)=(j:Int)+1:=by rw[IntKind.wrap_i64];omega
   dsimp only[Fl.cells] at HFX e0 e1 e2 e3 e4 e5 e6 e7;rw[Nat.add_zero] at e0;have hDr:D<wr.heap.size:=by omega
   have hgr:g<wr.heap.size:=by omega
   have hWr:W.heap.size<wr.heap.size:=by omega
   have SOF:Hid (∀w':World,Below wr.heap.size wr w'->(Below wr.heap.size wr w'/\w'.cell? ⟨D,5,none⟩=some (.slice (some ⟨g,0,none⟩) F.length cc)/\w'.cell? ⟨g,j*8,none⟩=some (.int .u32 x1)/\w'.cell? ⟨g,j*8+1,none⟩=some (.int .u32 x2)/\w'.cell? ⟨g,j*8+2,none⟩=some (.int .u8 x3)/\w'.cell? ⟨g,j*8+3,none⟩=some (.int .u16 x4)/\w'.cell? ⟨g,j*8+4,none⟩=some (.int .u16 x5)/\w'.cell? ⟨g,j*8+5,none⟩=some (.bool x6)/\w'.cell? ⟨g,j*8+6,none⟩=some (.bool x7)/\w'.cell? ⟨g,j*8+7,none⟩=some (.int .u64 (x8:Int))/\w'.cell? ⟨W.heap.size,0,none⟩=some (.int .u32 a)/\w'.cell? ⟨W.heap.size,1,none⟩=some (.int .u32 b)/\w'.cell? ⟨W.heap.size,2,none⟩=some (.int .u8 p)/\w'.cell? ⟨W.heap.size,3,none⟩=some (.int .u16 s)/\w'.cell? ⟨W.heap.size,4,none⟩=some (.int .u16 d)/\w'.cell? ⟨W.heap.size,5,none⟩=some (.int .u8 fl))):=fun w' hb=>⟨hb,(hb.cell (p:=⟨D,5,none⟩) hDr).trans c5,(hb.cell (p:=⟨g,j*8,none⟩) hgr).trans e0,(hb.cell (p:=⟨g,j*8+1,none⟩) hgr).trans e1,(hb.cell (p:=⟨g,j*8+2,none⟩) hgr).trans e2,(hb.cell (p:=⟨g,j*8+3,none⟩) hgr).trans e3,(hb.cell (p:=⟨g,j*8+4,none⟩) hgr).trans e4,(hb.cell (p:=⟨g,j*8+5,none⟩) hgr).trans e5,(hb.cell (p:=⟨g,j*8+6,none⟩) hgr).trans e6,(hb.cell (p:=⟨g,j*8+7,none⟩) hgr).trans e7,(hb.cell (p:=⟨W.heap.size,0,none⟩) hWr).trans g0,(hb.cell (p:=⟨W.heap.size,1,none⟩) hWr).trans g1,(hb.cell (p:=⟨W.heap.size,2,none⟩) hWr).trans g2,(hb.cell (p:=⟨W.heap.size,3,none⟩) hWr).trans g3,(hb.cell (p:=⟨W.heap.size,4,none⟩) hWr).trans g4,(hb.cell (p:=⟨W.heap.size,5,none⟩) hWr).trans g5⟩
   clear hz hbr hx hc HC hk;go_upto_region 4 with fail
   go_cut [7] from 17 to 25 (fun x w'=>x= .int .i64 (k:Int)/\Below wr.heap.size wr w')
   case first=>
    go_region_held3 (fun w'=>Below wr.heap.size wr w'/\w'.cell? ⟨D,5,none⟩=some (.slice (some ⟨g,0,none⟩) F.length cc)/\w'.cell? ⟨g,j*8,none⟩=some (.int .u32 x1)/\w'.cell? ⟨g,j*8+1,none⟩=some (.int .u32 x2)/\w'.cell? ⟨g,j*8+2,none⟩=some (.int .u8 x3)/\w'.cell? ⟨g,j*8+3,none⟩=some (.int .u16 x4)/\w'.cell? ⟨g,j*8+4,none⟩=some (.int .u16 x5)/\w'.cell? ⟨g,j*8+5,none⟩=some (.bool x6)/\w'.cell? ⟨g,j*8+6,none⟩=some (.bool x7)/\w'.cell? ⟨g,j*8+7,none⟩=some (.int .u64 (x8:Int))/\w'.cell? ⟨W.heap.size,0,none⟩=some (.int .u32 a)/\w'.cell? ⟨W.heap.size,1,none⟩=some (.int .u32 b)/\w'.cell? ⟨W.heap.size,2,none⟩=some (.int .u8 p)/\w'.cell? ⟨W.heap.size,3,none⟩=some (.int .u16 s)/\w'.cell? ⟨W.heap.size,4,none⟩=some (.int .u16 d)/\w'.cell? ⟨W.heap.size,5,none⟩=some (.int .u8 fl)) ((go_split_ands;refine SOF.out _ ?_;with_reducible first|assumption|exact Below.drew (Below.refl _ _)|exact Below.drew (by with_reducible assumption))) ((go_at_call 132;refine(HFX.out _ (by with_reducible first|assumption|exact Below.drew (Below.refl _ _)|exact Below.drew (by with_reducible assumption))).mono ?_;rintro e w2 ⟨rfl,hb2⟩))
    all_goals
     go_wp2_with fail;go_meet;exact⟨rfl,by assumption⟩
   obtain⟨rfl,hb2⟩:=hcut;have HB2:=hid hb2;clear hb2 SOF e0 e1 e2 e3 e4 e5 e6 e7 g0 g1 g2 g3 g4 g5
   by_cases hk0:k=0
   ·have q:¬(0:Int)<(k:Int):=by omega
    go_wp2_with fail;go_roundw
    case measure=>simp[intOf];omega
    case rel=>
     refine⟨j+1,by omega,by simp,fun k' y hk' hy=> ?_,HBr.out.trans (HB2.out.mono HBr.out.size)⟩
     by_cases e:k'=j
     ·subst e
      have:=HX.out;rw[hy] at this;cases this;rw[HK.out];exact hk0
     ·exact HZ.out k' y (by omega) hy
   ·have q:(0:Int)<(k:Int):=by omega
    go_wp2_with fail;go_ret2;obtain⟨r1,r2⟩:=HI.out j _ HX.out HZ.out (by rw[HK.out];exact hk0);exact⟨by rw[r1,r2,HK.out];rfl,HB0.out.trans ((HBr.out.trans (HB2.out.mono HBr.out.size)).mono HB0.out.size)⟩
  ·obtain rfl:j=F.length:=by omega
   have i2:¬(F.length:Int)<(F.length:Int):=by omega
   clear hz hbr;go_wp2_with fail;go_ret2;obtain⟨r1,r2⟩:=HN.out HZ.out;exact⟨by rw[r1,r2];rfl,HB0.out.trans (HBr.out.mono HB0.out.size)⟩
theorem zIN (W:World) (h:zAQ W D rv fv R room now F cA cD cR cM) (hd:Hd) (i:Nat) (x:Fl) (hx:F[i]? =some x) (way:Nat):
 Calls Tryz.prog 113 #[.pointer (some ⟨D,0,none⟩),.agg hd.cells,.int .i64 (i:Int),.int .i64 (way:Int)] W fun e w'=>e= .returned (.int .u8 (if x.rep=true\/way=2 then 1 else 0))/\Below W.heap.size W w':=by
 obtain⟨a,b,p,s,d,fl⟩:=hd;obtain⟨g,c,e,hg,hc⟩:=h.flow hx;have hi:i<F.length:=(List.getElem?_eq_some_iff.1 hx).1;have c5:W.cell? ⟨D,5,none⟩=some (.slice (some ⟨g,0,none⟩) F.length c):=by rw[<-e];exact h.blk.cell 5 _ rfl
 have hD:=h.blk.lt;have hDn:D≠W.heap.size:=Nat.ne_of_lt hD;have hgn:g≠W.heap.size:=Nat.ne_of_lt hg;have e5:=hc 5 _ rfl;have i1:(0:Int)<=(i:Int):=by omega
 have i2:(i:Int)<(F.length:Int):=by omega
 clear h hc hx e;obtain⟨x1,x2,x3,x4,x5,x6,x7,x8⟩:=x;dsimp only at e5 ⊢;cases x6 with
 |true=>
  rw[if_pos (.inl rfl)];go_enter Tryz.func113,Tryz.ntmps113;go_wp2_with fail;go_ret;exact⟨rfl,bal _ _⟩
 |false=>
  by_cases hw:way=2
  ·rw[if_pos (.inr hw)]
   have q:((way:Int) == 2)=true:=by simp;omega
   go_enter Tryz.func113,Tryz.ntmps113;go_wp2_with fail;go_ret;exact⟨rfl,bal _ _⟩
  ·rw[if_neg (fun q=>q.elim (fun q=>by cases q) hw)]
   have q:((way:Int) == 2)=false:=by simp;omega
   go_enter Tryz.func113,Tryz.ntmps113;go_wp2_with fail;go_ret;exact⟨rfl,bal _ _⟩
theorem zJU (W:World) (hd:Hd) (hf:0<=hd.f/\hd.f<=255):
 Calls Tryz.prog 113 #[.pointer (some ⟨D,0,none⟩),.agg hd.cells,.int .i64 (-1),.int .i64 0] W fun e w'=>e= .returned (.int .u8 (zBR none hd:Int))/\Below W.heap.size W w':=by
 obtain⟨a,b,p,s,d,f⟩:=hd;dsimp only at hf;obtain⟨F,rfl⟩:∃F:Nat,f=(F:Int):=⟨f.toNat,by omega⟩;have i1:bits BinOp.and IntKind.u8 (F:Int) 23=((F&&& 23:Nat):Int):=zKA F 23 (by omega) (by decide);have HE:Hid (zBR none ⟨a,b,p,s,d,(F:Int)⟩=if p=6/\F&&& 23≠2 then 2 else 0):=show zBR none ⟨a,b,p,s,d,(F:Int)⟩=_ by
  unfold zBR zDw;simp only[Int.toNat_natCast]
  by_cases h1:p=6<;>by_cases h2:F&&& 23=2<;>simp[h1,h2]
 by_cases h1:p=6
 ·have q1:(p == 6)=true:=by simpa using h1
  by_cases h2:F&&& 23=2
  ·have q2:((((F&&& 23:Nat):Int)) !=2)=false:=by rw[h2];rfl
   rw[if_neg (fun q=>q.2 h2)] at HE;generalize ((F&&& 23:Nat):Int)=x at i1 q2;clear h1 h2 hf;go_enter Tryz.func113,Tryz.ntmps113;go_wp2_with fail;go_ret;exact⟨by rw[HE.out];rfl,bal _ _⟩
  ·have q2:((((F&&& 23:Nat):Int)) !=2)=true:=by simp;omega
   rw[if_pos ⟨h1,h2⟩] at HE;generalize ((F&&& 23:Nat):Int)=x at i1 q2;clear h1 h2 hf;go_enter Tryz.func113,Tryz.ntmps113;go_wp2_with fail;go_ret;exact⟨by rw[HE.out];rfl,bal _ _⟩
 ·have q1:(p == 6)=false:=by simpa using h1
  rw[if_neg (fun q=>h1 q.1)] at HE;clear h1 hf;go_enter Tryz.func113,Tryz.ntmps113;go_wp2_with fail;go_ret;exact⟨by rw[HE.out];rfl,bal _ _⟩
theorem zGR (W:World) (h:zAQ W D rv fv R room now F cA cD cR cM) (hd:Hd) (hf:0<=hd.f/\hd.f<=255):
 Calls Tryz.prog 113 #[.pointer (some ⟨D,0,none⟩),.agg hd.cells,.int .i64 (zG7 F hd),.int .i64 (zIM F hd:Int)] W fun e w'=>e= .returned (.int .u8 (zA6 F hd:Int))/\Below W.heap.size W w':=by
 unfold zG7 zIM zA6;cases hq:zBS F hd with
 |none=>exact zJU W hd hf
 |some i=>
  have h1:=hq;unfold zBS at h1;rw[List.findIdx?_eq_some_iff_getElem] at h1;obtain⟨hi,h2,_⟩:=h1;have hx:F[i]? =some (F.getD i fl0):=by rw[List.getD_eq_getElem?_getD,List.getElem?_eq_getElem hi];rfl
  have eF:F.getD i fl0=F[i]:=by rw[List.getD_eq_getElem?_getD,List.getElem?_eq_getElem hi];rfl
  refine(zIN W h hd i _ hx (zBo (F.getD i fl0) hd)).mono fun e w' z=>⟨?_,z.2⟩
  rw[z.1];have hne:zBo (F.getD i fl0) hd≠0:=by rw[eF];simpa using h2
  show _=Ending.returned (.int .u8 ((if((F.getD i fl0).rep||zC7 (F.getD i fl0) hd)=true then 1 else 0:Nat):Int))
  rw[zHv hne];simp only[Bool.or_eq_true,decide_eq_true_eq]
  split<;>rfl
end
theorem zNh (now:Nat) (F:List Fl) (j:Nat) (x:Fl) (hx:F[j]? =some x):zA9 now (F.take (j+1))=zA9 now (F.take j)++(if now<x.u then[x] else[]):=by
 unfold zA9;rw[List.take_add_one,hx,List.filter_append]
 congr 1
 by_cases h:now<x.u<;>simp[h]
section
variable {D : Nat} {rv fv : Value} {R : Option Bk} {room now : Nat} {F : List Fl} {cA cD cR cM : Nat}
theorem zNi (W:World) (h:zAQ W D rv fv R room now F cA cD cR cM) (hF:F.length<=64) (hn:now<=zCr) (n:Nat) (hn2:n<=zCr):
 Calls Tryz.prog 58 #[.pointer (some ⟨D,0,none⟩),.int .u64 (n:Int)] W fun e w'=>e= .returned (.tuple #[])/\∃fv',zAQ w' D rv fv' R room (zBO now n) (zA9 (zBO now n) F) cA cD cR cM/\Trn (fun x=>x=D) W w'/\∀x,fv'.ownBlock=some x->W.heap.size<=x:=by
 have HH:=hid h;have HP:Hid (∀V:World,Calls Tryz.prog 88 #[.int .u64 (now:Int),.int .u64 (n:Int)] V fun e w'=>e= .returned (.int .u64 (zBO now n:Int))/\w'=V):=fun V=>zIK now n V hn hn2
 generalize zBO now n=N at HP ⊢;obtain⟨pp,cc,hfv⟩:=zAn h.flows;have hD:=h.blk.lt;have c4:=h.blk.cell 4 _ rfl;have f4:=h.blk.frozen 4;obtain⟨i0,hi0,hz0,hz1,hz2⟩:=zEo Tryz.infoFl;clear h hn hn2;go_enter Tryz.func58,Tryz.ntmps58;go_wp2_with (go_at_call 88;refine(HP.out _).mono ?_;rintro e w1 ⟨rfl,h1⟩;obtain rfl:W=w1:=h1.symm;clear h1);have H1:Hid (zAQ (W.setCell ⟨D,4,none⟩ (.int .u64 (N:Int))) D rv fv R room N F cA cD cR cM):=⟨HH.out.blk.set 4 _,HH.out.rules.keep (Trn.setCell (S:=fun x=>x=D) W D 4 _ rfl) (fun x q=>(HH.out.rv_ne x q).1),zAr HH.out.flows (Trn.setCell (S:=fun x=>x=D) W D 4 _ rfl) (fun x q e=>HH.out.fv_ne (e▸q))⟩;have T1:Hid (Trn (fun x=>x=D) W (W.setCell ⟨D,4,none⟩ (.int .u64 (N:Int)))):=Trn.setCell (S:=fun x=>x=D) W D 4 _ rfl;have hz:(W.setCell ⟨D,4,none⟩ (.int .u64 (N:Int))).heap.size=W.heap.size:=by simp[World.setCell]
 clear c4 f4;generalize W.setCell ⟨D,4,none⟩ (.int .u64 (N:Int))=W1 at H1 T1 hz ⊢;go_loopw [4,5] (fun l i wr=>∃j:Nat,j<=F.length/\i= .int .i64 j/\wr.ownsRow W1.heap.size 197 8 l (zA9 N (F.take j)).length (zAV (zA9 N (F.take j)))/\Below W1.heap.size W1 wr) (fun _ i _=>F.length-(intOf i).toNat)
 case atStart=>exact⟨0,Nat.zero_le _,rfl,World.ownsRow_nil _ _ _ _,Below.refl _ _⟩
 case round=>
  obtain⟨j,hj,rfl,hown,hbr⟩:=hrel;have HO:=hid hown;have HBr:=hid hbr;have c5:wr.cell? ⟨D,5,none⟩=some (.slice pp F.length cc):=by rw[<-hfv];exact(hbr.cell (p:=⟨D,5,none⟩) (by show D<_;omega)).trans (H1.out.blk.cell 5 _ rfl)
  have c4:=(hbr.cell (p:=⟨D,4,none⟩) (by show D<_;omega)).trans (H1.out.blk.cell 4 _ rfl);have f5:=(hbr.frozen (p:=⟨D,5,none⟩) (by show D<_;omega)).trans (H1.out.blk.frozen 5);have hz3:=hbr.size;have hDn:D≠wr.heap.size:=by omega
  have hal:(zA9 N (F.take j)).length<=64:=by
   have h1:=List.length_filter_le (fun f:Fl=>decide (N<f.u)) (F.take j);have h2:=List.length_take_le j F;unfold zA9;omega
  by_cases hlt:j<F.length
  ·obtain⟨x,hx⟩:∃x,F[j]? =some x:=⟨_,List.getElem?_eq_getElem hlt⟩
   have HX:Hid (zA9 N (F.take (j+1))=zA9 N (F.take j)++(if N<x.u then[x] else[])):=zNh N F j x hx;obtain⟨g,c,e,hg,hc⟩:=H1.out.flow hx;rw[hfv] at e;cases e;have HC:Hid (∀k v,x.l[k]? =some v->wr.cell? ⟨g,j*8+k,none⟩=some v):=fun k v hv=>(hbr.cell (p:=⟨g,j*8+k,none⟩) hg).trans (hc k v hv)
   have hgn:g≠wr.heap.size:=by omega
   obtain⟨x1,x2,x3,x4,x5,x6,x7,x8⟩:=x;have e0:=HC.out 0 _ rfl;have e1:=HC.out 1 _ rfl;have e2:=HC.out 2 _ rfl;have e3:=HC.out 3 _ rfl;have e4:=HC.out 4 _ rfl;have e5:=HC.out 5 _ rfl;have e6:=HC.out 6 _ rfl;have e7:=HC.out 7 _ rfl;have i1:(0:Int)<=(j:Int):=by omega
   have i2:(j:Int)<(F.length:Int):=by omega
   have i3:IntKind.i64.wrap ((j:Int)+1)=(j:Int)+1:=by rw[IntKind.wrap_i64];omega
   dsimp only at e0 e1 e2 e3 e4 e5 e6 e7 HX;rw[Nat.add_zero] at e0;clear hown hbr hx hc HC
   by_cases hk0:N<x8
   ·have q:(N:Int)<(x8:Int):=by omega
    have HX2:Hid (zAV (zA9 N (F.take (j+1)))=zAV (zA9 N (F.take j))++[.int .u32 x1,.int .u32 x2,.int .u8 x3,.int .u16 x4,.int .u16 x5,.bool x6,.bool x7,.int .u64 (x8:Int)]/\(zA9 N (F.take (j+1))).length=(zA9 N (F.take j)).length+1):=show _/\_ by rw[HX.out,if_pos hk0];exact⟨zFa _ _,by simp⟩
    go_upto_region 5 with fail
    go_big_region;go_wp2_with (at_builtin;refine wpList_append_lies _ rfl _ _ 128 rfl W1.heap.size 197 i0 _ 8 24 Tryz.underlying128 hi0 hz0 hz1 hz2 rfl (by decide) u4 _ _ rfl (HO.out.drew.alloc _) ⟨wr.heap.size,0,none⟩ 1 1 [.int .u32 x1,.int .u32 x2,.int .u8 x3,.int .u16 x4,.int .u16 x5,.bool x6,.bool x7,.int .u64 (x8:Int)] rfl rfl (zFb _ _ _) (by simp[Value.oneCell']) (by decide) (by unfold maxLen;omega) (by omega) (by simp;omega) (wr.heap.size+1) (by simp) ?_;intro gg cap' w6 hown6 hgrow6 hat6 hlt6;have HB6:Hid (Below W1.heap.size W1 w6):=(Below.grown (w:=wr.drew.alloc _) (HBr.out.drew.alloc hz3 _) hgrow6 (by simp;omega) (zAE HO.out));have HO6:=hid hown6;clear hown6 hgrow6 hat6 hlt6);go_roundw
    case measure=>simp[intOf];omega
    case rel=>exact⟨j+1,by omega,by simp,by rw[HX2.out.1,HX2.out.2];exact HO6.out,HB6.out⟩
   ·have q:¬(N:Int)<(x8:Int):=by omega
    go_upto_region 5 with fail
    go_big_region;go_wp2_with fail;go_roundw
    case measure=>simp[intOf];omega
    case rel=>exact⟨j+1,by omega,by simp,by rw[HX.out,if_neg hk0,List.append_nil];exact HO.out.drew,HBr.out.drew⟩
  ·obtain rfl:j=F.length:=by omega
   rw[List.take_length] at HO;have i2:¬(F.length:Int)<(F.length:Int):=by omega
   clear hown hbr;obtain⟨lp,lc,hl⟩:=zAn HO.out;obtain⟨ln,hln⟩:∃ln,(zA9 N F).length=ln:=⟨_,rfl⟩;rw[hln] at hl;subst hl;go_wp2_with fail;go_end0;have HD:zAQ wr D rv fv R room N F cA cD cR cM:=H1.out.below HBr.out;refine⟨rfl,.slice lp ln lc,⟨HD.blk.set 5 (.slice lp ln lc),HD.rules.keep (Trn.setCell (S:=fun x=>x=D) wr D 5 (.slice lp ln lc) rfl) (fun x q=>(HD.rv_ne x q).1),?_⟩,(T1.out.trans (Trn.below HBr.out) (fun _ _ q=>q)).trans (Trn.setCell (S:=fun x=>x=D) wr D 5 (.slice lp ln lc) rfl) (fun _ _ q=>q),fun x q=> ?_⟩
   ·have:=zAr (zIL HO.out (Nat.zero_le _)) (Trn.setCell (S:=fun x=>x=D) wr D 5 (.slice lp ln lc) rfl) (fun x q e=>by have:=(HO.out.lt x q).1;omega)
    exact this
   ·have:=(HO.out.lt x q).1;omega
end
end Go.Proofs.YtclpnafiiobfhaaGreatDoor

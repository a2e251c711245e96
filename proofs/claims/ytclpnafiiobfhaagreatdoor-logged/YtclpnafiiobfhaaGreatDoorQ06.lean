import Derived.Test.YtclpnafiiobfhaaGreatDoorQ05
set_option linter.unusedVariables false
set_option linter.unusedSimpArgs false
set_option maxRecDepth 20000
set_option maxHeartbeats 6400000
namespace Go.Proofs.YtclpnafiiobfhaaGreatDoor
open Go.RowKit
def zBE (l:List Rl):List Value:=l.flatMap fun r=>zAC (r.v:Int) r.cs
theorem zGj (l:List Rl) (r:Rl):zBE (l++[r])=zBE l++zAC (r.v:Int) r.cs:=by simp[zBE]
theorem zJq:∀(l:List Value) (k:Nat) (A:Array Value) (i:Nat),k+l.length<=A.size->((l.zipIdx k).foldl (fun cs p=>cs.setIfInBounds (0+p.2) p.1) A)[i]? =if k<=i/\i<k+l.length then l[i-k]? else A[i]?
 |[],k,A,i,_=>by
  rw[if_neg (by simp)];rfl
 |x::l,k,A,i,h=>by
  rw[List.length_cons] at h;rw[List.zipIdx_cons,List.foldl_cons,zJq l (k+1) _ i (by simp;omega)];simp only[Nat.zero_add,List.length_cons]
  by_cases h1:k+1<=i/\i<k+1+l.length
  ·rw[if_pos h1,if_pos (by omega),show i-k=(i-(k+1))+1 by omega,List.getElem?_cons_succ]
  ·rw[if_neg h1]
   by_cases h2:i=k
   ·subst h2
    rw[if_pos (by omega),Nat.sub_self,List.getElem?_cons_zero,Array.getElem?_setIfInBounds,if_pos rfl,if_pos (by omega)]
   ·rw[if_neg (by omega),Array.getElem?_setIfInBounds,if_neg (fun q=>h2 q.symm)]
theorem zMF (z:Array Value) (L:List Value) (hl:L.length=24) (hz:z.size=24):Instr.fill (fun i=>some (i*24,24)) z [(0,.agg L.toArray)]=some L.toArray:=by
 unfold Instr.fill;simp only[Value.cells,List.size_toArray,hl,hz];rw[if_neg (by decide)];unfold Instr.fill
 congr 1
 apply Array.ext_getElem?
 intro i;rw[<-Array.foldl_toList];simp only[Array.toList_zipIdx];have:=zJq L 0 z i (by omega);simp only[Nat.zero_mul];rw[this]
 by_cases h:0<=i/\i<0+L.length
 ·rw[if_pos h];simp
 ·rw[if_neg h]
  rw[Array.getElem?_eq_none (by omega),List.getElem?_toArray,List.getElem?_eq_none (by omega)]
theorem Tryz.infoDRule:(Tryz.prog.info? 65).map (fun i=>(i.zero,i.size,i.bytes))=some (some (.agg (zAC 0 zAq).toArray),24,120):=by kernel_rfl
theorem zMG (L:List Value) (hl:L.length=24) (f:Nat×Operand->Nat×Value) (x:Operand) (hf:f (0,x)=(0,.agg L.toArray)):Tryz.prog.builtSlice 65 1 ((#[(0,x)]:Array (Nat×Operand)).map f).toList=some L.toArray:=by
 obtain⟨i0,hi0,hz0,hz1,hz2⟩:=zAi Tryz.infoDRule;have e:((#[(0,x)]:Array (Nat×Operand)).map f).toList=[(0,.agg L.toArray)]:=by simp[hf]
 rw[e];unfold Program.builtSlice;rw[hi0];simp only[hz0,hz1];rw[if_neg (by decide)];exact zMF _ L hl (by simp)
theorem zJr {w w':World} {B:Nat} {e:TypeId} {sz:Nat} {v:Value} {n:Nat} {xs:List Value} (h:w.ownsRow B e sz v n xs) (hk:∀g,v.ownBlock=some g->w'.heap[g]? =w.heap[g]?):w'.ownsRow B e sz v n xs:=by
 refine⟨h.1,?_⟩;rcases h.2 with h'|⟨g,cap,cur,e,hg,hh,r⟩
 ·exact .inl h'
 ·subst e
  exact .inr ⟨g,cap,cur,rfl,hg,by rw[hk g rfl];exact hh,r⟩
theorem zMH {w:World} {B:Nat} {e:TypeId} {sz:Nat} {v:Value} {n:Nat} {xs:List Value} (h:w.ownsRow B e sz v n xs):∃p c,v= .slice p n c:=by
 rcases h.2 with⟨e,e'⟩|⟨g,cap,cur,e,hg,hh,hn,hm,_⟩
 ·subst e';exact⟨none,0,e⟩
 ·exact⟨some ⟨g,0,none⟩,cap,e⟩
theorem zPx {x:ByteArray} {l:List UInt8} (h:x=⟨l.toArray⟩):(x.toList == l)=true:=by
 subst h;rw[ByteArray.toList_eq];simp
theorem zRB {l:List ByteArray} {p:ByteArray} {r:List ByteArray} (h:l=p::r) (n:Nat) (b:Bk) (hp:zAh p=[]):zAO l n b=zAO r (n+1) b:=by rw[h,zAO,if_pos hp]
theorem zR4 {l:List ByteArray} {p:ByteArray} {r:List ByteArray} (h:l=p::r) (n:Nat) (b:Bk) (hp:zAh p≠[]) (hk:(zAY b (zAh p)).1≠0):zAO l n b=((zAY b (zAh p)).1,n+1,bk0):=by rw[h,zAO,if_neg hp,if_pos hk]
theorem zSP {l:List ByteArray} {p:ByteArray} {r:List ByteArray} (h:l=p::r) (n:Nat) (b:Bk) (hp:zAh p≠[]) (hk:(zAY b (zAh p)).1=0):zAO l n b=zAO r (n+1) (zAY b (zAh p)).2:=by rw[h,zAO,if_neg hp,if_neg (fun q=>q hk)]
structure DBk (W:World) (B K:Nat) (b:Bk) (rv:Value):Prop where
 c0:W.cell? ⟨K,0,none⟩=some (.int .i64 (b.pol:Int))
 c1:W.cell? ⟨K,1,none⟩=some rv
 own:W.ownsRow B 65 24 rv b.rs.length (zBE b.rs)
 f:∀i,W.frozen? ⟨K,i,none⟩=false
 lt:K<B
 le:B<=W.heap.size
theorem DBk.below {w w':World} {B K:Nat} {b:Bk} {rv:Value} (h:DBk w B K b rv) (hw:Below w.heap.size w w'):DBk w' B K b rv:=by
 have hK:K<w.heap.size:=Nat.lt_of_lt_of_le h.lt h.le;refine⟨(hw.cell (p:=⟨K,0,none⟩) hK).trans h.c0,(hw.cell (p:=⟨K,1,none⟩) hK).trans h.c1,zJr h.own (fun g hg=> ?_),fun i=>(hw.frozen (p:=⟨K,i,none⟩) hK).trans (h.f i),h.lt,Nat.le_trans h.le hw.size⟩;exact hw.block g (h.own.lt g hg).2
theorem zPy {g:Nat} {a b c:World} (h:Tch g a b) (k:Below a.heap.size b c):Tch g a c:=⟨k.os.trans h.os,k.tape.trans h.tape,k.output.trans h.output,Nat.le_trans h.size k.size,fun m hm hn=>(k.block m hm).trans (h.block m hm hn)⟩
theorem zB7 {w W:World} (h:Below w.heap.size w W) (v u:Value):Below w.heap.size w ((W.setCell ⟨w.heap.size,0,none⟩ v).setCell ⟨w.heap.size,1,none⟩ u):=
 (h.setCell (p:=⟨w.heap.size,0,none⟩) (Nat.le_refl _) _).setCell (p:=⟨w.heap.size,1,none⟩) (Nat.le_refl _) _
theorem zB8 {W:World} {g:Nat} {a0 a1:Value} (x0:W.cell? ⟨g,0,none⟩=some a0) (x1:W.cell? ⟨g,1,none⟩=some a1) (v u:Value):((W.setCell ⟨g,0,none⟩ v).setCell ⟨g,1,none⟩ u).cell? ⟨g,0,none⟩=some v/\((W.setCell ⟨g,0,none⟩ v).setCell ⟨g,1,none⟩ u).cell? ⟨g,1,none⟩=some u:=by
 constructor
 ·rw[World.cell?_setCell_other _ _ _ _ (by simp)];exact World.cell?_setCell_same _ _ _ x0
 ·have q:(W.setCell ⟨g,0,none⟩ v).cell? ⟨g,1,none⟩=some a1:=by rw[World.cell?_setCell_other _ _ _ _ (by simp)];exact x1
  exact World.cell?_setCell_same _ _ _ q
theorem zBe (tmps:Array Value) (W:World) (g:Nat) (v0 v1 k n:Value) (h2:tmps.getD 2 undef= .pointer (some ⟨g,0,none⟩)) (h3:tmps.getD 3 undef=k) (h4:tmps.getD 4 undef=n) (h:W.cell? ⟨g,0,none⟩=some v0/\W.cell? ⟨g,1,none⟩=some v1):(results Tryz.f9 tmps).run Tryz.prog W= .ok (.tuple #[.agg #[v0,v1],k,n]) W:=by
 have h2':tmps[2]?.getD undef= .pointer (some ⟨g,0,none⟩):=by simpa using h2
 have h3':tmps[3]?.getD undef=k:=by simpa using h3
 have h4':tmps[4]?.getD undef=n:=by simpa using h4
 have c0:=h.1;have c1:=h.2;simp[results,Tryz.results9,h2',h3',h4',asAddr,go_sem,c0,c1]
def zIw (s:ByteArray) (w:World) (e:Ending) (w':World):Prop:=
 ∃(pol:Int) (rp:Option Addr) (rl rc B:Nat),e= .returned (.tuple #[.agg #[.int .i64 pol,.slice rp rl rc],.int .i64 ((zAJ s).1:Int),.int .i64 ((zAJ s).2.1:Int)])/\w.heap.size<=B/\((zAJ s).1=0->pol=((zAJ s).2.2.pol:Int)/\w'.ownsRow B 65 24 (.slice rp rl rc) (zAJ s).2.2.rs.length (zBE (zAJ s).2.2.rs))/\Below w.heap.size w w'
theorem zKf (s:ByteArray) (w:World) (hs:s.size<=maxLen) (h:2000<s.size):Calls Tryz.prog 9 #[.string s] w (zIw s w):=by
 have HE:=hid (show zAJ s=(2,0,bk0) by unfold zAJ;rw[if_pos h]);have hz:(2000:Int)<(s.size:Int):=by omega
 unfold maxLen at hs;clear h;go_enter Tryz.func9,Tryz.ntmps9;go_wp2_with fail;refine bodyPost_ret (v:= .tuple #[.agg #[.int .i64 0,.slice none 0 0],.int .i64 2,.int .i64 0]) (by simp[results,Tryz.results9,go_sem]) rfl ?_;refine⟨0,none,0,0,w.heap.size,by rw[HE.out];rfl,Nat.le_refl _,fun e=>absurd e (by rw[HE.out];decide),?_⟩
 repeat (with_reducible first|exact Below.refl _ _|refine Below.setCell ?_ (by first|(simp;done)|(simp;omega)) _|refine Below.alloc ?_ (by first|(simp;done)|(simp;omega)) _)
theorem zIx (s:ByteArray) (w:World) (hs:s.size<=2000):Calls Tryz.prog 9 #[.string s] w (zIw s w):=by
 have HRT:Hid (zAJ s=zAO (zAj 10 s) 0 bk0):=show zAJ s=_ by unfold zAJ;rw[if_neg (by omega)]
 have hlen:=zBq 10 s;have hpos:=zCM 10 s;have HMM:Hid (∀p ∈ zAj 10 s,p.size<=s.size):=fun p hp=>zB1 10 s p hp
 have HLN:Hid (∀W:World,Calls Tryz.prog 20 #[.string s] W fun e w'=>∃v,e= .returned v/\w'.ownsRow W.heap.size 9 1 v (zAj 10 s).length ((zAj 10 s).map Value.string)/\Below W.heap.size W w'):=fun W=>zKZ s W hs
 obtain⟨cs,hcs⟩:∃cs,zAj 10 s=cs:=⟨_,rfl⟩;rw[hcs] at HRT hlen hpos HLN HMM;have hz:¬(2000:Int)<(s.size:Int):=by omega
 clear hcs;go_enter Tryz.func9,Tryz.ntmps9;go_wp2_with (go_at_call 20;refine(HLN.out _).mono ?_;rintro e w1 ⟨v,rfl,hO1,hb1⟩;obtain⟨gp,cap,rfl,hgB,hpl⟩:=hO1.form hpos;have HS:Hid (zB2 w1 gp 0 cs):=zC1 hO1;have HB1:=hid hb1;clear hO1 hb1);have hgp:w.heap.size+2<=gp:=by simpa using hgB
 have hw1:w.heap.size+2<=w1.heap.size:=by have:=HB1.out.size;simpa using this
 have HW:Hid (Below w.heap.size w w1):=by
  have h0:Below w.heap.size w ((w.alloc (.cells #[.int .i64 0,.slice none 0 0] 27)).alloc (.cells #[.int .i64 0,.slice none 0 0] 27)):=(bal _ _).alloc (by simp) _;exact h0.trans (HB1.out.mono (by simp;omega))
 have cA:∀i:Nat,i<2->(∃v,w1.cell? ⟨w.heap.size,i,none⟩=some v)/\w1.frozen? ⟨w.heap.size,i,none⟩=false:=by
  intro i hi;rw[HB1.out.cell (p:=⟨w.heap.size,i,none⟩) (by simp;omega),HB1.out.frozen (p:=⟨w.heap.size,i,none⟩) (by simp;omega)];have:i=0\/i=1:=by omega
  rcases this with rfl|rfl
  ·exact⟨⟨.int .i64 0,by go_simp⟩,by go_simp⟩
  ·exact⟨⟨.slice none 0 0,by go_simp⟩,by go_simp⟩
 have HA:=hid cA;have HD:Hid (DBk w1 w1.heap.size (w.heap.size+1) bk0 (.slice none 0 0)):=by
  refine⟨?_,?_,World.ownsRow_nil _ _ _ _,fun i=> ?_,by omega,Nat.le_refl _⟩
  ·rw[HB1.out.cell (p:=⟨w.heap.size+1,0,none⟩) (by simp)];go_simp;rfl
  ·rw[HB1.out.cell (p:=⟨w.heap.size+1,1,none⟩) (by simp)];go_simp
  ·rw[HB1.out.frozen (p:=⟨w.heap.size+1,i,none⟩) (by simp)];go_simp
 clear cA hgB HB1 HLN;go_loopw [6,8] (fun bg i wr=>∃(j:Nat) (b:Bk) (rv:Value),j<=cs.length/\i= .int .i64 j/\bg= .bool b.has/\zAJ s=zAO (cs.drop j) j b/\zBr b/\(b.has=false->b.rs=[])/\DBk wr w1.heap.size (w.heap.size+1) b rv/\Tch (w.heap.size+1) w1 wr) (fun _ i _=>cs.length-(intOf i).toNat)
 case atStart=>exact⟨0,bk0,_,Nat.zero_le _,rfl,rfl,by rw[List.drop_zero];exact HRT.out,zCN,fun _=>rfl,HD.out,Tch.refl _ _⟩
 case round=>
  obtain⟨j,b,rv,hj,rfl,rfl,hrt,hgb,hbn,hdb,htc⟩:=hrel;have HR:=hid hrt;have HG:Hid (zBr b):=hgb;have HBN:=hid hbn;have HDB:=hid hdb;have HT:=hid htc;have hzz:w1.heap.size<=wr.heap.size:=htc.size;clear hrt hgb hbn hdb htc;obtain⟨a0,ha0⟩:=(HA.out 0 (by decide)).1;obtain⟨a1,ha1⟩:=(HA.out 1 (by decide)).1;have x0:wr.cell? ⟨w.heap.size,0,none⟩=some a0:=(HT.out.cell (p:=⟨w.heap.size,0,none⟩) (by show w.heap.size<_;omega) (by show w.heap.size≠_;omega)).trans ha0;have x1:wr.cell? ⟨w.heap.size,1,none⟩=some a1:=(HT.out.cell (p:=⟨w.heap.size,1,none⟩) (by show w.heap.size<_;omega) (by show w.heap.size≠_;omega)).trans ha1;have y0:wr.frozen? ⟨w.heap.size,0,none⟩=false:=(HT.out.frozen (p:=⟨w.heap.size,0,none⟩) (by show w.heap.size<_;omega) (by show w.heap.size≠_;omega)).trans (HA.out 0 (by decide)).2;have y1:wr.frozen? ⟨w.heap.size,1,none⟩=false:=(HT.out.frozen (p:=⟨w.heap.size,1,none⟩) (by show w.heap.size<_;omega) (by show w.heap.size≠_;omega)).trans (HA.out 1 (by decide)).2;have k0:=HDB.out.c0;have k1:=HDB.out.c1;obtain⟨rp,rc,hrv⟩:=zMH HDB.out.own;have HRV:=hid hrv;rw[hrv] at k1;clear ha0 ha1 hrv
  by_cases hlt:j<cs.length
  ·have c:=HS.out j hlt
   rw[Nat.zero_add,<-HT.out.cell (p:=⟨gp,j,none⟩) (by show gp<_;omega) (by show gp≠_;omega)] at c;obtain⟨l,hl⟩:∃l,cs.getD j ByteArray.empty=l:=⟨_,rfl⟩;rw[hl] at c;have hlg:cs[j]=l:=by rw[<-hl,List.getD_eq_getElem?_getD,List.getElem?_eq_getElem hlt];rfl
   have HL:Hid (cs.drop j=l::cs.drop (j+1)):=show cs.drop j=l::cs.drop (j+1) by rw[List.drop_eq_getElem_cons hlt,hlg]
   have hls:l.size<=2000:=Nat.le_trans (HMM.out l (by rw[<-hlg];exact List.getElem_mem hlt)) hs;have HP:Hid (Calls _ _ _ wr _):=zIm l wr hls;have hpn:=zF3 l;have HPM:Hid (∀p ∈ zAh l,p.size<=2000):=fun p hp=>Nat.le_trans (zF2 l p hp) hls
   have HSK:Hid (zAh l=[]->zAJ s=zAO (cs.drop (j+1)) (j+1) b):=fun h=>by rw[HR.out];exact zRB HL.out j b h
   have HBD:Hid (zAh l≠[]->(zAY b (zAh l)).1≠0->zAJ s=((zAY b (zAh l)).1,j+1,bk0)):=fun h g=>by rw[HR.out];exact zR4 HL.out j b h g
   have HGO:Hid (zAh l≠[]->(zAY b (zAh l)).1=0->zAJ s=zAO (cs.drop (j+1)) (j+1) (zAY b (zAh l)).2):=fun h g=>by rw[HR.out];exact zSP HL.out j b h g
   obtain⟨ps,hps⟩:∃ps,zAh l=ps:=⟨_,rfl⟩;rw[hps] at HP hpn HPM HSK HBD HGO;have i1:(0:Int)<=(j:Int):=by omega
   have i2:(j:Int)<(cs.length:Int):=by omega
   have i3:IntKind.i64.wrap ((j:Int)+1)=(j:Int)+1:=by rw[IntKind.wrap_i64];omega
   clear hl hlg hps HL HR
   by_cases hp0:ps=[]
   ·have HX:Hid (zAJ s=zAO (cs.drop (j+1)) (j+1) b):=HSK.out hp0
    subst hp0;go_wp2_with (go_at_call 21;refine HP.out.mono ?_;rintro e w2 ⟨v2,rfl,hO2,hb2⟩;obtain⟨pp,pc,rfl⟩:=zMH hO2;have HB2:=hid hb2;clear hO2 hb2);go_roundw
    case rel=>exact⟨j+1,b,rv,by omega,by go_num,rfl,HX.out,HG.out,HBN.out,HDB.out.below HB2.out,HT.out.trans (Tch.of HB2.out)⟩
    case measure=>simp[intOf];omega
   have hpp:1<=ps.length:=by
    rcases ps with _|⟨x,y⟩
    ·exact absurd rfl hp0
    ·simp
   go_upto_region 10 with(go_at_call 21;refine HP.out.mono ?_;rintro e w2 ⟨v2,rfl,hO2,hb2⟩;obtain⟨gq,cq,rfl,hqB,hql⟩:=hO2.form hpp;have HS2:Hid (zB2 w2 gq 0 ps):=zC1 hO2;have HB2:=hid hb2;clear hO2 hb2)
   have HT2:Hid (Tch (w.heap.size+1) w1 w2):=HT.out.trans (Tch.of HB2.out);have HD2:Hid (DBk w2 w1.heap.size (w.heap.size+1) b rv):=HDB.out.below HB2.out;have x0':=(HB2.out.cell (p:=⟨w.heap.size,0,none⟩) (by show w.heap.size<_;omega)).trans x0;have x1':=(HB2.out.cell (p:=⟨w.heap.size,1,none⟩) (by show w.heap.size<_;omega)).trans x1;have y0':=(HB2.out.frozen (p:=⟨w.heap.size,0,none⟩) (by show w.heap.size<_;omega)).trans y0;have y1':=(HB2.out.frozen (p:=⟨w.heap.size,1,none⟩) (by show w.heap.size<_;omega)).trans y1;have X0:=hid x0';have X1:=hid x1';have k0':=HD2.out.c0;have k1':=HD2.out.c1;rw[HRV.out] at k1';have hz2:wr.heap.size<=w2.heap.size:=HB2.out.size;have c2:=HS2.out 0 (by omega);rw[Nat.zero_add] at c2;obtain⟨p0,hp0'⟩:∃p,ps.getD 0 ByteArray.empty=p:=⟨_,rfl⟩;rw[hp0'] at c2;have HP0:=hid hp0';have l1:(0:Int)<(ps.length:Int):=by omega
   have l2:decide ((ps.length:Int)=0)=false:=by simp;omega
   have l3:((ps.length:Int) == 0)=false:=by simp;omega
   clear hp0' x0 x1 y0 y1 k0 k1 HT HDB c HP HSK;obtain⟨bh,hbh⟩:∃q,b.has=q:=⟨_,rfl⟩;have HBH:Hid (b.has=bh):=hbh;rw[hbh];clear hbh;cases bh with
   |false=>
    have HLO:Hid (zAY b ps=if zAW ps<0 then(3,bk0) else(0,⟨true,(zAW ps).toNat,[]⟩)):=show zAY b ps=_ by unfold zAY;rw[HBH.out];rfl
    by_cases hpw:p0=zRy
    ·have e0:(p0.toList == [112,111,108,105,99,121])=true:=zPx hpw
     have HPW:Hid (p0=zRy):=hpw;clear hpw
     by_cases hl2:ps.length=2
     ·have c3:=HS2.out 1 (by omega)
      rw[Nat.zero_add] at c3;obtain⟨p1,hp1⟩:∃p,ps.getD 1 ByteArray.empty=p:=⟨_,rfl⟩;rw[hp1] at c3;have HPO:Hid (zAW ps=plc vws p1):=show zAW ps=plc vws p1 by
       unfold zAW;rw[if_pos ⟨hl2,by rw[HP0.out];exact HPW.out⟩,hp1]
      rw[HPO.out] at HLO;have HPl:Hid (∀W:World,W.heap=(w2.alloc (.cells (vws.map Value.string).toArray 9)).heap->Calls Tryz.prog 22 #[.slice (some ⟨w2.heap.size,0,none⟩) 3 3,.string p1] W fun e w'=>e= .returned (.int .i64 (plc vws p1))/\w'=W):=fun W hW=>zCX vws w2.heap.size 0 3 p1 W (by decide) (fun j hj=>by
       have:=zB2.made w2 vws 9 j hj;simp only[World.cell?,hW] at this ⊢;exact this)
      have n1:gq≠w2.heap.size:=by omega
      have l5:(1:Int)<(ps.length:Int):=by omega
      have l6:((ps.length:Int) !=2)=false:=by simp;omega
      clear hp1 hl2;go_upto_region 14 with fail
      go_cut [10] from 48 to 52 (fun x w'=>x= .int .i64 (plc vws p1)/\Below w2.heap.size w2 w')
      case first=>
       go_region_with (first|(go_at_call 23;refine(zDo _).mono ?_;rintro e w' ⟨rfl,rfl⟩)|(go_at_call 22;refine(HPl.out _ (by rfl)).mono ?_;rintro e w' ⟨rfl,rfl⟩))
       all_goals
        go_wp2_with fail;go_meet;refine⟨rfl,?_⟩
        repeat (with_reducible first|exact Below.refl _ _|refine Below.drew ?_|refine Below.alloc ?_ (by first|omega|(simp;done)|(simp;omega)) _)
      obtain⟨rfl,hb3⟩:=hcut;have HB3:=hid hb3;have HT3:Hid (Tch (w.heap.size+1) w1 wc):=HT2.out.trans (Tch.of hb3);have HD3:Hid (DBk wc w1.heap.size (w.heap.size+1) b rv):=HD2.out.below hb3;have x0:=(hb3.cell (p:=⟨w.heap.size,0,none⟩) (by show w.heap.size<_;omega)).trans x0';have x1:=(hb3.cell (p:=⟨w.heap.size,1,none⟩) (by show w.heap.size<_;omega)).trans x1';have y0:=(hb3.frozen (p:=⟨w.heap.size,0,none⟩) (by show w.heap.size<_;omega)).trans y0';have y1:=(hb3.frozen (p:=⟨w.heap.size,1,none⟩) (by show w.heap.size<_;omega)).trans y1';have Z0:=hid x0;have Z1:=hid x1;have k0:=HD3.out.c0;have k1:=HD3.out.c1;have kf:=HD3.out.f 0;rw[HRV.out] at k1;clear hb3 HPl
      by_cases hneg:plc vws p1<0
      ·have HE:Hid (zAJ s=(3,j+1,bk0)):=by
        have e:zAY b ps=(3,bk0):=by rw[HLO.out,if_pos hneg]
        have:=HBD.out hp0 (by rw[e];decide);rw[e] at this;exact this
       go_wp2_with fail;refine bodyPost_ret (v:= .tuple #[.agg #[.int .i64 (b.pol:Int),.slice rp b.rs.length rc],.int .i64 3,.int .i64 ((j:Int)+1)]) (zBe _ _ _ _ _ _ _ rfl rfl rfl (zB8 Z0.out Z1.out _ _)) rfl ?_;refine⟨_,_,_,_,w1.heap.size,by rw[HE.out];rfl,by omega,fun e=>absurd e (by rw[HE.out];exact(by decide:¬(3:Nat)=0)),?_⟩;exact(zB7 (HW.out.trans (HT3.out.below (by omega) (by omega))) _ _)
      ·have HE:Hid (zAJ s=zAO (cs.drop (j+1)) (j+1) ⟨true,(plc vws p1).toNat,[]⟩):=by
        have e:zAY b ps=(0,⟨true,(plc vws p1).toNat,[]⟩):=by rw[HLO.out,if_neg hneg]
        have:=HGO.out hp0 (by rw[e]);rw[e] at this;exact this
       have HG2:Hid (zBr ⟨true,(plc vws p1).toNat,[]⟩):=by
        have e:zAY b ps=(0,⟨true,(plc vws p1).toNat,[]⟩):=by rw[HLO.out,if_neg hneg]
        have:=zCi b ps HG.out;rw[e] at this;exact this
       have d1:decide (plc vws p1<0)=false:=by simp;omega
       obtain⟨u,hu⟩:∃u:Nat,plc vws p1=(u:Int):=⟨(plc vws p1).toNat,by omega⟩;rw[hu,Int.toNat_natCast] at HE HG2;rw[hu] at d1 ⊢;have d2:¬(u:Int)<0:=by omega
       clear hneg hu;go_wp2_with fail;go_roundw
       case rel=>
        refine⟨j+1,⟨true,u,[]⟩,rv,by omega,by go_num,rfl,HE.out,HG2.out,fun q=>rfl,⟨?_,?_,?_,fun i=> ?_,HD3.out.lt,?_⟩,HT3.out.set _ _⟩
        ·exact World.cell?_setCell_same _ _ _ k0
        ·rw[World.cell?_setCell_other _ _ _ _ (by simp)];exact HD3.out.c1
        ·have h0:=HD3.out.own
         rw[HBN.out HBH.out] at h0;refine zJr h0 (fun g hg=> ?_);have hgB:w1.heap.size<=g:=zAE h0 g hg;exact Below.heap_setCell _ _ _ _ (by show g≠w.heap.size+1;omega)
        ·rw[World.frozen?_setCell];exact HD3.out.f i
        ·have:=HD3.out.le;simpa[World.setCell] using this
       case measure=>simp[intOf];omega
     ·have HE:Hid (zAJ s=(3,j+1,bk0)):=by
       have e:zAY b ps=(3,bk0):=by rw[HLO.out,if_pos];unfold zAW;rw[if_neg (fun q=>hl2 q.1)];decide
       have:=HBD.out hp0 (by rw[e];decide);rw[e] at this;exact this
      have l4:((ps.length:Int) == 2)=false:=by simp;omega
      go_wp2_with fail;refine bodyPost_ret (v:= .tuple #[.agg #[.int .i64 (b.pol:Int),.slice rp b.rs.length rc],.int .i64 3,.int .i64 ((j:Int)+1)]) (zBe _ _ _ _ _ _ _ rfl rfl rfl (zB8 X0.out X1.out _ _)) rfl ?_;refine⟨_,_,_,_,w1.heap.size,by rw[HE.out];rfl,by omega,fun e=>absurd e (by rw[HE.out];exact(by decide:¬(3:Nat)=0)),?_⟩;exact(zB7 (HW.out.trans (HT2.out.below (by omega) (by omega))) _ _)
    ·have HE:Hid (zAJ s=(3,j+1,bk0)):=by
      have e:zAY b ps=(3,bk0):=by rw[HLO.out,if_pos];unfold zAW;rw[HP0.out,if_neg (fun q=>hpw q.2)];decide
      have:=HBD.out hp0 (by rw[e];decide);rw[e] at this;exact this
     have l4:(p0.toList == [112,111,108,105,99,121])=false:=zLv hpw;go_wp2_with fail;refine bodyPost_ret (v:= .tuple #[.agg #[.int .i64 (b.pol:Int),.slice rp b.rs.length rc],.int .i64 3,.int .i64 ((j:Int)+1)]) (zBe _ _ _ _ _ _ _ rfl rfl rfl (zB8 X0.out X1.out _ _)) rfl ?_;refine⟨_,_,_,_,w1.heap.size,by rw[HE.out];rfl,by omega,fun e=>absurd e (by rw[HE.out];exact(by decide:¬(3:Nat)=0)),?_⟩;exact(zB7 (HW.out.trans (HT2.out.below (by omega) (by omega))) _ _)
   |true=>
    have HRU:Hid (Calls _ _ _ w2 _):=zME ps b.rs.length gq cq w2 HS2.out hql hpp (by omega) HPM.out (by have:=HG.out.len;omega);obtain⟨q,hq⟩:∃q,(zAT ps b.rs.length).1=q:=⟨_,rfl⟩;obtain⟨r,hr⟩:∃r,(zAT ps b.rs.length).2=r:=⟨_,rfl⟩;unfold zMD at HRU;have HLO:Hid (zAY b ps=if q=0 then(0,⟨true,b.pol,b.rs++[r]⟩) else(q,bk0)):=show zAY b ps=_ by unfold zAY;rw[HBH.out,hq,hr];rfl
    rw[hq,hr] at HRU;clear hq hr;have kf1:=HD2.out.f 1;obtain⟨Z,hZl,hZ1,hZ2,hZ3⟩:=zHc;have HZ1:=hid hZ1;clear hZ1 hZ2 hZ3 HPM HS2 c2;have hz12:w1.heap.size<=w2.heap.size:=by omega
    by_cases hq0:q=0
    ·subst hq0
     have HE:Hid (zAJ s=zAO (cs.drop (j+1)) (j+1) ⟨true,b.pol,b.rs++[r]⟩):=by
      have e:zAY b ps=(0,⟨true,b.pol,b.rs++[r]⟩):=by rw[HLO.out];rfl
      have:=HGO.out hp0 (by rw[e]);rw[e] at this;exact this
     have HG2:Hid (zBr ⟨true,b.pol,b.rs++[r]⟩):=by
      have e:zAY b ps=(0,⟨true,b.pol,b.rs++[r]⟩):=by rw[HLO.out];rfl
      have:=zCi b ps HG.out;rw[e] at this;exact this
     go_upto_region 22 with(first|(go_at_call 24;refine HRU.out.mono ?_;rintro e w3 ⟨⟨L,hl,hone,rfl,hk⟩,hb3⟩;have HB3:=hid hb3;have HK:Hid (L=zAC (r.v:Int) r.cs):=hk rfl;have HONE:=hid hone;clear hb3 hk hone)|(refine Go.Great.wpList_allocTo rfl _ rfl _ _ (zE5 _ rfl HZ1.out _) ?_)|(refine wpList_store_rowTo rfl 65 _ _ rfl rfl _ L.toArray rfl rfl 65 Z.toArray (heap_alloc_new w3 _) (zCC hl) (by rw[List.size_toArray,List.size_toArray,hZl,hl]) (zLW HONE.out) ?_;rw[World.setRow_alloc_new];obtain⟨w4,e4⟩:∃w4,w3.alloc (.cells L.toArray 65)=w4:=⟨_,rfl⟩;rw[e4];have HB4:Hid (Below w2.heap.size w2 w4):=(by rw[<-e4];exact HB3.out.alloc HB3.out.size _);have h65:Hid (w4.heap[w3.heap.size]? =some (.cells L.toArray 65 (0,0))):=(by rw[<-e4];exact heap_alloc_new w3 _);have hz4:w3.heap.size<w4.heap.size:=(by rw[<-e4];simp);clear e4;have z0:=(HB4.out.cell (p:=⟨w.heap.size,0,none⟩) (by show w.heap.size<_;omega)).trans x0';have z1:=(HB4.out.cell (p:=⟨w.heap.size,1,none⟩) (by show w.heap.size<_;omega)).trans x1';have v0:=(HB4.out.frozen (p:=⟨w.heap.size,0,none⟩) (by show w.heap.size<_;omega)).trans y0';have v1:=(HB4.out.frozen (p:=⟨w.heap.size,1,none⟩) (by show w.heap.size<_;omega)).trans y1';have Z0:=hid z0;have Z1:=hid z1;have HD4:Hid (DBk w4 w1.heap.size (w.heap.size+1) b rv):=HD2.out.below HB4.out;have g0:=HD4.out.c0;have g1:=HD4.out.c1;rw[HRV.out] at g1;have gf:=HD4.out.f 1;have HT4:Hid (Tch (w.heap.size+1) w1 w4):=HT2.out.trans (Tch.of HB4.out)))
     obtain⟨i0,hi0,hz0,hz1,hz2⟩:=zAi Tryz.infoDRule;have HBS:Hid (∀(f:Nat×Operand->Nat×Value) (x:Operand),f (0,x)=(0,.agg L.toArray)->Tryz.prog.builtSlice 65 1 ((#[(0,x)]:Array (Nat×Operand)).map f).toList=some L.toArray):=fun f x hf=>zMG L hl f x hf
     have HOW:Hid ((w4.alloc (.cells L.toArray 65)).ownsRow w1.heap.size 65 24 (.slice rp b.rs.length rc) b.rs.length (zBE b.rs)):=by
      have:=HD4.out.own;rw[HRV.out] at this;exact this.alloc _
     have HNW:Hid (∀(j:Nat) (y:Value),L[j]? =some y->(w4.alloc (.cells L.toArray 65)).cell? ((⟨w4.heap.size,0,none⟩:Addr).add j)=some y):=fun j y hy=>World.news_of_block (w:=w4.alloc (.cells L.toArray 65)) (cs:=L.toArray) (t:=65) (fr:=(0,0)) (heap_alloc_new w4 _) j y (by simpa using hy)
     have hrl:b.rs.length<=48:=HG.out.len;have hz14:w1.heap.size<=w4.heap.size:=HD4.out.le;go_wp2_with (first|(refine wpList_load_row rfl 65 _ rfl w3.heap.size rfl 65 L.toArray (0,0) _ h65.out Tryz.underlying65 rfl (zCC hl) ?_)|(refine Go.Great.wpList_buildSliceTo rfl 25 65 1 _ rfl w4.heap.size rfl _ rfl Tryz.underlying25 L.toArray (HBS.out _ _ rfl) ?_)|(at_builtin;refine wpList_append_lies _ rfl _ _ 25 rfl w1.heap.size 65 i0 _ 24 120 Tryz.underlying25 hi0 hz0 hz1 hz2 rfl (by decide) _ b.rs.length (zBE b.rs) rfl HOW.out ⟨w4.heap.size,0,none⟩ 1 1 L rfl (by rw[hl]) HNW.out HONE.out (by decide) (by unfold maxLen;omega) (by omega) (by simp;omega) (w4.heap.size+1) (by simp) ?_;intro gg cap' w6 hown6 hgrow6 hat6 hlt6;have HB6:Hid (Below w1.heap.size w4 w6):=(Below.grown (w:=w4.alloc (.cells L.toArray 65)) ((Below.refl _ _).alloc hz14 _) hgrow6 (by simp;omega) (zAE HOW.out));have HO6:=hid hown6;have m1:=(HB6.out.cell (p:=⟨w.heap.size+1,1,none⟩) (by show w.heap.size+1<_;omega)).trans g1;have mf:=(HB6.out.frozen (p:=⟨w.heap.size+1,1,none⟩) (by show w.heap.size+1<_;omega)).trans gf;clear hown6 hgrow6 hat6 hlt6));go_roundw
     case rel=>
      refine⟨j+1,⟨true,b.pol,b.rs++[r]⟩,.slice (some ⟨gg,0,none⟩) (b.rs.length+1) cap',by omega,by go_num,rfl,HE.out,HG2.out,(fun q=>by cases q),⟨?_,?_,?_,fun i=> ?_,HD4.out.lt,?_⟩,?_⟩
      ·rw[World.cell?_setCell_other _ _ _ _ (by simp)]
       exact(HB6.out.cell (p:=⟨w.heap.size+1,0,none⟩) (by show w.heap.size+1<_;omega)).trans HD4.out.c0
      ·exact World.cell?_setCell_same _ _ _ m1
      ·show World.ownsRow _ _ _ _ _ (b.rs++[r]).length (zBE (b.rs++[r]))
       rw[zGj,<-HK.out,List.length_append];refine zJr HO6.out (fun g hg=> ?_);have hgB:w1.heap.size<=g:=zAE HO6.out g hg;exact Below.heap_setCell _ _ _ _ (by show g≠w.heap.size+1;omega)
      ·rw[World.frozen?_setCell]
       exact(HB6.out.frozen (p:=⟨w.heap.size+1,i,none⟩) (by show w.heap.size+1<_;omega)).trans (HD4.out.f i)
      ·have h1:=HB6.out.size
       simp[World.setCell];omega
      ·exact(zPy HT4.out HB6.out).set _ _
     case measure=>simp[intOf];omega
    ·have HE:Hid (zAJ s=(q,j+1,bk0)):=by
      have e:zAY b ps=(q,bk0):=by rw[HLO.out,if_neg hq0]
      have:=HBD.out hp0 (by rw[e];exact hq0);rw[e] at this;exact this
     have hqn:((q:Int) == 0)=false:=by simp;omega
     have hqm:((q:Int) !=0)=true:=by simp;omega
     go_wp2_with (first|(go_at_call 24;refine HRU.out.mono ?_;rintro e w3 ⟨⟨L,hl,hone,rfl,hk⟩,hb3⟩;have HB3:=hid hb3;have HK:=hid hk;have HONE:=hid hone;clear hb3 hk hone)|(refine Go.Great.wpList_allocTo rfl _ rfl _ _ (zE5 _ rfl HZ1.out _) ?_)|(refine wpList_store_rowTo rfl 65 _ _ rfl rfl _ L.toArray rfl rfl 65 Z.toArray (heap_alloc_new w3 _) (zCC hl) (by rw[List.size_toArray,List.size_toArray,hZl,hl]) (zLW HONE.out) ?_;rw[World.setRow_alloc_new];obtain⟨w4,e4⟩:∃w4,w3.alloc (.cells L.toArray 65)=w4:=⟨_,rfl⟩;rw[e4];have HB4:Hid (Below w2.heap.size w2 w4):=(by rw[<-e4];exact HB3.out.alloc HB3.out.size _);have h65:Hid (w4.heap[w3.heap.size]? =some (.cells L.toArray 65 (0,0))):=(by rw[<-e4];exact heap_alloc_new w3 _);have hz4:w3.heap.size<w4.heap.size:=(by rw[<-e4];simp);clear e4;have z0:=(HB4.out.cell (p:=⟨w.heap.size,0,none⟩) (by show w.heap.size<_;omega)).trans x0';have z1:=(HB4.out.cell (p:=⟨w.heap.size,1,none⟩) (by show w.heap.size<_;omega)).trans x1';have v0:=(HB4.out.frozen (p:=⟨w.heap.size,0,none⟩) (by show w.heap.size<_;omega)).trans y0';have v1:=(HB4.out.frozen (p:=⟨w.heap.size,1,none⟩) (by show w.heap.size<_;omega)).trans y1';have Z0:=hid z0;have Z1:=hid z1;have HD4:Hid (DBk w4 w1.heap.size (w.heap.size+1) b rv):=HD2.out.below HB4.out;have g0:=HD4.out.c0;have g1:=HD4.out.c1;rw[HRV.out] at g1;have gf:=HD4.out.f 1;have HT4:Hid (Tch (w.heap.size+1) w1 w4):=HT2.out.trans (Tch.of HB4.out)));refine bodyPost_ret (v:= .tuple #[.agg #[.int .i64 0,.slice none 0 0],.int .i64 (q:Int),.int .i64 ((j:Int)+1)]) (zBe _ _ _ _ _ _ _ rfl rfl rfl (zB8 Z0.out Z1.out _ _)) rfl ?_;refine⟨_,_,_,_,w1.heap.size,by rw[HE.out];rfl,by omega,fun e=>absurd e (by rw[HE.out];exact hq0),?_⟩;exact(zB7 (HW.out.trans (HT4.out.below (by omega) (by omega))) _ _)
  ·have HE:Hid (zAJ s=if b.has then(0,0,b) else(3,0,bk0)):=by rw[HR.out,List.drop_eq_nil_of_le (by omega)];rfl
   have hjl:decide ((j:Int)<(cs.length:Int))=false:=by simp;omega
   obtain⟨bh,hbh⟩:∃q,b.has=q:=⟨_,rfl⟩;rw[hbh] at HE ⊢;clear hbh;cases bh with
   |false=>
    go_wp2_with fail;refine bodyPost_ret (v:= .tuple #[.agg #[.int .i64 (b.pol:Int),.slice rp b.rs.length rc],.int .i64 3,.int .i64 0]) (zBe _ _ _ _ _ _ _ rfl rfl rfl (zB8 x0 x1 _ _)) rfl ?_;refine⟨_,_,_,_,w1.heap.size,by rw[HE.out];rfl,by omega,fun e=>absurd e (by rw[HE.out];exact(by decide:¬(3:Nat)=0)),?_⟩;exact(zB7 (HW.out.trans (HT.out.below (by omega) (by omega))) _ _)
   |true=>
    go_wp2_with fail;refine bodyPost_ret (v:= .tuple #[.agg #[.int .i64 (b.pol:Int),.slice rp b.rs.length rc],.int .i64 0,.int .i64 0]) (zBe _ _ _ _ _ _ _ rfl rfl rfl (zB8 x0 x1 _ _)) rfl ?_;refine⟨_,_,_,_,w1.heap.size,by rw[HE.out];rfl,by omega,fun e=>⟨by rw[HE.out];rfl,?_⟩,?_⟩
    ·rw[HE.out]
     have h0:=HDB.out.own;rw[HRV.out] at h0;refine zJr h0 (fun g hg=> ?_);have hgB:w1.heap.size<=g:=zAE h0 g hg;rw[Below.heap_setCell _ _ _ _ (by show g≠w.heap.size;omega),Below.heap_setCell _ _ _ _ (by show g≠w.heap.size;omega)]
    ·exact(zB7 (HW.out.trans (HT.out.below (by omega) (by omega))) _ _)
theorem zHd (s:ByteArray) (w:World) (hs:s.size<=maxLen):Calls Tryz.prog 9 #[.string s] w (zIw s w):=by
 by_cases h:2000<s.size
 ·exact zKf s w hs h
 ·exact zIx s w (by omega)
end Go.Proofs.YtclpnafiiobfhaaGreatDoor

import Derived.Test.YtclpnafiiobfhaaGreatDoorQ17
set_option linter.unusedVariables false
set_option linter.unusedSimpArgs false
set_option maxHeartbeats 1600000
namespace Go.Proofs.YtclpnafiiobfhaaGreatDoor
open Go.RowKit
theorem zSS (a b:Int) (ha:0<=a/\a<=16777215) (hb:0<=b/\b<=255):bits .or .u32 (a*256) b=256*a+b:=by
 rw[u32_or _ _ (by omega) (by omega) (by omega) (by omega)];have e:(a*256).toNat=a.toNat*2 ^ 8:=by omega
 rw[e,zMr 8 a.toNat b.toNat (by omega)];omega
theorem zOe (s:ByteArray) (k n:Nat) (h:n<=3):0<=zAB s k n/\zAB s k n<=16777215:=by
 have hb:=zLg s k n;rcases n with _|_|_|_|n
 ·simp at hb ⊢;omega
 ·simp at hb ⊢;omega
 ·simp at hb ⊢;omega
 ·simp at hb ⊢;omega
 ·omega
theorem zDI (s:ByteArray) (b off k n cap:Nat) (w:World) (hn:n<=4) (hr:∀i,i<n->w.cell? ⟨b,off+i,none⟩=some (.int .u8 (nth s (k+i)))):
 Calls Tryz.prog 206 #[.slice (some ⟨b,off,none⟩) n cap] w fun e w'=>e= .returned (.int .u32 (zAB s k n))/\w'=w:=by
 go_enter Tryz.func206,Tryz.ntmps206;go_wp2;go_loop [3,8] (fun v i=>∃j:Nat,j<=n/\i= .int .i64 j/\v= .int .u32 (zAB s k j)) (fun _ i=>n-(intOf i).toNat)
 case atStart=>exact⟨0,Nat.zero_le _,rfl,rfl⟩
 case round=>
  obtain⟨j,hj,rfl,rfl⟩:=hrel
  by_cases hlt:j<n
  ·have hb:=zOe s k j (by omega)
   have hx:=zAN s (k+j);have hc:=hr j hlt;go_wp2;go_round
   case rel=>exact⟨j+1,by omega,by go_num,by rw[zSS _ _ hb hx,zEy]⟩
   case measure=>simp[intOf];omega
  ·have e:j=n:=by omega
   subst e;go_wp2;go_ret;exact⟨rfl,rfl⟩
def zKr (w:World) (b off:Nat) (s:ByteArray) (k:Nat):Prop:=∀i,i<8->w.cell? ⟨b,off+i,none⟩=some (.int .u8 (nth s (k+i)))
theorem zKr.alloc {w:World} {b off k:Nat} {s:ByteArray} (h:zKr w b off s k) (hb:b<w.heap.size) (o:Obj):zKr (w.alloc o) b off s k:=fun i hi=>by
 rw[World.cell?_alloc_lt _ _ _ (by simpa using hb)];exact h i hi
def zKs (s:ByteArray) (k:Nat):Ins:=⟨nth s k,nth s (k+1),nth s (k+2),nth s (k+3),zAB s (k+4) 4⟩
theorem zFV (s:ByteArray) (b off k len cap:Nat) (w:World) (hb:b<w.heap.size) (hl:8<=len) (hc:len<=cap) (hm:cap<=maxLen) (hr:zKr w b off s k):
 Calls Tryz.prog 200 #[.slice (some ⟨b,off,none⟩) len cap] w fun e w'=>e= .returned (zCL (zKs s k))/\Below w.heap.size w w':=by
 unfold zCL zKs;unfold maxLen at hm;have HE:=hid hr;have c0:=hr 0 (by omega);have c1:=hr 1 (by omega);have c2:=hr 2 (by omega);have c3:=hr 3 (by omega);rw[Nat.add_zero] at c0;have l0:0<len:=by omega
 have l1:(1:Int)<(len:Int):=by omega
 have l2:(2:Int)<(len:Int):=by omega
 have l3:(3:Int)<(len:Int):=by omega
 have l8:(8:Int)<=(cap:Int):=by omega
 have lc:cap≠4:=by omega
 have bn:=Nat.ne_of_lt hb;clear hr;go_enter Tryz.func200,Tryz.ntmps200;go_upto_region 1 with fail
 go_cut [2] from 3 (fun v w'=>v= .pointer (some ⟨w.heap.size,0,none⟩)/\∃n,w'=(w.alloc (.cells #[.int .u8 (nth s k),.int .u8 (nth s (k+1)),.int .u8 (nth s (k+2)),.int .u8 (nth s (k+3)),.int .u32 (zAB s (k+4) 4)] 250)).drewN n)
 case first=>
  go_region_held3 (fun w'=>w'.cell? ⟨b,off,none⟩=some (.int .u8 (nth s k))/\w'.cell? ⟨b,off+1,none⟩=some (.int .u8 (nth s (k+1)))/\w'.cell? ⟨b,off+2,none⟩=some (.int .u8 (nth s (k+2)))/\w'.cell? ⟨b,off+3,none⟩=some (.int .u8 (nth s (k+3)))) (go_keep) (first|(go_at_call 206;refine(zDI s b (off+4) (k+4) 4 _ _ (by omega) (fun i hi=> ?_)).mono ?_;(rw[Nat.add_assoc,Nat.add_assoc];exact(HE.out.alloc hb _) (4+i) (by omega));rintro e w' ⟨rfl,rfl⟩))
  all_goals
   go_wp2_with fail;go_meet;refine⟨rfl,?_⟩;exact⟨1,rfl⟩
 case rest=>
  obtain⟨rfl,n0,rfl⟩:=hcut;go_wp2_with fail;refine bodyPost_ret (v:= .agg #[.int .u8 (nth s k),.int .u8 (nth s (k+1)),.int .u8 (nth s (k+2)),.int .u8 (nth s (k+3)),.int .u32 (zAB s (k+4) 4)]) (by simp[results,Tryz.results200,go_sem]) rfl ⟨rfl,?_⟩
  repeat (with_reducible first|exact Below.refl _ _|refine below_drewN ?_ _|refine Below.drew ?_|refine Below.alloc ?_ (by simp) _|refine Below.setCell ?_ (by simp) _)
structure Lst (w:World) (g:Nat) (l:List Ins):Prop where
 op:∀j,j<l.length->w.cell? ⟨g,j*5,none⟩=some (.int .u8 (l.getD j ⟨0,0,0,0,0⟩).op)
 r:∀j,j<l.length->w.cell? ⟨g,j*5+1,none⟩=some (.int .u8 (l.getD j ⟨0,0,0,0,0⟩).r)
 t:∀j,j<l.length->w.cell? ⟨g,j*5+2,none⟩=some (.int .u8 (l.getD j ⟨0,0,0,0,0⟩).t)
 f:∀j,j<l.length->w.cell? ⟨g,j*5+3,none⟩=some (.int .u8 (l.getD j ⟨0,0,0,0,0⟩).f)
 k:∀j,j<l.length->w.cell? ⟨g,j*5+4,none⟩=some (.int .u32 (l.getD j ⟨0,0,0,0,0⟩).k)
 froz:∀i,w.frozen? ⟨g,i,none⟩=false
 lt:g<w.heap.size
theorem zM2:(Tryz.prog.info? 250).map (fun i=>(i.zero,i.size,i.bytes))=some (some (.agg #[.int .u8 0,.int .u8 0,.int .u8 0,.int .u8 0,.int .u32 0]),5,8):=by kernel_rfl
theorem zM3 (s:ByteArray) (p:Option Addr) (cap:Nat) (w:World) (hs:s.size<=maxLen) (h:∀n,¬zL3 s n):
 Calls Tryz.prog 177 #[.slice p s.size cap] w fun e w'=>e= .returned (.tuple #[.slice none 0 0,.iface 96 (.pointer (some ⟨w.heap.size,0,none⟩))])/\w'=w.alloc (.cells #[.int .i64 0,.int .i64 10] 99):=by
 unfold maxLen at hs
 by_cases h8:(s.size:Int) % 8=0
 ·have h8':((s.size:Int) % 8 !=0)=false:=by simpa using h8
  by_cases h0:(s.size:Int) / 8=0
  ·have h0':((s.size:Int) / 8 == 0)=true:=by simpa using h0
   clear h8 h0 h;go_enter Tryz.func177,Tryz.ntmps177;go_wp2;go_ret2;exact⟨rfl,rfl⟩
  ·have h0':((s.size:Int) / 8 == 0)=false:=by simpa using h0
   have h1:4096<(s.size:Int) / 8:=by
    have:=h (s.size / 8);rcases Nat.lt_or_ge 4096 (s.size / 8) with g|g
    ·omega
    ·exact absurd ⟨by omega,by omega,by omega⟩ this
   clear h8 h0 h;go_enter Tryz.func177,Tryz.ntmps177;go_wp2;go_ret2;exact⟨rfl,rfl⟩
 ·have h8':((s.size:Int) % 8 !=0)=true:=by simpa using h8
  clear h8 h;go_enter Tryz.func177,Tryz.ntmps177;go_wp2;go_ret2;exact⟨rfl,rfl⟩
theorem Lst.made (w:World) (n:Nat):Lst (w.alloc (.cells (madeCells #[.int .u8 0,.int .u8 0,.int .u8 0,.int .u8 0,.int .u32 0] (n*5)) 250)) w.heap.size (List.replicate n ⟨0,0,0,0,0⟩):=by
 have c:∀j c,j<n->c<5->(w.alloc (.cells (madeCells #[.int .u8 0,.int .u8 0,.int .u8 0,.int .u8 0,.int .u32 0] (n*5)) 250)).cell? ⟨w.heap.size,j*5+c,none⟩=some ((#[.int .u8 0,.int .u8 0,.int .u8 0,.int .u8 0,.int .u32 0]:Array Value)[c]!):=by
  intro j c hj hc;rw[World.cell?_alloc_at _ _ _ _ rfl];have e:(j*5+c) % 5=c:=by omega
  have hlt:j*5+c<n*5:=by omega
  simp[madeCells,hlt,e]
 have z:∀j:Nat,(List.replicate n (⟨0,0,0,0,0⟩:Ins)).getD j ⟨0,0,0,0,0⟩=⟨0,0,0,0,0⟩:=by
  intro j;rw[List.getD_eq_getElem?_getD,List.getElem?_replicate]
  split<;>rfl
 refine⟨fun j hj=> ?_,fun j hj=> ?_,fun j hj=> ?_,fun j hj=> ?_,fun j hj=> ?_,fun i=>World.frozen?_alloc_at _ _ _ _ rfl,by simp⟩
 all_goals
  rw[List.length_replicate] at hj;rw[z]
 ·exact c j 0 hj (by omega)
 ·exact c j 1 hj (by omega)
 ·exact c j 2 hj (by omega)
 ·exact c j 3 hj (by omega)
 ·exact c j 4 hj (by omega)
theorem Lst.below {w w':World} {g:Nat} {l:List Ins} (h:Lst w g l) (hw:Below w.heap.size w w'):Lst w' g l:=by
 have lt:=h.lt;have hc:∀i,w'.cell? ⟨g,i,none⟩=w.cell? ⟨g,i,none⟩:=fun i=>hw.cell (p:=⟨g,i,none⟩) lt
 exact⟨fun j hj=>(hc _).trans (h.op j hj),fun j hj=>(hc _).trans (h.r j hj),fun j hj=>(hc _).trans (h.t j hj),fun j hj=>(hc _).trans (h.f j hj),fun j hj=>(hc _).trans (h.k j hj),fun i=>(hw.frozen (p:=⟨g,i,none⟩) lt).trans (h.froz i),Nat.lt_of_lt_of_le lt hw.size⟩
def zFW (w:World) (g j:Nat) (x:Ins):World:=
 ((((w.setCell ⟨g,j*5,none⟩ (.int .u8 x.op)).setCell ⟨g,j*5+1,none⟩ (.int .u8 x.r)).setCell ⟨g,j*5+2,none⟩ (.int .u8 x.t)).setCell ⟨g,j*5+3,none⟩ (.int .u8 x.f)).setCell ⟨g,j*5+4,none⟩ (.int .u32 x.k)
theorem Lst.store {w:World} {g:Nat} {l:List Ins} (h:Lst w g l) (j:Nat) (hj:j<l.length) (x:Ins):Lst (zFW w g j x) g (l.set j x):=by
 unfold zFW;have c0:=h.op j hj;have c1:=h.r j hj;have c2:=h.t j hj;have c3:=h.f j hj;have c4:=h.k j hj;have o:∀(u:World) (a b:Nat) (v:Value),a≠b->(u.setCell ⟨g,a,none⟩ v).cell? ⟨g,b,none⟩=u.cell? ⟨g,b,none⟩:=fun u a b v hab=>zAZ u g a b v hab
 refine⟨fun i hi=> ?_,fun i hi=> ?_,fun i hi=> ?_,fun i hi=> ?_,fun i hi=> ?_,fun i=>by simp[zD9,h.froz],by simp[World.setCell];exact h.lt⟩
 all_goals
  rw[List.length_set] at hi
  by_cases e:i=j
  ·subst e
   rw[zB3 _ _ _ _ hi]
   first
    |(rw[o _ _ _ _ (by omega),o _ _ _ _ (by omega),o _ _ _ _ (by omega),o _ _ _ _ (by omega)];exact zBD _ _ _ c0)
    |(rw[o _ _ _ _ (by omega),o _ _ _ _ (by omega),o _ _ _ _ (by omega)];exact zBD _ _ _ ((o _ _ _ _ (by omega)).trans c1))
    |(rw[o _ _ _ _ (by omega),o _ _ _ _ (by omega)];exact zBD _ _ _ ((o _ _ _ _ (by omega)).trans ((o _ _ _ _ (by omega)).trans c2)))
    |(rw[o _ _ _ _ (by omega)];exact zBD _ _ _ ((o _ _ _ _ (by omega)).trans ((o _ _ _ _ (by omega)).trans ((o _ _ _ _ (by omega)).trans c3))))
    |exact zBD _ _ _ ((o _ _ _ _ (by omega)).trans ((o _ _ _ _ (by omega)).trans ((o _ _ _ _ (by omega)).trans ((o _ _ _ _ (by omega)).trans c4))))
  ·rw[zCl _ _ _ _ _ (fun q=>e q.symm)]
   rw[o _ _ _ _ (by omega),o _ _ _ _ (by omega),o _ _ _ _ (by omega),o _ _ _ _ (by omega),o _ _ _ _ (by omega)]
   first|exact h.op i hi|exact h.r i hi|exact h.t i hi|exact h.f i hi|exact h.k i hi
theorem zCq (w:World) (g j:Nat) (x:Ins):(zFW w g j x).heap.size=w.heap.size:=by simp[zFW,World.setCell]
theorem zEb {w w':World} {B:Nat} (h:Below B w w') (g j:Nat) (x:Ins) (hg:B<=g):Below B w (zFW w' g j x):=
 ((((h.setCell hg _).setCell hg _).setCell hg _).setCell hg _).setCell hg _
theorem zM4 (s:ByteArray) (n b off cap:Nat) (w:World) (hc:s.size<=cap) (hm:cap<=maxLen) (hb:b<w.heap.size) (hr:Row w b off s) (h:zJn s n):
 Calls Tryz.prog 177 #[.slice (some ⟨b,off,none⟩) s.size cap] w fun e w'=>e= .returned (.tuple #[.slice (some ⟨w.heap.size,0,none⟩) n n,.nilIface])/\Below w.heap.size w w'/\Lst w' w.heap.size ((List.range n).map (zAG s)):=by
 unfold maxLen at hm;have hz:=h.size;have h1:=h.pos;have h2:=h.most;have h8':((s.size:Int) % 8 !=0)=false:=by rw[bne_eq_false_iff_eq];omega
 have h0':((s.size:Int) / 8 == 0)=false:=by rw[beq_eq_false_iff_ne];omega
 have h4:(s.size:Int) / 8<=4096:=by omega
 have hn:(s.size:Int) / 8=n:=by omega
 have hmk:∀w,(Instr.makeSlice 220 (.int .i64 ((s.size:Int) / 8)) (.int .i64 ((s.size:Int) / 8))).run Tryz.prog w= .ok (.slice (some ⟨w.heap.size,0,none⟩) n n) (w.alloc (.cells (madeCells #[.int .u8 0,.int .u8 0,.int .u8 0,.int .u8 0,.int .u32 0] (n*5)) 250)):=by
  intro w;rw[hn];exact zDn (P:=Tryz.prog) 220 250 _ 5 8 Tryz.underlying220 zM2 .i64 .i64 n (by omega) (by omega) w
 have HR:=hid hr;have HF:=hid h;have hs:s.size<=32768:=by omega
 have HZ:=hid hz;have HC:=hid hc;clear hr h hz hn hc;go_enter Tryz.func177,Tryz.ntmps177;go_wp2;go_loopw [29] (fun i wr=>∃(j:Nat) (l:List Ins),j<=n/\i= .int .i64 j/\l.length=n/\(∀i,i<j->l.getD i ⟨0,0,0,0,0⟩=zAG s i)/\Lst wr w.heap.size l/\Below w.heap.size w wr) (fun i _=>n-(intOf i).toNat)
 case atStart=>exact⟨0,List.replicate n ⟨0,0,0,0,0⟩,Nat.zero_le _,rfl,by simp,fun i hi=>by omega,Lst.made w n,bal _ _⟩
 case round=>
  obtain⟨j,l,hj,rfl,hl,hpre,hL,hB⟩:=hrel
  by_cases hlt:j<n
  ·have HL:=hid hL
   have HB:=hid hB;have HP:=hid hpre;have x1:(j:Int)*8<=(s.size:Int):=by have:=HZ.out;omega
   have x2:(cap:Int)≠(j:Int)*8:=by have:=HZ.out;have:=HC.out;omega
   clear hL hB hpre;have x3:=HZ.out;have x4:=HC.out;have HE:zKr wr b (off+j*8) s (j*8):=fun i hi=>by
    rw[HB.out.cell (p:=⟨b,off+j*8+i,none⟩) hb,Nat.add_assoc];exact HR.out (j*8+i) (by omega)
   have hbr:b<wr.heap.size:=Nat.lt_of_lt_of_le hb HB.out.size;have HO:=hid (zFV s b (off+j*8) (j*8) (s.size-j*8) (cap-j*8) wr hbr (by omega) (by omega) (by unfold maxLen;omega) HE);clear x3 x4 HE;go_wp2_with fail;refine HO.out.mono ?_;rintro e w1 ⟨rfl,hb1⟩;obtain⟨x,hx⟩:∃x,zKs s (j*8)=x:=⟨_,rfl⟩;have hx':zAG s j=x:=by rw[<-hx];unfold zKs zAG;rw[Nat.mul_comm]
   have HX:=hid hx';rw[hx];have L1:=HL.out.below hb1;have HL1:=hid L1;have HB1:=hid (HB.out.trans (hb1.mono HB.out.size));have c0:=L1.op j (by omega);have c1:=L1.r j (by omega);have c2:=L1.t j (by omega);have c3:=L1.f j (by omega);have c4:=L1.k j (by omega);have f0:=L1.froz (j*5);have f1:=L1.froz (j*5+1);have f2:=L1.froz (j*5+2);have f3:=L1.froz (j*5+3);have f4:=L1.froz (j*5+4);clear hx hx' hb1 L1 HB HL;unfold zCL;go_wp2_with fail;have HFI:Hid (x.fits=true):=by rw[<-HX.out];exact HF.out.fits j hlt
   refine(zJ9 x _).mono ?_;rintro e w2 ⟨rfl,hb2⟩;rw[HFI.out];have hb2:Below w1.heap.size (zFW w1 w.heap.size j x) w2:=by
    rw[<-zCq w1 w.heap.size j x];exact hb2
   have HL2:=hid ((HL1.out.store j (by omega) x).below (by rw[zCq];exact hb2));have HB2:=hid ((zEb HB1.out _ _ _ (Nat.le_refl _)).trans (hb2.mono HB1.out.size));clear hb2 c0 c1 c2 c3 c4 f0 f1 f2 f3 f4 HL1 HB1;go_wp2_with fail;go_roundw
   case rel=>
    refine⟨j+1,l.set j x,by omega,by go_num,by simp[hl],fun i hi=> ?_,HL2.out,HB2.out⟩
    by_cases e:j=i
    ·subst e;rw[zB3 _ _ _ _ (by omega),HX.out]
    ·rw[zCl _ _ _ _ _ e];exact HP.out i (by omega)
   case measure=>simp[intOf];omega
  ·have e:j=n:=by omega
   subst e;have HL:=hid hL;have HB:=hid hB;have HP:=hid hpre;clear hL hB hpre;go_wp2_with fail;go_ret2;refine⟨rfl,HB.out,?_⟩;have e:l=(List.range j).map (zAG s):=by
    apply List.ext_getElem
    ·simp[hl]
    ·intro i h1 h2
     have:=HP.out i (by omega);rw[List.getD_eq_getElem?_getD,List.getElem?_eq_getElem h1] at this
     simpa using this
   rw[<-e];exact HL.out
theorem zOf (s:ByteArray) (n q b off cap:Nat) (w:World) (hc:s.size<=cap) (hm:cap<=maxLen) (hb:b<w.heap.size) (hr:Row w b off s) (h:zL3 s n) (hq:q<n) (hbad:(zAG s q).fits=false) (hgood:∀j,j<q->(zAG s j).fits=true):
 Calls Tryz.prog 177 #[.slice (some ⟨b,off,none⟩) s.size cap] w fun e w'=>∃c,e= .returned (.tuple #[.slice none 0 0,.iface 96 (.pointer (some ⟨c,0,none⟩))])/\Below w.heap.size w w'/\w.heap.size<=c/\c<w'.heap.size/\w'.cell? ⟨c,0,none⟩=some (.int .i64 q)/\w'.cell? ⟨c,1,none⟩=some (.int .i64 10):=by
 unfold maxLen at hm;have hz:=h.size;have h1:=h.pos;have h2:=h.most;have h8':((s.size:Int) % 8 !=0)=false:=by rw[bne_eq_false_iff_eq];omega
 have h0':((s.size:Int) / 8 == 0)=false:=by rw[beq_eq_false_iff_ne];omega
 have h4:(s.size:Int) / 8<=4096:=by omega
 have hn:(s.size:Int) / 8=n:=by omega
 have hmk:∀w,(Instr.makeSlice 220 (.int .i64 ((s.size:Int) / 8)) (.int .i64 ((s.size:Int) / 8))).run Tryz.prog w= .ok (.slice (some ⟨w.heap.size,0,none⟩) n n) (w.alloc (.cells (madeCells #[.int .u8 0,.int .u8 0,.int .u8 0,.int .u8 0,.int .u32 0] (n*5)) 250)):=by
  intro w;rw[hn];exact zDn (P:=Tryz.prog) 220 250 _ 5 8 Tryz.underlying220 zM2 .i64 .i64 n (by omega) (by omega) w
 have HR:=hid hr;have HBAD:=hid hbad;have HG:=hid hgood;have hs:s.size<=32768:=by omega
 have HZ:=hid hz;have HC:=hid hc;clear hr h hz hn hc hbad hgood;go_enter Tryz.func177,Tryz.ntmps177;go_wp2;go_loopw [29] (fun i wr=>∃(j:Nat) (l:List Ins),j<=q/\i= .int .i64 j/\l.length=n/\Lst wr w.heap.size l/\Below w.heap.size w wr) (fun i _=>n-(intOf i).toNat)
 case atStart=>exact⟨0,List.replicate n ⟨0,0,0,0,0⟩,Nat.zero_le _,rfl,by simp,Lst.made w n,bal _ _⟩
 case round=>
  obtain⟨j,l,hj,rfl,hl,hL,hB⟩:=hrel;have hjn:j<n:=by omega
  have HL:=hid hL;have HB:=hid hB;have x1:(j:Int)*8<=(s.size:Int):=by have:=HZ.out;omega
  have x2:(cap:Int)≠(j:Int)*8:=by have:=HZ.out;have:=HC.out;omega
  clear hL hB;have x3:=HZ.out;have x4:=HC.out;have HE:zKr wr b (off+j*8) s (j*8):=fun i hi=>by
   rw[HB.out.cell (p:=⟨b,off+j*8+i,none⟩) hb,Nat.add_assoc];exact HR.out (j*8+i) (by omega)
  have hbr:b<wr.heap.size:=Nat.lt_of_lt_of_le hb HB.out.size;have HO:=hid (zFV s b (off+j*8) (j*8) (s.size-j*8) (cap-j*8) wr hbr (by omega) (by omega) (by unfold maxLen;omega) HE);clear x3 x4 HE;go_wp2_with fail;refine HO.out.mono ?_;rintro e w1 ⟨rfl,hb1⟩;obtain⟨x,hx⟩:∃x,zKs s (j*8)=x:=⟨_,rfl⟩;have hx':zAG s j=x:=by rw[<-hx];unfold zKs zAG;rw[Nat.mul_comm]
  have HX:=hid hx';rw[hx];have L1:=HL.out.below hb1;have HL1:=hid L1;have HB1:=hid (HB.out.trans (hb1.mono HB.out.size));have c0:=L1.op j (by omega);have c1:=L1.r j (by omega);have c2:=L1.t j (by omega);have c3:=L1.f j (by omega);have c4:=L1.k j (by omega);have f0:=L1.froz (j*5);have f1:=L1.froz (j*5+1);have f2:=L1.froz (j*5+2);have f3:=L1.froz (j*5+3);have f4:=L1.froz (j*5+4);clear hx hx' hb1 L1 HB HL;unfold zCL;go_wp2_with fail;refine(zJ9 x _).mono ?_;rintro e w2 ⟨rfl,hb2⟩;have hb2:Below w1.heap.size (zFW w1 w.heap.size j x) w2:=by
   rw[<-zCq w1 w.heap.size j x];exact hb2
  have HL2:=hid ((HL1.out.store j (by omega) x).below (by rw[zCq];exact hb2));have HB2:=hid ((zEb HB1.out _ _ _ (Nat.le_refl _)).trans (hb2.mono HB1.out.size));clear hb2 c0 c1 c2 c3 c4 f0 f1 f2 f3 f4 HL1 HB1
  by_cases hlt:j<q
  ·have HFI:Hid (x.fits=true):=by rw[<-HX.out];exact HG.out j hlt
   rw[HFI.out];go_wp2_with fail;go_roundw
   case rel=>exact⟨j+1,l.set j x,by omega,by go_num,by simp[hl],HL2.out,HB2.out⟩
   case measure=>simp[intOf];omega
  ·have e:j=q:=by omega
   subst e;have HFI:Hid (x.fits=false):=by rw[<-HX.out];exact HBAD.out
   rw[HFI.out];go_wp2_with fail;go_ret2;refine⟨w2.heap.size,rfl,HB2.out.alloc HB2.out.size _,HB2.out.size,by simp,?_,?_⟩
   ·rw[World.cell?_alloc_at _ _ _ _ rfl];rfl
   ·rw[World.cell?_alloc_at _ _ _ _ rfl];rfl
end Go.Proofs.YtclpnafiiobfhaaGreatDoor

import Derived.Test.YtclpnafiiobfhaaGreatDoorQ07
set_option linter.unusedVariables false
set_option linter.unusedSimpArgs false
set_option maxRecDepth 100000
set_option maxHeartbeats 3200000
namespace Go.Proofs.YtclpnafiiobfhaaGreatDoor
open Go.RowKit
def zP3 (v:List Nat):Value:= .iface 324 (.agg #[.int .u32 (n0 v 0),.int .u32 (n0 v 1)])
def zP4 (v:List Nat):Value:= .iface 325 (.agg #[.int .u32 (n0 v 0),.int .u32 (n0 v 1)])
def zE7 (v:List Nat):Value:= .iface 295 (.agg #[.int .u16 (n0 v 0),.int .u16 (n0 v 1)])
def zE8 (v:List Nat):Value:= .iface 296 (.agg #[.int .u16 (n0 v 0),.int .u16 (n0 v 1)])
def zF9 (c:Nat) (v:List Nat):Value:=
 if c=0 then zER v else if c=1 then zP3 v else if c=2 then zP4 v else if c=3 then zE2 v else if c=4 then zE7 v else if c=5 then zE8 v else if c=6 then zES v else zDR v
theorem zRD (s:ByteArray) (w:World) (hs:s.size<=2000) (hm:zBx w):
 Calls Tryz.prog 164 #[.string ⟨#[105,110]⟩,.string s] w fun e w'=>zBA (zCA s) zER e/\Below w.heap.size w w':=by
 have HC:=hid (zGc s w hs);obtain⟨k,l,hk⟩:∃k l,zCA s=(k,l):=⟨_,_,rfl⟩;rw[hk] at HC;rw[hk];clear hm hk
 by_cases h0:k=0
 ·subst h0
  go_enter Tryz.func164,Tryz.ntmps164;go_wp2_with (go_at_call 188;refine HC.out.mono ?_;rintro e w1 ⟨hg,hw⟩;obtain rfl:=hg.1 rfl;clear hg);go_ret2;exact⟨zBA.fine rfl rfl,hw▸Below.refl _ _⟩
 ·go_enter Tryz.func164,Tryz.ntmps164
  go_wp2_with (go_at_call 188;refine HC.out.mono ?_;rintro e w1 ⟨hg,hw⟩;obtain⟨v,rfl⟩:=hg.2 h0;clear hg);go_ret2;exact⟨⟨fun h=>absurd h h0,fun _=>⟨_,rfl⟩⟩,hw▸Below.refl _ _⟩
theorem zRE (s:ByteArray) (w:World) (hs:s.size<=2000) (hm:zBx w):
 Calls Tryz.prog 164 #[.string ⟨#[102,114,111,109]⟩,.string s] w fun e w'=>zBA (zAX s) zP3 e/\Below w.heap.size w w':=by
 have HC:=hid (zE6 s w hs hm);obtain⟨k,l,hk⟩:∃k l,zAX s=(k,l):=⟨_,_,rfl⟩;rw[hk] at HC;rw[hk];clear hm hk
 by_cases h0:k=0
 ·subst h0
  go_enter Tryz.func164,Tryz.ntmps164;go_wp2_with (go_at_call 189;refine HC.out.mono ?_;rintro e w1 ⟨hg,hw⟩;obtain rfl:e= .returned (.tuple #[.agg #[.int .u32 (n0 l 0),.int .u32 (n0 l 1)],.nilIface]):=hg.1 rfl;clear hg);go_ret2;exact⟨zBA.fine rfl rfl,hw.alloc hw.size _⟩
 ·go_enter Tryz.func164,Tryz.ntmps164
  go_wp2_with (go_at_call 189;refine HC.out.mono ?_;rintro e w1 ⟨hg,hw⟩;obtain rfl:e= .returned (.tuple #[.agg #[.int .u32 0,.int .u32 0],.iface 22 (.int .i64 (k:Int))]):=hg.2 h0;clear hg);go_ret2;exact⟨⟨fun h=>absurd h h0,fun _=>⟨_,rfl⟩⟩,hw.alloc hw.size _⟩
theorem zRF (s:ByteArray) (w:World) (hs:s.size<=2000) (hm:zBx w):
 Calls Tryz.prog 164 #[.string ⟨#[116,111]⟩,.string s] w fun e w'=>zBA (zAX s) zP4 e/\Below w.heap.size w w':=by
 have HC:=hid (zE6 s w hs hm);obtain⟨k,l,hk⟩:∃k l,zAX s=(k,l):=⟨_,_,rfl⟩;rw[hk] at HC;rw[hk];clear hm hk
 by_cases h0:k=0
 ·subst h0
  go_enter Tryz.func164,Tryz.ntmps164;go_wp2_with (go_at_call 189;refine HC.out.mono ?_;rintro e w1 ⟨hg,hw⟩;obtain rfl:e= .returned (.tuple #[.agg #[.int .u32 (n0 l 0),.int .u32 (n0 l 1)],.nilIface]):=hg.1 rfl;clear hg);go_ret2;exact⟨zBA.fine rfl rfl,hw.alloc hw.size _⟩
 ·go_enter Tryz.func164,Tryz.ntmps164
  go_wp2_with (go_at_call 189;refine HC.out.mono ?_;rintro e w1 ⟨hg,hw⟩;obtain rfl:e= .returned (.tuple #[.agg #[.int .u32 0,.int .u32 0],.iface 22 (.int .i64 (k:Int))]):=hg.2 h0;clear hg);go_ret2;exact⟨⟨fun h=>absurd h h0,fun _=>⟨_,rfl⟩⟩,hw.alloc hw.size _⟩
theorem zRG (s:ByteArray) (w:World) (hs:s.size<=2000) (hm:zBx w):
 Calls Tryz.prog 164 #[.string ⟨#[112,114,111,116,111]⟩,.string s] w fun e w'=>zBA (zAu s) zE2 e/\Below w.heap.size w w':=by
 have HC:=hid (zGd s w);obtain⟨k,l,hk⟩:∃k l,zAu s=(k,l):=⟨_,_,rfl⟩;rw[hk] at HC;rw[hk];clear hm hk
 by_cases h0:k=0
 ·subst h0
  go_enter Tryz.func164,Tryz.ntmps164;go_wp2_with (go_at_call 190;refine HC.out.mono ?_;rintro e w1 ⟨hg,hw⟩;obtain rfl:=hg.1 rfl;clear hg);go_ret2;exact⟨zBA.fine rfl rfl,hw▸Below.refl _ _⟩
 ·go_enter Tryz.func164,Tryz.ntmps164
  go_wp2_with (go_at_call 190;refine HC.out.mono ?_;rintro e w1 ⟨hg,hw⟩;obtain⟨v,rfl⟩:=hg.2 h0;clear hg);go_ret2;exact⟨⟨fun h=>absurd h h0,fun _=>⟨_,rfl⟩⟩,hw▸Below.refl _ _⟩
theorem zRH (s:ByteArray) (w:World) (hs:s.size<=2000) (hm:zBx w):
 Calls Tryz.prog 164 #[.string ⟨#[115,112,111,114,116]⟩,.string s] w fun e w'=>zBA (zAI s) zE7 e/\Below w.heap.size w w':=by
 have HC:=hid (zDl s w hs hm);obtain⟨k,l,hk⟩:∃k l,zAI s=(k,l):=⟨_,_,rfl⟩;rw[hk] at HC;rw[hk];clear hm hk
 by_cases h0:k=0
 ·subst h0
  go_enter Tryz.func164,Tryz.ntmps164;go_wp2_with (go_at_call 191;refine HC.out.mono ?_;rintro e w1 ⟨hg,hw⟩;obtain rfl:e= .returned (.tuple #[.agg #[.int .u16 (n0 l 0),.int .u16 (n0 l 1)],.nilIface]):=hg.1 rfl;clear hg);go_ret2;exact⟨zBA.fine rfl rfl,hw.alloc hw.size _⟩
 ·go_enter Tryz.func164,Tryz.ntmps164
  go_wp2_with (go_at_call 191;refine HC.out.mono ?_;rintro e w1 ⟨hg,hw⟩;obtain rfl:e= .returned (.tuple #[.agg #[.int .u16 0,.int .u16 0],.iface 22 (.int .i64 (k:Int))]):=hg.2 h0;clear hg);go_ret2;exact⟨⟨fun h=>absurd h h0,fun _=>⟨_,rfl⟩⟩,hw.alloc hw.size _⟩
theorem zRI (s:ByteArray) (w:World) (hs:s.size<=2000) (hm:zBx w):
 Calls Tryz.prog 164 #[.string ⟨#[100,112,111,114,116]⟩,.string s] w fun e w'=>zBA (zAI s) zE8 e/\Below w.heap.size w w':=by
 have HC:=hid (zDl s w hs hm);obtain⟨k,l,hk⟩:∃k l,zAI s=(k,l):=⟨_,_,rfl⟩;rw[hk] at HC;rw[hk];clear hm hk
 by_cases h0:k=0
 ·subst h0
  go_enter Tryz.func164,Tryz.ntmps164;go_wp2_with (go_at_call 191;refine HC.out.mono ?_;rintro e w1 ⟨hg,hw⟩;obtain rfl:e= .returned (.tuple #[.agg #[.int .u16 (n0 l 0),.int .u16 (n0 l 1)],.nilIface]):=hg.1 rfl;clear hg);go_ret2;exact⟨zBA.fine rfl rfl,hw.alloc hw.size _⟩
 ·go_enter Tryz.func164,Tryz.ntmps164
  go_wp2_with (go_at_call 191;refine HC.out.mono ?_;rintro e w1 ⟨hg,hw⟩;obtain rfl:e= .returned (.tuple #[.agg #[.int .u16 0,.int .u16 0],.iface 22 (.int .i64 (k:Int))]):=hg.2 h0;clear hg);go_ret2;exact⟨⟨fun h=>absurd h h0,fun _=>⟨_,rfl⟩⟩,hw.alloc hw.size _⟩
theorem zRJ (s:ByteArray) (w:World) (hs:s.size<=2000) (hm:zBx w):
 Calls Tryz.prog 164 #[.string ⟨#[102,108,97,103,115]⟩,.string s] w fun e w'=>zBA (zAk s) zES e/\Below w.heap.size w w':=by
 have HC:=hid (zGf s w hs hm);obtain⟨k,l,hk⟩:∃k l,zAk s=(k,l):=⟨_,_,rfl⟩;rw[hk] at HC;rw[hk];clear hm hk
 by_cases h0:k=0
 ·subst h0
  go_enter Tryz.func164,Tryz.ntmps164;go_wp2_with (go_at_call 192;refine HC.out.mono ?_;rintro e w1 ⟨hg,hw⟩;obtain rfl:=hg.1 rfl;clear hg);go_ret2;exact⟨zBA.fine rfl rfl,hw⟩
 ·go_enter Tryz.func164,Tryz.ntmps164
  go_wp2_with (go_at_call 192;refine HC.out.mono ?_;rintro e w1 ⟨hg,hw⟩;obtain⟨v,rfl⟩:=hg.2 h0;clear hg);go_ret2;exact⟨⟨fun h=>absurd h h0,fun _=>⟨_,rfl⟩⟩,hw⟩
theorem zRK (s:ByteArray) (w:World) (hs:s.size<=2000) (hm:zBx w):
 Calls Tryz.prog 164 #[.string ⟨#[115,116,97,116,101]⟩,.string s] w fun e w'=>zBA (zAc s) zDR e/\Below w.heap.size w w':=by
 have HC:=hid (zFo s w hs hm);obtain⟨k,l,hk⟩:∃k l,zAc s=(k,l):=⟨_,_,rfl⟩;rw[hk] at HC;rw[hk];clear hm hk
 by_cases h0:k=0
 ·subst h0
  go_enter Tryz.func164,Tryz.ntmps164;go_wp2_with (go_at_call 193;refine HC.out.mono ?_;rintro e w1 ⟨hg,hw⟩;obtain rfl:=hg.1 rfl;clear hg);go_ret2;exact⟨zBA.fine rfl rfl,hw⟩
 ·go_enter Tryz.func164,Tryz.ntmps164
  go_wp2_with (go_at_call 193;refine HC.out.mono ?_;rintro e w1 ⟨hg,hw⟩;obtain⟨v,rfl⟩:=hg.2 h0;clear hg);go_ret2;exact⟨⟨fun h=>absurd h h0,fun _=>⟨_,rfl⟩⟩,hw⟩
theorem zOO (c:Nat) (hc:c<8) (s:ByteArray) (w:World) (hs:s.size<=2000) (hm:zBx w):
 Calls Tryz.prog 164 #[.string (nws.getD c ByteArray.empty),.string s] w fun e w'=>zBA (zAf c s) (zF9 c) e/\Below w.heap.size w w':=by
 rcases c with _|_|_|_|_|_|_|_|c
 ·exact zRD s w hs hm
 ·exact zRE s w hs hm
 ·exact zRF s w hs hm
 ·exact zRG s w hs hm
 ·exact zRH s w hs hm
 ·exact zRI s w hs hm
 ·exact zRJ s w hs hm
 ·exact zRK s w hs hm
 ·omega
theorem zP5 (ws:List ByteArray) (s:ByteArray) (k:Nat) (h:plc ws s=(k:Int)):ws.getD k ByteArray.empty=s:=by
 have key:∀(l:List ByteArray) (i m:Nat),Lib.idxFromS l s i=((i+m:Nat):Int)->l.getD m ByteArray.empty=s:=by
  intro l
  induction l with
  |nil=>intro i m h;simp[Lib.idxFromS] at h;omega
  |cons z l ih=>
   intro i m h;unfold Lib.idxFromS at h
   split at h
   ·rename_i e
    have:m=0:=by omega
    subst this;exact e
   ·rcases m with _|m
    ·have hge:∀(l:List ByteArray) (i:Nat),Lib.idxFromS l s i= -1\/(i:Int)<=Lib.idxFromS l s i:=by
      intro l
      induction l with
      |nil=>intro i;exact Or.inl rfl
      |cons z l ih=>
       intro i;unfold Lib.idxFromS
       split
       ·right;omega
       ·rcases ih (i+1) with h|h
        ·exact Or.inl h
        ·right;omega
     rcases hge l (i+1) with h'|h'<;>omega
    ·have:=ih (i+1) m (by rw[h];congr 1;omega)
     simpa using this
 exact key ws 0 k (by rw[Nat.zero_add];exact h)
theorem zDE (c:Nat) (l:List Nat):∃T x,zF9 c l= .iface T x:=by
 unfold zF9
 by_cases h0:c=0
 ·rw[if_pos h0];exact⟨_,_,rfl⟩
 rw[if_neg h0]
 by_cases h1:c=1
 ·rw[if_pos h1];exact⟨_,_,rfl⟩
 rw[if_neg h1]
 by_cases h2:c=2
 ·rw[if_pos h2];exact⟨_,_,rfl⟩
 rw[if_neg h2]
 by_cases h3:c=3
 ·rw[if_pos h3];exact⟨_,_,rfl⟩
 rw[if_neg h3]
 by_cases h4:c=4
 ·rw[if_pos h4];exact⟨_,_,rfl⟩
 rw[if_neg h4]
 by_cases h5:c=5
 ·rw[if_pos h5];exact⟨_,_,rfl⟩
 rw[if_neg h5]
 by_cases h6:c=6
 ·rw[if_pos h6];exact⟨_,_,rfl⟩
 rw[if_neg h6];exact⟨_,_,rfl⟩
def zAA (cs:Cs) (c:Nat):Value:=match cs.getD c none with
 |none=> .nilIface
 |some v=>zF9 c v
structure zBz (w:World) (g:Nat) (v:Nat) (cs:Cs):Prop where
 c0:w.cell? ⟨g,0,none⟩=some (.int .u8 (v:Int))
 cc:∀c,c<8->w.cell? ⟨g,1+c,none⟩=some (zAA cs c)
 f:∀i,w.frozen? ⟨g,i,none⟩=false
 lt:g<w.heap.size
theorem zBz.below {w w':World} {g B v:Nat} {cs:Cs} (h:zBz w g v cs) (hw:Below B w w') (hg:g<B):zBz w' g v cs:=
 ⟨(hw.cell (p:=⟨g,0,none⟩) hg).trans h.c0,fun c hc=>(hw.cell (p:=⟨g,1+c,none⟩) hg).trans (h.cc c hc),fun i=>(hw.frozen (p:=⟨g,i,none⟩) hg).trans (h.f i),Nat.lt_of_lt_of_le h.lt hw.size⟩
theorem zHe (cs:Cs) (c d:Nat) (v:List Nat) (hc:c<cs.length):zAA (cs.set c (some v)) d=if c=d then zF9 d v else zAA cs d:=by
 unfold zAA;rw[List.getD_eq_getElem?_getD,List.getD_eq_getElem?_getD,List.getElem?_set]
 by_cases e:c=d
 ·subst e;simp[hc]
 ·simp[e]
theorem zBz.set {w:World} {g v:Nat} {cs:Cs} (h:zBz w g v cs) (hl:cs.length=8) (c:Nat) (hc:c<8) (l:List Nat):zBz (w.setCell ⟨g,1+c,none⟩ (zF9 c l)) g v (cs.set c (some l)):=by
 refine⟨?_,fun d hd=> ?_,fun i=>by simp[h.f],by simp[World.setCell];exact h.lt⟩
 ·rw[World.cell?_setCell_other _ _ _ _ (by intro q;injection q;omega)];exact h.c0
 ·rw[zHe _ _ _ _ (by omega)]
  by_cases e:c=d
  ·subst e
   rw[if_pos rfl];exact World.cell?_setCell_same _ _ _ (h.cc c hc)
  ·rw[if_neg e,World.cell?_setCell_other _ _ _ _ (by intro q;apply e;injection q;omega)]
   exact h.cc d hd
def zBQ (ps:List ByteArray) (cs:Cs):Nat×Cs:=
 if plc nws (ps.getD 0 ByteArray.empty)<0\/ps.length<2 then(3,cs)
 else if(cs.getD (plc nws (ps.getD 0 ByteArray.empty)).toNat none).isSome then(6,cs)
 else if(zAf (plc nws (ps.getD 0 ByteArray.empty)).toNat (ps.getD 1 ByteArray.empty)).1≠0 then((zAf (plc nws (ps.getD 0 ByteArray.empty)).toNat (ps.getD 1 ByteArray.empty)).1,cs)
 else(0,cs.set (plc nws (ps.getD 0 ByteArray.empty)).toNat (some (zAf (plc nws (ps.getD 0 ByteArray.empty)).toNat (ps.getD 1 ByteArray.empty)).2))
theorem zKg (ps:List ByteArray) (cs:Cs) (h:ps≠[]):zAy ps cs=if(zBQ ps cs).1≠0 then((zBQ ps cs).1,cs) else zAy (ps.drop 2) (zBQ ps cs).2:=by
 match ps,h with
 |[n],_=>
  have e:zBQ [n] cs=(3,cs):=by unfold zBQ;rw[if_pos (Or.inr (by simp))]
  rw[e];rfl
 |n::p::r,_=>
  rw[zAy];have hl:¬(n::p::r).length<2:=by simp
  by_cases h1:plc nws n<0
  ·have e:zBQ (n::p::r) cs=(3,cs):=by unfold zBQ;exact if_pos (Or.inl h1)
   rw[if_pos h1,e];rfl
  rw[if_neg h1];have h1':¬(plc nws ((n::p::r).getD 0 ByteArray.empty)<0\/(n::p::r).length<2):=fun q=>q.elim h1 hl
  by_cases h2:(cs.getD (plc nws n).toNat none).isSome=true
  ·have e:zBQ (n::p::r) cs=(6,cs):=by
    unfold zBQ;rw[if_neg h1'];exact if_pos h2
   rw[if_pos h2,e];rfl
  rw[if_neg h2]
  by_cases h3:(zAf (plc nws n).toNat p).1≠0
  ·have e:zBQ (n::p::r) cs=((zAf (plc nws n).toNat p).1,cs):=by
    unfold zBQ;rw[if_neg h1'];exact(if_neg h2).trans (if_pos h3)
   rw[if_pos h3,e,if_pos h3]
  rw[if_neg h3];have e:zBQ (n::p::r) cs=(0,cs.set (plc nws n).toNat (some (zAf (plc nws n).toNat p).2)):=by
   unfold zBQ;rw[if_neg h1'];exact(if_neg h2).trans (if_neg h3)
  rw[e];rfl
def zSJ (k:Nat):Value:=if k=0 then .nilIface else .iface 22 (.int .i64 (k:Int))
theorem zJt {k:Nat} (h:k≠0):zSJ k= .iface 22 (.int .i64 (k:Int)):=if_neg h
theorem zOP (g v:Nat) (cs:Cs) (ps:List ByteArray) (b off cap:Nat) (w:World) (hR:zBz w g v cs) (hl:cs.length=8) (hp:1<=ps.length) (hpl:ps.length<=3000) (hps:∀p ∈ ps,p.size<=2000) (hb:b<w.heap.size) (hS:zB2 w b off ps) (hm:zBx w):
 Calls Tryz.prog 139 #[.pointer (some ⟨g,0,none⟩),.slice (some ⟨b,off,none⟩) ps.length cap] w fun e w'=>e= .returned (zSJ (zBQ ps cs).1)/\zBz w' g v (zBQ ps cs).2/\Tch g w w':=by
 have c0:=hS 0 (by omega);rw[Nat.add_zero] at c0;obtain⟨p0,hp0⟩:∃p,ps.getD 0 ByteArray.empty=p:=⟨_,rfl⟩;rw[hp0] at c0;have HP0:=hid hp0;have HR:=hid hR;have HS:=hid hS;have HPS:=hid hps;have HM:Hid (zBx w):=hm;have hgl:=hR.lt;have hlt8:=zCy nws p0;have e8:nws.length=8:=rfl;rw[e8] at hlt8;have l0:(0:Int)<(ps.length:Int):=by omega
 have hIx:∀W,zB2 W w.heap.size 0 nws->Calls Tryz.prog 163 #[.slice (some ⟨w.heap.size,0,none⟩) 8 8,.string p0] W fun e w'=>e= .returned (.int .i64 (plc nws p0))/\Below W.heap.size W w':=fun W h=>zDW nws w.heap.size 0 8 p0 W (by decide) h
 clear hS hR hm hp0 hps e8;go_enter Tryz.func139,Tryz.ntmps139;go_upto_region 1 with fail
 go_cut [5] from 6 (fun x w'=>x= .int .i64 (plc nws p0)/\Below w.heap.size w w')
 case first=>
  go_region_with (first|(go_at_call 97;refine(zLz _).mono ?_;rintro e w' ⟨rfl,rfl⟩)|(go_at_call 163;refine(hIx _ (by exact zB2.made w nws _)).mono ?_;rintro e w2 ⟨rfl,hb2⟩))
  all_goals
   go_wp2_with fail;go_meet;refine⟨rfl,?_⟩;refine Below.trans ?_ (hb2.mono (by simp))
   repeat (with_reducible first|exact Below.refl _ _|refine Below.drew ?_|refine Below.alloc ?_ (by first|(simp;done)|(simp;omega)) _)
 case rest=>
  obtain⟨rfl,hb1⟩:=hcut;obtain⟨wb,rfl⟩:∃x,x=wc:=⟨_,rfl⟩;have HB1:=hid hb1;have HR1:Hid (zBz wb g v cs):=HR.out.below hb1 hgl;have zc:w.heap.size<=wb.heap.size:=hb1.size;clear hb1 c0 hIx
  by_cases hneg:plc nws p0<0
  ·have HE:Hid (zBQ ps cs=(3,cs)):=show zBQ ps cs=(3,cs) by unfold zBQ;rw[HP0.out];exact if_pos (Or.inl hneg)
   go_wp2_with fail;go_ret;rw[HE.out];exact⟨rfl,HR1.out,Tch.of HB1.out⟩
  by_cases hlen:ps.length<2
  ·have HE:Hid (zBQ ps cs=(3,cs)):=show zBQ ps cs=(3,cs) by unfold zBQ;exact if_pos (Or.inr hlen)
   have hneg':(0:Int)<=plc nws p0:=by omega
   have hlen':(ps.length:Int)<2:=by omega
   clear hneg hlen;go_wp2_with fail;go_ret;rw[HE.out];exact⟨rfl,HR1.out,Tch.of HB1.out⟩
  obtain⟨c,hc⟩:∃c:Nat,plc nws p0=c:=⟨(plc nws p0).toNat,by omega⟩;have HC:=hid hc;have hc8:c<8:=by omega
  have HN:Hid (nws.getD c ByteArray.empty=p0):=zP5 nws p0 c hc;have hlen':(2:Int)<=(ps.length:Int):=by omega
  have c0:=HS.out 0 (by omega);have c1:=HS.out 1 (by omega);rw[Nat.add_zero,HP0.out] at c0;obtain⟨p1,hp1⟩:∃p,ps.getD 1 ByteArray.empty=p:=⟨_,rfl⟩;have HP1:=hid hp1;rw[hp1] at c1;have hs1:p1.size<=2000:=HPS.out p1 (by
   rw[<-hp1,List.getD_eq_getElem?_getD,List.getElem?_eq_getElem (by omega:1<ps.length)];exact List.getElem_mem _)
  rw[<-HB1.out.cell (p:=⟨b,off,none⟩) hb] at c0;rw[<-HB1.out.cell (p:=⟨b,off+1,none⟩) hb] at c1;have H3:Hid (¬(plc nws (ps.getD 0 ByteArray.empty)<0\/ps.length<2)):=by
   intro q;rw[HP0.out] at q;omega
  rw[hc];have l1:(1:Int)<(ps.length:Int):=by omega
  clear hneg hlen hc hp1 hlt8;have cc:=HR1.out.cc c hc8;cases hsome:cs.getD c none with
  |some l0=>
   have HE:Hid (zBQ ps cs=(6,cs)):=show zBQ ps cs=(6,cs) by
    unfold zBQ;rw[if_neg H3.out,HP0.out,HC.out,Int.toNat_natCast];exact if_pos (by rw[hsome];rfl)
   have hcell:zAA cs c=zF9 c l0:=by unfold zAA;rw[hsome]
   obtain⟨T,x,hx⟩:=zDE c l0;rw[hcell,hx] at cc;clear hcell hx hsome;go_wp2_with fail;go_ret;rw[HE.out];exact⟨rfl,HR1.out,Tch.of HB1.out⟩
  |none=>
   have hcell:zAA cs c= .nilIface:=by unfold zAA;rw[hsome]
   rw[hcell] at cc;have hsN:¬((cs.getD c none).isSome=true):=by rw[hsome];simp
   have HSN:=hid hsN;clear hcell hsome hsN;have hCd:=zOO c hc8 p1;rw[HN.out] at hCd;obtain⟨k,l,hk⟩:∃k l,zAf c p1=(k,l):=⟨_,_,rfl⟩;have HK:=hid hk;rw[hk] at hCd;have HCd:Hid (∀W,Below wb.heap.size wb W->Calls Tryz.prog 164 #[.string p0,.string p1] W fun e w'=>zBA (k,l) (zF9 c) e/\Below W.heap.size W w'):=fun W hW=>hCd W hs1 ((HM.out.below HB1.out).below hW)
   clear hCd hk
   by_cases h0:k=0
   ·subst h0
    have HE:Hid (zBQ ps cs=(0,cs.set c (some l))):=show zBQ ps cs=(0,cs.set c (some l)) by
     unfold zBQ;rw[if_neg H3.out,HP0.out,HC.out,Int.toNat_natCast,if_neg HSN.out,HP1.out,HK.out];exact if_neg (fun q=>q rfl)
    go_upto_region 6 with fail
    obtain⟨T,xv,hx⟩:=zDE c l;have HX:=hid hx;clear hx;go_cut [6,7] from 29 (fun x y w'=>x= .iface T xv/\y= .nilIface/\Below wb.heap.size wb w')
    case first=>
     go_region_with (go_at_call 164;refine(HCd.out _ (by repeat (with_reducible first|exact Below.refl _ _|refine Below.drew ?_))).mono ?_;rintro e w2 ⟨hg,hb2⟩;obtain rfl:=hg.1 rfl;clear hg)
     all_goals
      go_wp2_with fail;go_meet;exact⟨HX.out,rfl,Below.trans (by repeat (with_reducible first|exact Below.refl _ _|refine Below.drew ?_)) (hb2.mono (by simp))⟩
    case rest=>
     obtain⟨rfl,rfl,hb2⟩:=hcut;obtain⟨wd,rfl⟩:∃x,x=wc:=⟨_,rfl⟩;have zd:wb.heap.size<=wd.heap.size:=hb2.size;have R2:zBz wd g v cs:=HR1.out.below hb2 (by omega);have HR2:=hid R2;have c2:=R2.cc c hc8;have f2:=R2.f (1+c);have HT2:Hid (Tch g w wd):=(Tch.of HB1.out).trans (Tch.of hb2);clear hb2 R2;go_wp2_with fail;go_ret;rw[HE.out];have RS:=HR2.out.set hl c hc8 l;rw[HX.out] at RS;exact⟨rfl,RS,HT2.out.set _ _⟩
   ·have HE:Hid (zBQ ps cs=(k,cs)):=show zBQ ps cs=(k,cs) by
     unfold zBQ;rw[if_neg H3.out,HP0.out,HC.out,Int.toNat_natCast,if_neg HSN.out,HP1.out,HK.out];exact if_pos h0
    go_upto_region 6 with fail
    go_cut [6,7] from 29 (fun x y w'=>y= .iface 22 (.int .i64 (k:Int))/\Below wb.heap.size wb w')
    case first=>
     go_region_with (go_at_call 164;refine(HCd.out _ (by repeat (with_reducible first|exact Below.refl _ _|refine Below.drew ?_))).mono ?_;rintro e w2 ⟨hg,hb2⟩;obtain⟨xv,rfl⟩:=hg.2 h0;clear hg)
     all_goals
      go_wp2_with fail;go_meet;exact⟨rfl,Below.trans (by repeat (with_reducible first|exact Below.refl _ _|refine Below.drew ?_)) (hb2.mono (by simp))⟩
    case rest=>
     obtain⟨rfl,hb2⟩:=hcut;go_wp2_with fail;go_ret;rw[HE.out];refine⟨by rw[zJt h0];rfl,HR1.out.below hb2 (by omega),(Tch.of HB1.out).trans (Tch.of hb2)⟩
theorem zC4 (s:ByteArray) (w:World):
 Calls Tryz.prog 138 #[.string s] w fun e w'=>(0<=plc vws s->e= .returned (.tuple #[.int .u8 (plc vws s),.nilIface]))/\(plc vws s<0->e= .returned (.tuple #[.int .u8 0,.iface 22 (.int .i64 3)]))/\Below w.heap.size w w':=by
 have HI:=hid (zDW vws w.heap.size 0 3 s (w.alloc (.cells (vws.map Value.string).toArray 9)) (by decide) (zB2.made w vws _));have hlt:=zCy vws s;have e3:vws.length=3:=rfl;rw[e3] at hlt HI;clear e3;obtain⟨p,hp⟩:∃p,plc vws s=p:=⟨_,rfl⟩;rw[hp] at hlt HI;rw[hp];clear hp
 by_cases h:p<0
 ·go_enter Tryz.func138,Tryz.ntmps138
  go_wp2_with (first|(go_at_call 65;refine(zCu _).mono ?_;rintro e w' ⟨rfl,rfl⟩)|(go_at_call 163;refine HI.out.mono ?_;rintro e w2 ⟨rfl,hb2⟩));go_ret2;exact⟨fun q=>absurd q (by omega),fun _=>rfl,((Below.refl _ w).alloc (Nat.le_refl _) _).trans (hb2.mono (by simp))⟩
 ·have h':0<=p:=by omega
  clear h;go_enter Tryz.func138,Tryz.ntmps138;go_wp2_with (first|(go_at_call 65;refine(zCu _).mono ?_;rintro e w' ⟨rfl,rfl⟩)|(go_at_call 163;refine HI.out.mono ?_;rintro e w2 ⟨rfl,hb2⟩));go_ret2;exact⟨fun _=>rfl,fun q=>absurd q (by omega),((Below.refl _ w).alloc (Nat.le_refl _) _).trans (hb2.mono (by simp))⟩
def zHf (v:Nat) (cs:Cs):Value:= .agg #[.int .u8 (v:Int),zAA cs 0,zAA cs 1,zAA cs 2,zAA cs 3,zAA cs 4,zAA cs 5,zAA cs 6,zAA cs 7]
structure zGk (x:Value):Prop where
 run:∀w,(Instr.typeAssert x 148 329 true).run Tryz.prog w= .ok (.tuple #[.agg #[.string ByteArray.empty,.int .u8 0],.bool false]) w
theorem zEW:zGk .nilIface:=⟨fun w=>by kernel_rfl⟩
theorem zIy (c:Nat) (l:List Nat) (h:c≠3):zGk (zF9 c l):=by
 unfold zF9
 by_cases h0:c=0
 ·rw[if_pos h0];exact⟨fun w=>by unfold zER;kernel_rfl⟩
 rw[if_neg h0]
 by_cases h1:c=1
 ·rw[if_pos h1];exact⟨fun w=>by unfold zP3;kernel_rfl⟩
 rw[if_neg h1]
 by_cases h2:c=2
 ·rw[if_pos h2];exact⟨fun w=>by unfold zP4;kernel_rfl⟩
 rw[if_neg h2,if_neg h]
 by_cases h4:c=4
 ·rw[if_pos h4];exact⟨fun w=>by unfold zE7;kernel_rfl⟩
 rw[if_neg h4]
 by_cases h5:c=5
 ·rw[if_pos h5];exact⟨fun w=>by unfold zE8;kernel_rfl⟩
 rw[if_neg h5]
 by_cases h6:c=6
 ·rw[if_pos h6];exact⟨fun w=>by unfold zES;kernel_rfl⟩
 rw[if_neg h6];exact⟨fun w=>by unfold zDR;kernel_rfl⟩
theorem zBF (cs:Cs) (c:Nat) (h:c≠3):zGk (zAA cs c):=by
 unfold zAA
 split
 ·exact zEW
 ·exact zIy c _ h
theorem zML (v:Nat) (cs:Cs) (w:World):
 Calls Tryz.prog 165 #[zHf v cs] w fun e w'=>e= .returned (.int .u8 (zAM cs:Int))/\Below w.heap.size w w':=by
 unfold zHf;have n0:=(zBF cs 0 (by decide)).run;have n1:=(zBF cs 1 (by decide)).run;have n2:=(zBF cs 2 (by decide)).run;have n4:=(zBF cs 4 (by decide)).run;have n5:=(zBF cs 5 (by decide)).run;have n6:=(zBF cs 6 (by decide)).run;have n7:=(zBF cs 7 (by decide)).run;have H3:Hid ((∃l,cs.getD 3 none=some l/\zAA cs 3= .iface 329 (.agg #[.string (zLu (l.getD 0 0)),.int .u8 (l.getD 0 0:Nat)])/\zAM cs=l.getD 0 0)\/(zAA cs 3= .nilIface/\zAM cs=0)):=by
  cases h:cs.getD 3 none with
  |none=>exact Or.inr ⟨by unfold zAA;rw[h],by unfold zAM;rw[h];rfl⟩
  |some l=>exact Or.inl ⟨l,rfl,by unfold zAA;rw[h];rfl,by unfold zAM;rw[h];rfl⟩
 generalize zAA cs 0=x0 at*;generalize zAA cs 1=x1 at*;generalize zAA cs 2=x2 at*;generalize zAA cs 3=x3 at*;generalize zAA cs 4=x4 at*;generalize zAA cs 5=x5 at*;generalize zAA cs 6=x6 at*;generalize zAA cs 7=x7 at*;have i0:∀W,(Instr.index 149 (.agg #[x0,x1,x2,x3,x4,x5,x6,x7]) (.int .i64 0)).run Tryz.prog W= .ok x0 W:=fun W=>by kernel_rfl
 have i1:∀W,(Instr.index 149 (.agg #[x0,x1,x2,x3,x4,x5,x6,x7]) (.int .i64 1)).run Tryz.prog W= .ok x1 W:=fun W=>by kernel_rfl
 have i2:∀W,(Instr.index 149 (.agg #[x0,x1,x2,x3,x4,x5,x6,x7]) (.int .i64 2)).run Tryz.prog W= .ok x2 W:=fun W=>by kernel_rfl
 have i3:∀W,(Instr.index 149 (.agg #[x0,x1,x2,x3,x4,x5,x6,x7]) (.int .i64 3)).run Tryz.prog W= .ok x3 W:=fun W=>by kernel_rfl
 have i4:∀W,(Instr.index 149 (.agg #[x0,x1,x2,x3,x4,x5,x6,x7]) (.int .i64 4)).run Tryz.prog W= .ok x4 W:=fun W=>by kernel_rfl
 have i5:∀W,(Instr.index 149 (.agg #[x0,x1,x2,x3,x4,x5,x6,x7]) (.int .i64 5)).run Tryz.prog W= .ok x5 W:=fun W=>by kernel_rfl
 have i6:∀W,(Instr.index 149 (.agg #[x0,x1,x2,x3,x4,x5,x6,x7]) (.int .i64 6)).run Tryz.prog W= .ok x6 W:=fun W=>by kernel_rfl
 have i7:∀W,(Instr.index 149 (.agg #[x0,x1,x2,x3,x4,x5,x6,x7]) (.int .i64 7)).run Tryz.prog W= .ok x7 W:=fun W=>by kernel_rfl
 go_enter Tryz.func165,Tryz.ntmps165;go_wp2;go_loopw [9] (fun i wr=>∃j:Nat,j<=8/\i= .int .i64 j/\(3<j->zAM cs=0)/\Below w.heap.size w wr) (fun i _=>8-(intOf i).toNat)
 case atStart=>exact⟨0,by decide,rfl,fun h=>absurd h (by decide),bal _ _⟩
 case round=>
  obtain⟨j,hj,rfl,h3,hB⟩:=hrel;have HB:=hid hB;have HJ:=hid h3;clear hB h3
  by_cases hlt:j<8
  ·have hj3:j=3\/j≠3:=by omega
   rcases j with _|_|_|_|_|_|_|_|j
   ·go_wp2_with fail
    go_roundw
    case rel=>exact⟨1,by decide,rfl,fun h=>absurd h (by decide),(HB.out.alloc HB.out.size _)⟩
    case measure=>simp[intOf]
   ·go_wp2_with fail
    go_roundw
    case rel=>exact⟨2,by decide,rfl,fun h=>absurd h (by decide),(HB.out.alloc HB.out.size _)⟩
    case measure=>simp[intOf]
   ·go_wp2_with fail
    go_roundw
    case rel=>exact⟨3,by decide,rfl,fun h=>absurd h (by decide),(HB.out.alloc HB.out.size _)⟩
    case measure=>simp[intOf]
   ·rcases H3.out with⟨l,_,hx,hp⟩|⟨hx,hp⟩
    ·subst hx
     have HP:=hid hp;clear hp H3;generalize zLu (l.getD 0 0)=wd at*;generalize l.getD 0 0=pn at*;have ta:∀W,(Instr.typeAssert (.iface 329 (.agg #[.string wd,.int .u8 (pn:Int)])) 148 329 true).run Tryz.prog W= .ok (.tuple #[.agg #[.string wd,.int .u8 (pn:Int)],.bool true]) W:=fun W=>by kernel_rfl
     go_wp2_with fail;go_ret;rw[HP.out];exact⟨rfl,HB.out.alloc HB.out.size _⟩
    ·subst hx
     have HP:=hid hp;have n3:=zEW.run;clear hp H3;go_wp2_with fail;go_roundw
     case rel=>exact⟨4,by decide,rfl,fun _=>HP.out,(HB.out.alloc HB.out.size _)⟩
     case measure=>simp[intOf]
   ·have HP:=hid (HJ.out (by omega))
    go_wp2_with fail;go_roundw
    case rel=>exact⟨5,by decide,rfl,fun _=>HP.out,(HB.out.alloc HB.out.size _)⟩
    case measure=>simp[intOf]
   ·have HP:=hid (HJ.out (by omega))
    go_wp2_with fail;go_roundw
    case rel=>exact⟨6,by decide,rfl,fun _=>HP.out,(HB.out.alloc HB.out.size _)⟩
    case measure=>simp[intOf]
   ·have HP:=hid (HJ.out (by omega))
    go_wp2_with fail;go_roundw
    case rel=>exact⟨7,by decide,rfl,fun _=>HP.out,(HB.out.alloc HB.out.size _)⟩
    case measure=>simp[intOf]
   ·have HP:=hid (HJ.out (by omega))
    go_wp2_with fail;go_roundw
    case rel=>exact⟨8,by decide,rfl,fun _=>HP.out,(HB.out.alloc HB.out.size _)⟩
    case measure=>simp[intOf]
   ·omega
  ·have e:j=8:=by omega
   subst e;have HP:=hid (HJ.out (by omega));go_wp2_with fail;go_ret;rw[HP.out];exact⟨rfl,HB.out⟩
structure zEk (x:Value) (a b c:Bool):Prop where
 s:∃z,∀W,(Instr.typeAssert x 148 295 true).run Tryz.prog W= .ok (.tuple #[z,.bool a]) W
 d:∃z,∀W,(Instr.typeAssert x 148 296 true).run Tryz.prog W= .ok (.tuple #[z,.bool b]) W
 f:∃z,∀W,(Instr.typeAssert x 148 298 true).run Tryz.prog W= .ok (.tuple #[z,.bool c]) W
theorem zCP:zEk .nilIface false false false:=⟨⟨.agg #[.int .u16 0,.int .u16 0],fun W=>by kernel_rfl⟩,⟨.agg #[.int .u16 0,.int .u16 0],fun W=>by kernel_rfl⟩,⟨.agg #[.int .u8 0,.int .u8 0],fun W=>by kernel_rfl⟩⟩
theorem zRL (l:List Nat):zEk (zF9 0 l) false false false:=by
 show zEk (zER l) _ _ _
 exact⟨⟨.agg #[.int .u16 0,.int .u16 0],fun W=>by unfold zER;kernel_rfl⟩,⟨.agg #[.int .u16 0,.int .u16 0],fun W=>by unfold zER;kernel_rfl⟩,⟨.agg #[.int .u8 0,.int .u8 0],fun W=>by unfold zER;kernel_rfl⟩⟩
theorem zRM (l:List Nat):zEk (zF9 1 l) false false false:=by
 show zEk (zP3 l) _ _ _
 exact⟨⟨.agg #[.int .u16 0,.int .u16 0],fun W=>by unfold zP3;kernel_rfl⟩,⟨.agg #[.int .u16 0,.int .u16 0],fun W=>by unfold zP3;kernel_rfl⟩,⟨.agg #[.int .u8 0,.int .u8 0],fun W=>by unfold zP3;kernel_rfl⟩⟩
theorem zRN (l:List Nat):zEk (zF9 2 l) false false false:=by
 show zEk (zP4 l) _ _ _
 exact⟨⟨.agg #[.int .u16 0,.int .u16 0],fun W=>by unfold zP4;kernel_rfl⟩,⟨.agg #[.int .u16 0,.int .u16 0],fun W=>by unfold zP4;kernel_rfl⟩,⟨.agg #[.int .u8 0,.int .u8 0],fun W=>by unfold zP4;kernel_rfl⟩⟩
theorem zRO (l:List Nat):zEk (zF9 3 l) false false false:=by
 show zEk (zE2 l) _ _ _
 exact⟨⟨.agg #[.int .u16 0,.int .u16 0],fun W=>by unfold zE2;kernel_rfl⟩,⟨.agg #[.int .u16 0,.int .u16 0],fun W=>by unfold zE2;kernel_rfl⟩,⟨.agg #[.int .u8 0,.int .u8 0],fun W=>by unfold zE2;kernel_rfl⟩⟩
theorem zRP (l:List Nat):zEk (zF9 4 l) true false false:=by
 show zEk (zE7 l) _ _ _
 exact⟨⟨.agg #[.int .u16 (n0 l 0),.int .u16 (n0 l 1)],fun W=>by unfold zE7;kernel_rfl⟩,⟨.agg #[.int .u16 0,.int .u16 0],fun W=>by unfold zE7;kernel_rfl⟩,⟨.agg #[.int .u8 0,.int .u8 0],fun W=>by unfold zE7;kernel_rfl⟩⟩
theorem zRQ (l:List Nat):zEk (zF9 5 l) false true false:=by
 show zEk (zE8 l) _ _ _
 exact⟨⟨.agg #[.int .u16 0,.int .u16 0],fun W=>by unfold zE8;kernel_rfl⟩,⟨.agg #[.int .u16 (n0 l 0),.int .u16 (n0 l 1)],fun W=>by unfold zE8;kernel_rfl⟩,⟨.agg #[.int .u8 0,.int .u8 0],fun W=>by unfold zE8;kernel_rfl⟩⟩
theorem zRR (l:List Nat):zEk (zF9 6 l) false false true:=by
 show zEk (zES l) _ _ _
 exact⟨⟨.agg #[.int .u16 0,.int .u16 0],fun W=>by unfold zES;kernel_rfl⟩,⟨.agg #[.int .u16 0,.int .u16 0],fun W=>by unfold zES;kernel_rfl⟩,⟨.agg #[.int .u8 (n0 l 0),.int .u8 (n0 l 1)],fun W=>by unfold zES;kernel_rfl⟩⟩
theorem zRS (l:List Nat):zEk (zF9 7 l) false false false:=by
 show zEk (zDR l) _ _ _
 exact⟨⟨.agg #[.int .u16 0,.int .u16 0],fun W=>by unfold zDR;kernel_rfl⟩,⟨.agg #[.int .u16 0,.int .u16 0],fun W=>by unfold zDR;kernel_rfl⟩,⟨.agg #[.int .u8 0,.int .u8 0],fun W=>by unfold zDR;kernel_rfl⟩⟩
theorem zP6 (cs:Cs):zEk (zAA cs 0) (false) (false) (false):=by
 unfold zAA;cases h:cs.getD 0 none with
 |none=>exact zCP
 |some l=>exact zRL l
theorem zP7 (cs:Cs):zEk (zAA cs 1) (false) (false) (false):=by
 unfold zAA;cases h:cs.getD 1 none with
 |none=>exact zCP
 |some l=>exact zRM l
theorem zP8 (cs:Cs):zEk (zAA cs 2) (false) (false) (false):=by
 unfold zAA;cases h:cs.getD 2 none with
 |none=>exact zCP
 |some l=>exact zRN l
theorem zP9 (cs:Cs):zEk (zAA cs 3) (false) (false) (false):=by
 unfold zAA;cases h:cs.getD 3 none with
 |none=>exact zCP
 |some l=>exact zRO l
theorem zQA (cs:Cs):zEk (zAA cs 4) ((cs.getD 4 none).isSome) (false) (false):=by
 unfold zAA;cases h:cs.getD 4 none with
 |none=>exact zCP
 |some l=>exact zRP l
theorem zQB (cs:Cs):zEk (zAA cs 5) (false) ((cs.getD 5 none).isSome) (false):=by
 unfold zAA;cases h:cs.getD 5 none with
 |none=>exact zCP
 |some l=>exact zRQ l
theorem zQC (cs:Cs):zEk (zAA cs 6) (false) (false) ((cs.getD 6 none).isSome):=by
 unfold zAA;cases h:cs.getD 6 none with
 |none=>exact zCP
 |some l=>exact zRR l
theorem zQD (cs:Cs):zEk (zAA cs 7) (false) (false) (false):=by
 unfold zAA;cases h:cs.getD 7 none with
 |none=>exact zCP
 |some l=>exact zRS l
def zN9 (cs:Cs) (c:Nat):Bool:=
 if c=4 then(cs.getD 4 none).isSome&& !(zAM cs == 6||zAM cs == 17) else if c=5 then(cs.getD 5 none).isSome&& !(zAM cs == 6||zAM cs == 17) else if c=6 then(cs.getD 6 none).isSome&& !(zAM cs == 6) else false
theorem zOQ (cs:Cs) (h:∀c,c<8->zN9 cs c=false):zBP cs=false:=by
 have h4:=h 4 (by decide);have h5:=h 5 (by decide);have h6:=h 6 (by decide);have e4:zN9 cs 4=((cs.getD 4 none).isSome&& !(zAM cs == 6||zAM cs == 17)):=rfl;have e5:zN9 cs 5=((cs.getD 5 none).isSome&& !(zAM cs == 6||zAM cs == 17)):=rfl;have e6:zN9 cs 6=((cs.getD 6 none).isSome&& !(zAM cs == 6)):=rfl;rw[e4] at h4;rw[e5] at h5;rw[e6] at h6;unfold zBP;cases a:(cs.getD 4 none).isSome<;>cases b:(cs.getD 5 none).isSome<;>cases c:(cs.getD 6 none).isSome<;>cases d:(zAM cs == 6)<;>cases e:(zAM cs == 17)<;>simp_all
theorem zGl (cs:Cs) (c:Nat) (h:zN9 cs c=true):zBP cs=true:=by
 unfold zN9 at h;unfold zBP
 split at h
 ·cases a:(cs.getD 4 none).isSome<;>cases b:(cs.getD 5 none).isSome<;>cases c:(cs.getD 6 none).isSome<;>cases d:(zAM cs == 6)<;>cases e:(zAM cs == 17)<;>simp_all
 split at h
 ·cases a:(cs.getD 4 none).isSome<;>cases b:(cs.getD 5 none).isSome<;>cases c:(cs.getD 6 none).isSome<;>cases d:(zAM cs == 6)<;>cases e:(zAM cs == 17)<;>simp_all
 split at h
 ·cases a:(cs.getD 4 none).isSome<;>cases b:(cs.getD 5 none).isSome<;>cases c:(cs.getD 6 none).isSome<;>cases d:(zAM cs == 6)<;>cases e:(zAM cs == 17)<;>simp_all
 ·cases h
theorem zMM (v:Nat) (cs:Cs) (w:World):
 Calls Tryz.prog 140 #[zHf v cs] w fun e w'=>e= .returned (.bool (zBP cs))/\Below w.heap.size w w':=by
 have HPr:=zML v cs (w.alloc (.cells #[.int .u8 (v:Int),zAA cs 0,zAA cs 1,zAA cs 2,zAA cs 3,zAA cs 4,zAA cs 5,zAA cs 6,zAA cs 7] 151));unfold zHf at HPr ⊢;obtain⟨⟨za0,a0⟩,⟨zb0,b0⟩,⟨zc0,c0⟩⟩:=zP6 cs;obtain⟨⟨za1,a1⟩,⟨zb1,b1⟩,⟨zc1,c1⟩⟩:=zP7 cs;obtain⟨⟨za2,a2⟩,⟨zb2,b2⟩,⟨zc2,c2⟩⟩:=zP8 cs;obtain⟨⟨za3,a3⟩,⟨zb3,b3⟩,⟨zc3,c3⟩⟩:=zP9 cs;obtain⟨⟨za4,a4⟩,⟨zb4,b4⟩,⟨zc4,c4⟩⟩:=zQA cs;obtain⟨⟨za5,a5⟩,⟨zb5,b5⟩,⟨zc5,c5⟩⟩:=zQB cs;obtain⟨⟨za6,a6⟩,⟨zb6,b6⟩,⟨zc6,c6⟩⟩:=zQC cs;obtain⟨⟨za7,a7⟩,⟨zb7,b7⟩,⟨zc7,c7⟩⟩:=zQD cs;have H4:Hid (zN9 cs 4=((cs.getD 4 none).isSome&& !(zAM cs == 6||zAM cs == 17))):=rfl;have H5:Hid (zN9 cs 5=((cs.getD 5 none).isSome&& !(zAM cs == 6||zAM cs == 17))):=rfl;have H6:Hid (zN9 cs 6=((cs.getD 6 none).isSome&& !(zAM cs == 6))):=rfl;obtain⟨p,hp⟩:∃p,zAM cs=p:=⟨_,rfl⟩;rw[hp] at HPr H4 H5 H6;have HPR:=hid HPr;clear HPr;generalize zAA cs 0=x0 at*;generalize zAA cs 1=x1 at*;generalize zAA cs 2=x2 at*;generalize zAA cs 3=x3 at*;generalize zAA cs 4=x4 at*;generalize zAA cs 5=x5 at*;generalize zAA cs 6=x6 at*;generalize zAA cs 7=x7 at*;generalize (cs.getD 4 none).isSome=s4 at*;generalize (cs.getD 5 none).isSome=s5 at*;generalize (cs.getD 6 none).isSome=s6 at*;have i0:∀W,(Instr.index 149 (.agg #[x0,x1,x2,x3,x4,x5,x6,x7]) (.int .i64 0)).run Tryz.prog W= .ok x0 W:=fun W=>by kernel_rfl
 have i1:∀W,(Instr.index 149 (.agg #[x0,x1,x2,x3,x4,x5,x6,x7]) (.int .i64 1)).run Tryz.prog W= .ok x1 W:=fun W=>by kernel_rfl
 have i2:∀W,(Instr.index 149 (.agg #[x0,x1,x2,x3,x4,x5,x6,x7]) (.int .i64 2)).run Tryz.prog W= .ok x2 W:=fun W=>by kernel_rfl
 have i3:∀W,(Instr.index 149 (.agg #[x0,x1,x2,x3,x4,x5,x6,x7]) (.int .i64 3)).run Tryz.prog W= .ok x3 W:=fun W=>by kernel_rfl
 have i4:∀W,(Instr.index 149 (.agg #[x0,x1,x2,x3,x4,x5,x6,x7]) (.int .i64 4)).run Tryz.prog W= .ok x4 W:=fun W=>by kernel_rfl
 have i5:∀W,(Instr.index 149 (.agg #[x0,x1,x2,x3,x4,x5,x6,x7]) (.int .i64 5)).run Tryz.prog W= .ok x5 W:=fun W=>by kernel_rfl
 have i6:∀W,(Instr.index 149 (.agg #[x0,x1,x2,x3,x4,x5,x6,x7]) (.int .i64 6)).run Tryz.prog W= .ok x6 W:=fun W=>by kernel_rfl
 have i7:∀W,(Instr.index 149 (.agg #[x0,x1,x2,x3,x4,x5,x6,x7]) (.int .i64 7)).run Tryz.prog W= .ok x7 W:=fun W=>by kernel_rfl
 clear hp;have p6:((p:Int) !=6)= !(p == 6):=by cases h:(p == 6)<;>simp_all<;>omega
 have p17:((p:Int) !=17)= !(p == 17):=by cases h:(p == 17)<;>simp_all<;>omega
 generalize (p == 6)=t6 at*;generalize (p == 17)=t17 at*;go_enter Tryz.func140,Tryz.ntmps140;go_wp2_with (go_at_call 165;refine HPR.out.mono ?_;rintro e w1 ⟨rfl,hb1⟩;have hk:∀i,w1.cell? ⟨w.heap.size,i,none⟩=(#[.int .u8 (v:Int),x0,x1,x2,x3,x4,x5,x6,x7]:Array Value)[i]? :=(fun i=>by rw[hb1.cell (p:=⟨w.heap.size,i,none⟩) (by simp),World.cell?_alloc_at _ _ _ _ rfl]);have k1:=hk 1;have k2:=hk 2;have k3:=hk 3;have k4:=hk 4;have k5:=hk 5;have k6:=hk 6;have k7:=hk 7;have k8:=hk 8;simp at k1 k2 k3 k4 k5 k6 k7 k8;clear hk);go_loopw [10] (fun i wr=>∃j:Nat,j<=8/\i= .int .i64 j/\(∀c,c<j->zN9 cs c=false)/\Below w.heap.size w wr) (fun i _=>8-(intOf i).toNat)
 case atStart=>exact⟨0,by decide,rfl,fun c h=>absurd h (Nat.not_lt_zero _),((Below.refl _ w).alloc (Nat.le_refl _) _).trans (hb1.mono (by simp))⟩
 case round=>
  obtain⟨j,hj,rfl,h3,hB⟩:=hrel;have HB:=hid hB;have HJ:=hid h3;clear hB h3 hb1 HPR
  by_cases hlt:j<8
  ·rcases j with _|_|_|_|_|_|_|_|j
   ·go_wp2_with fail
    go_roundw
    case rel=>exact⟨1,by decide,rfl,fun c hc=>(by
     by_cases e:c=0
     ·subst e;rfl
     ·exact HJ.out c (by omega)),HB.out⟩
    case measure=>simp[intOf]
   ·go_wp2_with fail
    go_roundw
    case rel=>exact⟨2,by decide,rfl,fun c hc=>(by
     by_cases e:c=1
     ·subst e;rfl
     ·exact HJ.out c (by omega)),HB.out⟩
    case measure=>simp[intOf]
   ·go_wp2_with fail
    go_roundw
    case rel=>exact⟨3,by decide,rfl,fun c hc=>(by
     by_cases e:c=2
     ·subst e;rfl
     ·exact HJ.out c (by omega)),HB.out⟩
    case measure=>simp[intOf]
   ·go_wp2_with fail
    go_roundw
    case rel=>exact⟨4,by decide,rfl,fun c hc=>(by
     by_cases e:c=3
     ·subst e;rfl
     ·exact HJ.out c (by omega)),HB.out⟩
    case measure=>simp[intOf]
   ·cases s4 with
    |false=>
     go_wp2_with fail;go_roundw
     case rel=>exact⟨5,by decide,rfl,fun c hc=>(by
      by_cases e:c=4
      ·subst e;rw[H4.out];rfl
      ·exact HJ.out c (by omega)),HB.out⟩
     case measure=>simp[intOf]
    |true=>
     cases t6 with
     |true=>
      go_wp2_with fail;go_roundw
      case rel=>exact⟨5,by decide,rfl,fun c hc=>(by
       by_cases e:c=4
       ·subst e;rw[H4.out];rfl
       ·exact HJ.out c (by omega)),HB.out⟩
      case measure=>simp[intOf]
     |false=>
      cases t17 with
      |true=>
       go_wp2_with fail;go_roundw
       case rel=>exact⟨5,by decide,rfl,fun c hc=>(by
        by_cases e:c=4
        ·subst e;rw[H4.out];rfl
        ·exact HJ.out c (by omega)),HB.out⟩
       case measure=>simp[intOf]
      |false=>
       go_wp2_with fail;go_ret;rw[zGl cs 4 (by rw[H4.out];rfl)];exact⟨rfl,HB.out⟩
   ·cases s5 with
    |false=>
     go_wp2_with fail;go_roundw
     case rel=>exact⟨6,by decide,rfl,fun c hc=>(by
      by_cases e:c=5
      ·subst e;rw[H5.out];rfl
      ·exact HJ.out c (by omega)),HB.out⟩
     case measure=>simp[intOf]
    |true=>
     cases t6 with
     |true=>
      go_wp2_with fail;go_roundw
      case rel=>exact⟨6,by decide,rfl,fun c hc=>(by
       by_cases e:c=5
       ·subst e;rw[H5.out];rfl
       ·exact HJ.out c (by omega)),HB.out⟩
      case measure=>simp[intOf]
     |false=>
      cases t17 with
      |true=>
       go_wp2_with fail;go_roundw
       case rel=>exact⟨6,by decide,rfl,fun c hc=>(by
        by_cases e:c=5
        ·subst e;rw[H5.out];rfl
        ·exact HJ.out c (by omega)),HB.out⟩
       case measure=>simp[intOf]
      |false=>
       go_wp2_with fail;go_ret;rw[zGl cs 5 (by rw[H5.out];rfl)];exact⟨rfl,HB.out⟩
   ·cases s6 with
    |false=>
     go_wp2_with fail;go_roundw
     case rel=>exact⟨7,by decide,rfl,fun c hc=>(by
      by_cases e:c=6
      ·subst e;rw[H6.out];rfl
      ·exact HJ.out c (by omega)),HB.out⟩
     case measure=>simp[intOf]
    |true=>
     cases t6 with
     |true=>
      go_wp2_with fail;go_roundw
      case rel=>exact⟨7,by decide,rfl,fun c hc=>(by
       by_cases e:c=6
       ·subst e;rw[H6.out];rfl
       ·exact HJ.out c (by omega)),HB.out⟩
      case measure=>simp[intOf]
     |false=>
      go_wp2_with fail;go_ret;rw[zGl cs 6 (by rw[H6.out];rfl)];exact⟨rfl,HB.out⟩
   ·go_wp2_with fail
    go_roundw
    case rel=>exact⟨8,by decide,rfl,fun c hc=>(by
     by_cases e:c=7
     ·subst e;rfl
     ·exact HJ.out c (by omega)),HB.out⟩
    case measure=>simp[intOf]
   ·omega
  ·have e:j=8:=by omega
   subst e;go_wp2_with fail;go_ret;rw[zOQ cs HJ.out];exact⟨rfl,HB.out⟩
theorem zAS {w w':World} {B:Nat} {e:TypeId} {sz:Nat} {v:Value} {n:Nat} {xs:List Value} (h:w.ownsRow B e sz v n xs) (hk:∀g,v.ownBlock=some g->w'.heap[g]? =w.heap[g]?):w'.ownsRow B e sz v n xs:=by
 refine⟨h.1,?_⟩;rcases h.2 with h'|⟨g,cap,cur,e,hg,hh,r⟩
 ·exact .inl h'
 ·subst e
  exact .inr ⟨g,cap,cur,rfl,hg,by rw[hk g rfl];exact hh,r⟩
def zBs (r:Rl):List Value:=[.int .u8 (r.v:Int),zAA r.cs 0,zAA r.cs 1,zAA r.cs 2,zAA r.cs 3,zAA r.cs 4,zAA r.cs 5,zAA r.cs 6,zAA r.cs 7]
def zAp:List Rl->List Value
 |[]=>[]
 |r::l=>zBs r++zAp l
theorem zE9 (l:List Rl) (r:Rl):zAp (l++[r])=zAp l++zBs r:=by
 induction l with
 |nil=>simp[zAp]
 |cons a l ih=>simp[zAp,ih]
theorem Tryz.infoRule:(Tryz.prog.info? 151).map (fun i=>(i.zero,i.size,i.bytes))=some (some (.agg #[.int .u8 0,.nilIface,.nilIface,.nilIface,.nilIface,.nilIface,.nilIface,.nilIface,.nilIface]),9,136):=by kernel_rfl
structure Chg (B K:Nat) (w w':World):Prop where
 os:w'.os=w.os
 tape:w'.tape=w.tape
 output:w'.output=w.output
 size:w.heap.size<=w'.heap.size
 block:∀k,k<B->k≠K->w'.heap[k]? =w.heap[k]?
theorem Chg.refl (B K:Nat) (w:World):Chg B K w w:=⟨rfl,rfl,rfl,Nat.le_refl _,fun _ _ _=>rfl⟩
theorem Chg.trans {B K:Nat} {a b c:World} (h:Chg B K a b) (k:Chg B K b c):Chg B K a c:=
 ⟨k.os.trans h.os,k.tape.trans h.tape,k.output.trans h.output,Nat.le_trans h.size k.size,fun i hi hn=>(k.block i hi hn).trans (h.block i hi hn)⟩
theorem Chg.of {B K:Nat} {w w':World} (h:Below B w w'):Chg B K w w':=⟨h.os,h.tape,h.output,h.size,fun k hk _=>h.block k hk⟩
theorem Chg.set {B K:Nat} {a w:World} (h:Chg B K a w) (i:Nat) (v:Value):Chg B K a (w.setCell ⟨K,i,none⟩ v):=
 h.trans ⟨rfl,rfl,rfl,by simp[World.setCell],fun k _ hk=>Below.heap_setCell _ _ _ _ hk⟩
theorem Chg.cell {B K:Nat} {w w':World} (h:Chg B K w w') {p:Addr} (hp:p.block<B) (hn:p.block≠K):w'.cell? p=w.cell? p:=World.cell?_of_block (w:=w) (h.block p.block hp hn)
theorem Chg.frozen {B K:Nat} {w w':World} (h:Chg B K w w') {p:Addr} (hp:p.block<B) (hn:p.block≠K):w'.frozen? p=w.frozen? p:=World.frozen?_of_block (w:=w) (h.block p.block hp hn)
structure zBM (w:World) (B K:Nat) (b:Bk) (rv:Value):Prop where
 c0:w.cell? ⟨K,0,none⟩=some (.bool b.has)
 c1:w.cell? ⟨K,1,none⟩=some (.int .u8 (b.pol:Int))
 c2:w.cell? ⟨K,2,none⟩=some rv
 own:w.ownsRow B 151 9 rv b.rs.length (zAp b.rs)
 f:∀i,w.frozen? ⟨K,i,none⟩=false
 lt:K<B
 le:B<=w.heap.size
theorem zBM.below {w w':World} {B K:Nat} {b:Bk} {rv:Value} (h:zBM w B K b rv) (hw:Below w.heap.size w w'):zBM w' B K b rv:=by
 have hK:K<w.heap.size:=Nat.lt_of_lt_of_le h.lt h.le;refine⟨(hw.cell (p:=⟨K,0,none⟩) hK).trans h.c0,(hw.cell (p:=⟨K,1,none⟩) hK).trans h.c1,(hw.cell (p:=⟨K,2,none⟩) hK).trans h.c2,zAS h.own (fun g hg=> ?_),fun i=>(hw.frozen (p:=⟨K,i,none⟩) hK).trans (h.f i),h.lt,Nat.le_trans h.le hw.size⟩;exact hw.block g (h.own.lt g hg).2
theorem zBM.tch {w w':World} {B K g:Nat} {b:Bk} {rv:Value} (h:zBM w B K b rv) (hw:Tch g w w') (hg:K≠g) (hr:rv.ownBlock≠some g):zBM w' B K b rv:=by
 have hK:K<w.heap.size:=Nat.lt_of_lt_of_le h.lt h.le;refine⟨(hw.cell (p:=⟨K,0,none⟩) hK hg).trans h.c0,(hw.cell (p:=⟨K,1,none⟩) hK hg).trans h.c1,(hw.cell (p:=⟨K,2,none⟩) hK hg).trans h.c2,zAS h.own (fun k hk=> ?_),fun i=>(hw.frozen (p:=⟨K,i,none⟩) hK hg).trans (h.f i),h.lt,Nat.le_trans h.le hw.size⟩;exact hw.block k (h.own.lt k hk).2 (fun e=>hr (by rw[hk,e]))
theorem zBM.form {w:World} {B K:Nat} {b:Bk} {rv:Value} (h:zBM w B K b rv):∃p c,rv= .slice p b.rs.length c:=by
 rcases h.own.2 with⟨e,e'⟩|⟨g,cap,cur,e,_⟩
 ·rw[e'];exact⟨_,_,e⟩
 ·exact⟨_,_,e⟩
theorem zGA (k pb o m c:Nat) (x:Int) (hx:x=(k:Int)) (hk:k<=m) (hm:m<=c) (hc:c<=9223372036854775807):∃o',(k<c->o'=o+k)/\∀W,(Instr.slice 57 (.slice (some ⟨pb,o,none⟩) m c) (some (.int .i64 x)) none none).run Tryz.prog W= .ok (.slice (some ⟨pb,o',none⟩) (m-k) (c-k)) W:=by
 subst hx;refine⟨if k<c then o+k else o,fun h=>if_pos h,fun W=> ?_⟩;have hs:∀w,(sizeOf (Tryz.prog.elem 57)).run Tryz.prog w= .ok 1 w:=fun w=>by kernel_rfl
 have e:(Tryz.prog.elem 57)=9:=by kernel_rfl
 rw[run_slice_l (P:=Tryz.prog) W 57 (some ⟨pb,o,none⟩) m c (by rw[e];exact Tryz.underlying57) .i64 (k:Int) (by omega) (by omega),hs];simp only[Result.andThen,sliced]
 by_cases hm:k<c
 ·have ea:(⟨pb,o,none⟩:Addr).add k=⟨pb,o+k,none⟩:=by simp only[Addr.add];split<;>simp_all
  have:¬c=k:=by omega
  simp[hm,ea,this]
 ·have:c=k:=by omega
  simp[this]
end Go.Proofs.YtclpnafiiobfhaaGreatDoor

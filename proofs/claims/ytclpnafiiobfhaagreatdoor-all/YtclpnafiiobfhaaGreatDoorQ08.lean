import Derived.Test.YtclpnafiiobfhaaGreatDoorQ07
import Derived.Test.YtclpnafiiobfhaaGreatDoorQ02
set_option linter.unusedVariables false
set_option linter.unusedSimpArgs false
set_option maxRecDepth 100000
set_option maxHeartbeats 3200000
namespace Go.Proofs.YtclpnafiiobfhaaGreatDoor
open Go.RowKit
def srcV (v:List Nat):Value:= .iface 324 (.agg #[.int .u32 (n0 v 0),.int .u32 (n0 v 1)])
def dstV (v:List Nat):Value:= .iface 325 (.agg #[.int .u32 (n0 v 0),.int .u32 (n0 v 1)])
def sportV (v:List Nat):Value:= .iface 295 (.agg #[.int .u16 (n0 v 0),.int .u16 (n0 v 1)])
def dportV (v:List Nat):Value:= .iface 296 (.agg #[.int .u16 (n0 v 0),.int .u16 (n0 v 1)])
def cvOf (c:Nat) (v:List Nat):Value:=
 if c=0 then ifaceV v else if c=1 then srcV v else if c=2 then dstV v else if c=3 then protoV v else if c=4 then sportV v else if c=5 then dportV v else if c=6 then flagsV v else stateV v
theorem cond_0 (s:ByteArray) (w:World) (hs:s.size<=2000) (hm:MaxL w):
 Calls Tryz.prog 164 #[.string ⟨#[105,110]⟩,.string s] w fun e w'=>Gives (inVal s) ifaceV e/\Below w.heap.size w w':=by
 have HC:Hid (Calls _ _ _ w _):=readIface_any s w hs
 obtain⟨k,l,hk⟩:∃k l,inVal s=(k,l):=⟨_,_,rfl⟩
 rw[hk] at HC
 rw[hk]
 clear hm hk
 by_cases h0:k=0
 ·subst h0
  go_enter Tryz.func164,Tryz.ntmps164
  go_wp2_with (go_at_call 188;refine HC.out.mono ?_;rintro e w1 ⟨hg,hw⟩;obtain rfl:=hg.1 rfl;clear hg)
  go_ret2
  exact⟨Gives.fine rfl rfl,hw▸Below.refl _ _⟩
 ·go_enter Tryz.func164,Tryz.ntmps164
  go_wp2_with (go_at_call 188;refine HC.out.mono ?_;rintro e w1 ⟨hg,hw⟩;obtain⟨v,rfl⟩:=hg.2 h0;clear hg)
  go_ret2
  exact⟨⟨fun h=>absurd h h0,fun _=>⟨_,rfl⟩⟩,hw▸Below.refl _ _⟩
theorem cond_1 (s:ByteArray) (w:World) (hs:s.size<=2000) (hm:MaxL w):
 Calls Tryz.prog 164 #[.string ⟨#[102,114,111,109]⟩,.string s] w fun e w'=>Gives (netVal s) srcV e/\Below w.heap.size w w':=by
 have HC:Hid (Calls _ _ _ w _):=readNet_any s w hs hm
 obtain⟨k,l,hk⟩:∃k l,netVal s=(k,l):=⟨_,_,rfl⟩
 rw[hk] at HC
 rw[hk]
 clear hm hk
 by_cases h0:k=0
 ·subst h0
  go_enter Tryz.func164,Tryz.ntmps164
  go_wp2_with (go_at_call 189;refine HC.out.mono ?_;rintro e w1 ⟨hg,hw⟩;obtain rfl:e= .returned (.tuple #[.agg #[.int .u32 (n0 l 0),.int .u32 (n0 l 1)],.nilIface]):=hg.1 rfl;clear hg)
  go_ret2
  exact⟨Gives.fine rfl rfl,hw.alloc hw.size _⟩
 ·go_enter Tryz.func164,Tryz.ntmps164
  go_wp2_with (go_at_call 189;refine HC.out.mono ?_;rintro e w1 ⟨hg,hw⟩;obtain rfl:e= .returned (.tuple #[.agg #[.int .u32 0,.int .u32 0],.iface 22 (.int .i64 (k:Int))]):=hg.2 h0;clear hg)
  go_ret2
  exact⟨⟨fun h=>absurd h h0,fun _=>⟨_,rfl⟩⟩,hw.alloc hw.size _⟩
theorem cond_2 (s:ByteArray) (w:World) (hs:s.size<=2000) (hm:MaxL w):
 Calls Tryz.prog 164 #[.string ⟨#[116,111]⟩,.string s] w fun e w'=>Gives (netVal s) dstV e/\Below w.heap.size w w':=by
 have HC:Hid (Calls _ _ _ w _):=readNet_any s w hs hm
 obtain⟨k,l,hk⟩:∃k l,netVal s=(k,l):=⟨_,_,rfl⟩
 rw[hk] at HC
 rw[hk]
 clear hm hk
 by_cases h0:k=0
 ·subst h0
  go_enter Tryz.func164,Tryz.ntmps164
  go_wp2_with (go_at_call 189;refine HC.out.mono ?_;rintro e w1 ⟨hg,hw⟩;obtain rfl:e= .returned (.tuple #[.agg #[.int .u32 (n0 l 0),.int .u32 (n0 l 1)],.nilIface]):=hg.1 rfl;clear hg)
  go_ret2
  exact⟨Gives.fine rfl rfl,hw.alloc hw.size _⟩
 ·go_enter Tryz.func164,Tryz.ntmps164
  go_wp2_with (go_at_call 189;refine HC.out.mono ?_;rintro e w1 ⟨hg,hw⟩;obtain rfl:e= .returned (.tuple #[.agg #[.int .u32 0,.int .u32 0],.iface 22 (.int .i64 (k:Int))]):=hg.2 h0;clear hg)
  go_ret2
  exact⟨⟨fun h=>absurd h h0,fun _=>⟨_,rfl⟩⟩,hw.alloc hw.size _⟩
theorem cond_3 (s:ByteArray) (w:World) (hs:s.size<=2000) (hm:MaxL w):
 Calls Tryz.prog 164 #[.string ⟨#[112,114,111,116,111]⟩,.string s] w fun e w'=>Gives (protoVal s) protoV e/\Below w.heap.size w w':=by
 have HC:Hid (Calls _ _ _ w _):=readProto_any s w
 obtain⟨k,l,hk⟩:∃k l,protoVal s=(k,l):=⟨_,_,rfl⟩
 rw[hk] at HC
 rw[hk]
 clear hm hk
 by_cases h0:k=0
 ·subst h0
  go_enter Tryz.func164,Tryz.ntmps164
  go_wp2_with (go_at_call 190;refine HC.out.mono ?_;rintro e w1 ⟨hg,hw⟩;obtain rfl:=hg.1 rfl;clear hg)
  go_ret2
  exact⟨Gives.fine rfl rfl,hw▸Below.refl _ _⟩
 ·go_enter Tryz.func164,Tryz.ntmps164
  go_wp2_with (go_at_call 190;refine HC.out.mono ?_;rintro e w1 ⟨hg,hw⟩;obtain⟨v,rfl⟩:=hg.2 h0;clear hg)
  go_ret2
  exact⟨⟨fun h=>absurd h h0,fun _=>⟨_,rfl⟩⟩,hw▸Below.refl _ _⟩
theorem cond_4 (s:ByteArray) (w:World) (hs:s.size<=2000) (hm:MaxL w):
 Calls Tryz.prog 164 #[.string ⟨#[115,112,111,114,116]⟩,.string s] w fun e w'=>Gives (portVal s) sportV e/\Below w.heap.size w w':=by
 have HC:Hid (Calls _ _ _ w _):=readPorts_any s w hs hm
 obtain⟨k,l,hk⟩:∃k l,portVal s=(k,l):=⟨_,_,rfl⟩
 rw[hk] at HC
 rw[hk]
 clear hm hk
 by_cases h0:k=0
 ·subst h0
  go_enter Tryz.func164,Tryz.ntmps164
  go_wp2_with (go_at_call 191;refine HC.out.mono ?_;rintro e w1 ⟨hg,hw⟩;obtain rfl:e= .returned (.tuple #[.agg #[.int .u16 (n0 l 0),.int .u16 (n0 l 1)],.nilIface]):=hg.1 rfl;clear hg)
  go_ret2
  exact⟨Gives.fine rfl rfl,hw.alloc hw.size _⟩
 ·go_enter Tryz.func164,Tryz.ntmps164
  go_wp2_with (go_at_call 191;refine HC.out.mono ?_;rintro e w1 ⟨hg,hw⟩;obtain rfl:e= .returned (.tuple #[.agg #[.int .u16 0,.int .u16 0],.iface 22 (.int .i64 (k:Int))]):=hg.2 h0;clear hg)
  go_ret2
  exact⟨⟨fun h=>absurd h h0,fun _=>⟨_,rfl⟩⟩,hw.alloc hw.size _⟩
theorem cond_5 (s:ByteArray) (w:World) (hs:s.size<=2000) (hm:MaxL w):
 Calls Tryz.prog 164 #[.string ⟨#[100,112,111,114,116]⟩,.string s] w fun e w'=>Gives (portVal s) dportV e/\Below w.heap.size w w':=by
 have HC:Hid (Calls _ _ _ w _):=readPorts_any s w hs hm
 obtain⟨k,l,hk⟩:∃k l,portVal s=(k,l):=⟨_,_,rfl⟩
 rw[hk] at HC
 rw[hk]
 clear hm hk
 by_cases h0:k=0
 ·subst h0
  go_enter Tryz.func164,Tryz.ntmps164
  go_wp2_with (go_at_call 191;refine HC.out.mono ?_;rintro e w1 ⟨hg,hw⟩;obtain rfl:e= .returned (.tuple #[.agg #[.int .u16 (n0 l 0),.int .u16 (n0 l 1)],.nilIface]):=hg.1 rfl;clear hg)
  go_ret2
  exact⟨Gives.fine rfl rfl,hw.alloc hw.size _⟩
 ·go_enter Tryz.func164,Tryz.ntmps164
  go_wp2_with (go_at_call 191;refine HC.out.mono ?_;rintro e w1 ⟨hg,hw⟩;obtain rfl:e= .returned (.tuple #[.agg #[.int .u16 0,.int .u16 0],.iface 22 (.int .i64 (k:Int))]):=hg.2 h0;clear hg)
  go_ret2
  exact⟨⟨fun h=>absurd h h0,fun _=>⟨_,rfl⟩⟩,hw.alloc hw.size _⟩
theorem cond_6 (s:ByteArray) (w:World) (hs:s.size<=2000) (hm:MaxL w):
 Calls Tryz.prog 164 #[.string ⟨#[102,108,97,103,115]⟩,.string s] w fun e w'=>Gives (flagVal s) flagsV e/\Below w.heap.size w w':=by
 have HC:Hid (Calls _ _ _ w _):=readFlags_any s w hs hm
 obtain⟨k,l,hk⟩:∃k l,flagVal s=(k,l):=⟨_,_,rfl⟩
 rw[hk] at HC
 rw[hk]
 clear hm hk
 by_cases h0:k=0
 ·subst h0
  go_enter Tryz.func164,Tryz.ntmps164
  go_wp2_with (go_at_call 192;refine HC.out.mono ?_;rintro e w1 ⟨hg,hw⟩;obtain rfl:=hg.1 rfl;clear hg)
  go_ret2
  exact⟨Gives.fine rfl rfl,hw⟩
 ·go_enter Tryz.func164,Tryz.ntmps164
  go_wp2_with (go_at_call 192;refine HC.out.mono ?_;rintro e w1 ⟨hg,hw⟩;obtain⟨v,rfl⟩:=hg.2 h0;clear hg)
  go_ret2
  exact⟨⟨fun h=>absurd h h0,fun _=>⟨_,rfl⟩⟩,hw⟩
theorem cond_7 (s:ByteArray) (w:World) (hs:s.size<=2000) (hm:MaxL w):
 Calls Tryz.prog 164 #[.string ⟨#[115,116,97,116,101]⟩,.string s] w fun e w'=>Gives (stateVal s) stateV e/\Below w.heap.size w w':=by
 have HC:Hid (Calls _ _ _ w _):=readStates_any s w hs hm
 obtain⟨k,l,hk⟩:∃k l,stateVal s=(k,l):=⟨_,_,rfl⟩
 rw[hk] at HC
 rw[hk]
 clear hm hk
 by_cases h0:k=0
 ·subst h0
  go_enter Tryz.func164,Tryz.ntmps164
  go_wp2_with (go_at_call 193;refine HC.out.mono ?_;rintro e w1 ⟨hg,hw⟩;obtain rfl:=hg.1 rfl;clear hg)
  go_ret2
  exact⟨Gives.fine rfl rfl,hw⟩
 ·go_enter Tryz.func164,Tryz.ntmps164
  go_wp2_with (go_at_call 193;refine HC.out.mono ?_;rintro e w1 ⟨hg,hw⟩;obtain⟨v,rfl⟩:=hg.2 h0;clear hg)
  go_ret2
  exact⟨⟨fun h=>absurd h h0,fun _=>⟨_,rfl⟩⟩,hw⟩
theorem cond_any (c:Nat) (hc:c<8) (s:ByteArray) (w:World) (hs:s.size<=2000) (hm:MaxL w):
 Calls Tryz.prog 164 #[.string (nws.getD c ByteArray.empty),.string s] w fun e w'=>Gives (condVal c s) (cvOf c) e/\Below w.heap.size w w':=by
 rcases c with _|_|_|_|_|_|_|_|c
 ·exact cond_0 s w hs hm
 ·exact cond_1 s w hs hm
 ·exact cond_2 s w hs hm
 ·exact cond_3 s w hs hm
 ·exact cond_4 s w hs hm
 ·exact cond_5 s w hs hm
 ·exact cond_6 s w hs hm
 ·exact cond_7 s w hs hm
 ·omega
theorem plc_get (ws:List ByteArray) (s:ByteArray) (k:Nat) (h:plc ws s=(k:Int)):ws.getD k ByteArray.empty=s:=by
 have key:∀(l:List ByteArray) (i m:Nat),Lib.idxFromS l s i=((i+m:Nat):Int)->l.getD m ByteArray.empty=s:=by
  intro l
  induction l with
  |nil=>intro i m h;simp[Lib.idxFromS] at h;omega
  |cons z l ih=>
   intro i m h
   unfold Lib.idxFromS at h
   split at h
   ·rename_i e
    have:m=0:=by omega
    subst this
    exact e
   ·rcases m with _|m
    ·have hge:∀(l:List ByteArray) (i:Nat),Lib.idxFromS l s i= -1\/(i:Int)<=Lib.idxFromS l s i:=by
      intro l
      induction l with
      |nil=>intro i;exact Or.inl rfl
      |cons z l ih=>
       intro i
       unfold Lib.idxFromS
       split
       ·right;omega
       ·rcases ih (i+1) with h|h
        ·exact Or.inl h
        ·right;omega
     rcases hge l (i+1) with h'|h'<;>omega
    ·have:=ih (i+1) m (by rw[h];congr 1;omega)
     simpa using this
 exact key ws 0 k (by rw[Nat.zero_add];exact h)
theorem cvOf_iface (c:Nat) (l:List Nat):∃T x,cvOf c l= .iface T x:=by
 unfold cvOf
 by_cases h0:c=0
 ·rw[if_pos h0];exact⟨_,_,rfl⟩
 rw[if_neg h0]
 by_cases h1:c=1
 ·rw[if_pos h1];exact⟨_,_,rfl⟩
 rw[if_neg h1]
 by_cases h2:c=2
 ·rw[if_pos h2];exact⟨_,_,rfl⟩
 rw[if_neg h2]
 by_cases h3:c=3
 ·rw[if_pos h3];exact⟨_,_,rfl⟩
 rw[if_neg h3]
 by_cases h4:c=4
 ·rw[if_pos h4];exact⟨_,_,rfl⟩
 rw[if_neg h4]
 by_cases h5:c=5
 ·rw[if_pos h5];exact⟨_,_,rfl⟩
 rw[if_neg h5]
 by_cases h6:c=6
 ·rw[if_pos h6];exact⟨_,_,rfl⟩
 rw[if_neg h6]
 exact⟨_,_,rfl⟩
def condCell (cs:Cs) (c:Nat):Value:=match cs.getD c none with
 |none=> .nilIface
 |some v=>cvOf c v
structure RuleAt (w:World) (g:Nat) (v:Nat) (cs:Cs):Prop where
 c0:w.cell? ⟨g,0,none⟩=some (.int .u8 (v:Int))
 cc:∀c,c<8->w.cell? ⟨g,1+c,none⟩=some (condCell cs c)
 f:∀i,w.frozen? ⟨g,i,none⟩=false
 lt:g<w.heap.size
theorem RuleAt.below {w w':World} {g B v:Nat} {cs:Cs} (h:RuleAt w g v cs) (hw:Below B w w') (hg:g<B):RuleAt w' g v cs:=
 ⟨(hw.cell (p:=⟨g,0,none⟩) hg).trans h.c0,fun c hc=>(hw.cell (p:=⟨g,1+c,none⟩) hg).trans (h.cc c hc),fun i=>(hw.frozen (p:=⟨g,i,none⟩) hg).trans (h.f i),Nat.lt_of_lt_of_le h.lt hw.size⟩
theorem condCell_set (cs:Cs) (c d:Nat) (v:List Nat) (hc:c<cs.length):condCell (cs.set c (some v)) d=if c=d then cvOf d v else condCell cs d:=by
 unfold condCell
 rw[List.getD_eq_getElem?_getD,List.getD_eq_getElem?_getD,List.getElem?_set]
 by_cases e:c=d
 ·subst e;simp[hc]
 ·simp[e]
theorem RuleAt.set {w:World} {g v:Nat} {cs:Cs} (h:RuleAt w g v cs) (hl:cs.length=8) (c:Nat) (hc:c<8) (l:List Nat):RuleAt (w.setCell ⟨g,1+c,none⟩ (cvOf c l)) g v (cs.set c (some l)):=by
 refine⟨?_,fun d hd=> ?_,fun i=>by simp[h.f],by simp[World.setCell];exact h.lt⟩
 ·rw[World.cell?_setCell_other _ _ _ _ (by intro q;injection q;omega)];exact h.c0
 ·rw[condCell_set _ _ _ _ (by omega)]
  by_cases e:c=d
  ·subst e
   rw[if_pos rfl]
   exact World.cell?_setCell_same _ _ _ (h.cc c hc)
  ·rw[if_neg e,World.cell?_setCell_other _ _ _ _ (by intro q;apply e;injection q;omega)]
   exact h.cc d hd
def cond1 (ps:List ByteArray) (cs:Cs):Nat×Cs:=
 if plc nws (ps.getD 0 ByteArray.empty)<0\/ps.length<2 then(3,cs)
 else if(cs.getD (plc nws (ps.getD 0 ByteArray.empty)).toNat none).isSome then(6,cs)
 else if(condVal (plc nws (ps.getD 0 ByteArray.empty)).toNat (ps.getD 1 ByteArray.empty)).1≠0 then((condVal (plc nws (ps.getD 0 ByteArray.empty)).toNat (ps.getD 1 ByteArray.empty)).1,cs)
 else(0,cs.set (plc nws (ps.getD 0 ByteArray.empty)).toNat (some (condVal (plc nws (ps.getD 0 ByteArray.empty)).toNat (ps.getD 1 ByteArray.empty)).2))
theorem conds_step (ps:List ByteArray) (cs:Cs) (h:ps≠[]):conds ps cs=if(cond1 ps cs).1≠0 then((cond1 ps cs).1,cs) else conds (ps.drop 2) (cond1 ps cs).2:=by
 match ps,h with
 |[n],_=>
  have e:cond1 [n] cs=(3,cs):=by unfold cond1;rw[if_pos (Or.inr (by simp))]
  rw[e];rfl
 |n::p::r,_=>
  rw[conds]
  have hl:¬(n::p::r).length<2:=by simp
  by_cases h1:plc nws n<0
  ·have e:cond1 (n::p::r) cs=(3,cs):=by unfold cond1;exact if_pos (Or.inl h1)
   rw[if_pos h1,e];rfl
  rw[if_neg h1]
  have h1':¬(plc nws ((n::p::r).getD 0 ByteArray.empty)<0\/(n::p::r).length<2):=fun q=>q.elim h1 hl
  by_cases h2:(cs.getD (plc nws n).toNat none).isSome=true
  ·have e:cond1 (n::p::r) cs=(6,cs):=by
    unfold cond1
    rw[if_neg h1']
    exact if_pos h2
   rw[if_pos h2,e];rfl
  rw[if_neg h2]
  by_cases h3:(condVal (plc nws n).toNat p).1≠0
  ·have e:cond1 (n::p::r) cs=((condVal (plc nws n).toNat p).1,cs):=by
    unfold cond1
    rw[if_neg h1']
    exact(if_neg h2).trans (if_pos h3)
   rw[if_pos h3,e,if_pos h3]
  rw[if_neg h3]
  have e:cond1 (n::p::r) cs=(0,cs.set (plc nws n).toNat (some (condVal (plc nws n).toNat p).2)):=by
   unfold cond1
   rw[if_neg h1']
   exact(if_neg h2).trans (if_neg h3)
  rw[e];rfl
def errV (k:Nat):Value:=if k=0 then .nilIface else .iface 22 (.int .i64 (k:Int))
theorem errV_bad {k:Nat} (h:k≠0):errV k= .iface 22 (.int .i64 (k:Int)):=if_neg h
theorem take_any (g v:Nat) (cs:Cs) (ps:List ByteArray) (b off cap:Nat) (w:World) (hR:RuleAt w g v cs) (hl:cs.length=8) (hp:1<=ps.length) (hpl:ps.length<=3000) (hps:∀p ∈ ps,p.size<=2000) (hb:b<w.heap.size) (hS:Strs w b off ps) (hm:MaxL w):
 Calls Tryz.prog 139 #[.pointer (some ⟨g,0,none⟩),.slice (some ⟨b,off,none⟩) ps.length cap] w fun e w'=>e= .returned (errV (cond1 ps cs).1)/\RuleAt w' g v (cond1 ps cs).2/\Tch g w w':=by
 have c0:=hS 0 (by omega)
 rw[Nat.add_zero] at c0
 obtain⟨p0,hp0⟩:∃p,ps.getD 0 ByteArray.empty=p:=⟨_,rfl⟩
 rw[hp0] at c0
 have HP0:Hid (ps.getD 0 ByteArray.empty=p0):=hp0
 have HR:Hid (RuleAt w g v cs):=hR
 have HS:Hid (Strs w b off ps):=hS
 have HPS:Hid (∀p ∈ ps,p.size<=2000):=hps
 have HM:Hid (MaxL w):=hm
 have hgl:=hR.lt
 have hlt8:=plc_lt nws p0
 have e8:nws.length=8:=rfl
 rw[e8] at hlt8
 have l0:(0:Int)<(ps.length:Int):=by omega
 have hIx:∀W,Strs W w.heap.size 0 nws->Calls Tryz.prog 163 #[.slice (some ⟨w.heap.size,0,none⟩) 8 8,.string p0] W fun e w'=>e= .returned (.int .i64 (plc nws p0))/\Below W.heap.size W w':=fun W h=>index_below nws w.heap.size 0 8 p0 W (by decide) h
 clear hS hR hm hp0 hps e8
 go_enter Tryz.func139,Tryz.ntmps139
 go_upto_region 1 with fail
 go_cut [5] from 6 (fun x w'=>x= .int .i64 (plc nws p0)/\Below w.heap.size w w')
 case first=>
  go_region_with (first|(go_at_call 97;refine(names_any _).mono ?_;rintro e w' ⟨rfl,rfl⟩)|(go_at_call 163;refine(hIx _ (by exact Strs.made w nws _)).mono ?_;rintro e w2 ⟨rfl,hb2⟩))
  all_goals
   go_wp2_with fail
   go_meet
   refine⟨rfl,?_⟩
   refine Below.trans ?_ (hb2.mono (by simp))
   repeat (first|with_reducible exact Below.refl _ _|with_reducible refine Below.drew ?_|with_reducible refine Below.alloc ?_ (by first|(simp;done)|(simp;omega)) _)
 case rest=>
  obtain⟨rfl,hb1⟩:=hcut
  obtain⟨wb,rfl⟩:∃x,x=wc:=⟨_,rfl⟩
  have HB1:Hid (Below w.heap.size w wb):=hb1
  have HR1:Hid (RuleAt wb g v cs):=HR.out.below hb1 hgl
  have zc:w.heap.size<=wb.heap.size:=hb1.size
  clear hb1 c0 hIx
  by_cases hneg:plc nws p0<0
  ·have HE:Hid (cond1 ps cs=(3,cs)):=show cond1 ps cs=(3,cs) by unfold cond1;rw[HP0.out];exact if_pos (Or.inl hneg)
   go_wp2_with fail
   go_ret
   rw[HE.out]
   exact⟨rfl,HR1.out,Tch.of HB1.out⟩
  by_cases hlen:ps.length<2
  ·have HE:Hid (cond1 ps cs=(3,cs)):=show cond1 ps cs=(3,cs) by unfold cond1;exact if_pos (Or.inr hlen)
   have hneg':(0:Int)<=plc nws p0:=by omega
   have hlen':(ps.length:Int)<2:=by omega
   clear hneg hlen
   go_wp2_with fail
   go_ret
   rw[HE.out]
   exact⟨rfl,HR1.out,Tch.of HB1.out⟩
  obtain⟨c,hc⟩:∃c:Nat,plc nws p0=c:=⟨(plc nws p0).toNat,by omega⟩
  have HC:Hid (plc nws p0=c):=hc
  have hc8:c<8:=by omega
  have HN:Hid (nws.getD c ByteArray.empty=p0):=plc_get nws p0 c hc
  have hlen':(2:Int)<=(ps.length:Int):=by omega
  have c0:=HS.out 0 (by omega)
  have c1:=HS.out 1 (by omega)
  rw[Nat.add_zero,HP0.out] at c0
  obtain⟨p1,hp1⟩:∃p,ps.getD 1 ByteArray.empty=p:=⟨_,rfl⟩
  have HP1:Hid (ps.getD 1 ByteArray.empty=p1):=hp1
  rw[hp1] at c1
  have hs1:p1.size<=2000:=HPS.out p1 (by
   rw[<-hp1,List.getD_eq_getElem?_getD,List.getElem?_eq_getElem (by omega:1<ps.length)]
   exact List.getElem_mem _)
  rw[<-HB1.out.cell (p:=⟨b,off,none⟩) hb] at c0
  rw[<-HB1.out.cell (p:=⟨b,off+1,none⟩) hb] at c1
  have H3:Hid (¬(plc nws (ps.getD 0 ByteArray.empty)<0\/ps.length<2)):=by
   intro q
   rw[HP0.out] at q
   omega
  rw[hc]
  have l1:(1:Int)<(ps.length:Int):=by omega
  clear hneg hlen hc hp1 hlt8
  have cc:=HR1.out.cc c hc8
  cases hsome:cs.getD c none with
  |some l0=>
   have HE:Hid (cond1 ps cs=(6,cs)):=show cond1 ps cs=(6,cs) by
    unfold cond1
    rw[if_neg H3.out,HP0.out,HC.out,Int.toNat_natCast]
    exact if_pos (by rw[hsome];rfl)
   have hcell:condCell cs c=cvOf c l0:=by unfold condCell;rw[hsome]
   obtain⟨T,x,hx⟩:=cvOf_iface c l0
   rw[hcell,hx] at cc
   clear hcell hx hsome
   go_wp2_with fail
   go_ret
   rw[HE.out]
   exact⟨rfl,HR1.out,Tch.of HB1.out⟩
  |none=>
   have hcell:condCell cs c= .nilIface:=by unfold condCell;rw[hsome]
   rw[hcell] at cc
   have hsN:¬((cs.getD c none).isSome=true):=by rw[hsome];simp
   have HSN:Hid (¬((cs.getD c none).isSome=true)):=hsN
   clear hcell hsome hsN
   have hCd:=cond_any c hc8 p1
   rw[HN.out] at hCd
   obtain⟨k,l,hk⟩:∃k l,condVal c p1=(k,l):=⟨_,_,rfl⟩
   have HK:Hid (condVal c p1=(k,l)):=hk
   rw[hk] at hCd
   have HCd:Hid (∀W,Below wb.heap.size wb W->Calls Tryz.prog 164 #[.string p0,.string p1] W fun e w'=>Gives (k,l) (cvOf c) e/\Below W.heap.size W w'):=fun W hW=>hCd W hs1 ((HM.out.below HB1.out).below hW)
   clear hCd hk
   by_cases h0:k=0
   ·subst h0
    have HE:Hid (cond1 ps cs=(0,cs.set c (some l))):=show cond1 ps cs=(0,cs.set c (some l)) by
     unfold cond1
     rw[if_neg H3.out,HP0.out,HC.out,Int.toNat_natCast,if_neg HSN.out,HP1.out,HK.out]
     exact if_neg (fun q=>q rfl)
    go_upto_region 6 with fail
    obtain⟨T,xv,hx⟩:=cvOf_iface c l
    have HX:Hid (cvOf c l= .iface T xv):=hx
    clear hx
    go_cut [6,7] from 29 (fun x y w'=>x= .iface T xv/\y= .nilIface/\Below wb.heap.size wb w')
    case first=>
     go_region_with (go_at_call 164;refine(HCd.out _ (by repeat (first|with_reducible exact Below.refl _ _|with_reducible refine Below.drew ?_))).mono ?_;rintro e w2 ⟨hg,hb2⟩;obtain rfl:=hg.1 rfl;clear hg)
     all_goals
      go_wp2_with fail
      go_meet
      exact⟨HX.out,rfl,Below.trans (by repeat (first|with_reducible exact Below.refl _ _|with_reducible refine Below.drew ?_)) (hb2.mono (by simp))⟩
    case rest=>
     obtain⟨rfl,rfl,hb2⟩:=hcut
     obtain⟨wd,rfl⟩:∃x,x=wc:=⟨_,rfl⟩
     have zd:wb.heap.size<=wd.heap.size:=hb2.size
     have R2:RuleAt wd g v cs:=HR1.out.below hb2 (by omega)
     have HR2:Hid (RuleAt wd g v cs):=R2
     have c2:=R2.cc c hc8
     have f2:=R2.f (1+c)
     have HT2:Hid (Tch g w wd):=(Tch.of HB1.out).trans (Tch.of hb2)
     clear hb2 R2
     go_wp2_with fail
     go_ret
     rw[HE.out]
     have RS:=HR2.out.set hl c hc8 l
     rw[HX.out] at RS
     exact⟨rfl,RS,HT2.out.set _ _⟩
   ·have HE:Hid (cond1 ps cs=(k,cs)):=show cond1 ps cs=(k,cs) by
     unfold cond1
     rw[if_neg H3.out,HP0.out,HC.out,Int.toNat_natCast,if_neg HSN.out,HP1.out,HK.out]
     exact if_pos h0
    go_upto_region 6 with fail
    go_cut [6,7] from 29 (fun x y w'=>y= .iface 22 (.int .i64 (k:Int))/\Below wb.heap.size wb w')
    case first=>
     go_region_with (go_at_call 164;refine(HCd.out _ (by repeat (first|with_reducible exact Below.refl _ _|with_reducible refine Below.drew ?_))).mono ?_;rintro e w2 ⟨hg,hb2⟩;obtain⟨xv,rfl⟩:=hg.2 h0;clear hg)
     all_goals
      go_wp2_with fail
      go_meet
      exact⟨rfl,Below.trans (by repeat (first|with_reducible exact Below.refl _ _|with_reducible refine Below.drew ?_)) (hb2.mono (by simp))⟩
    case rest=>
     obtain⟨rfl,hb2⟩:=hcut
     go_wp2_with fail
     go_ret
     rw[HE.out]
     refine⟨by rw[errV_bad h0];rfl,HR1.out.below hb2 (by omega),(Tch.of HB1.out).trans (Tch.of hb2)⟩
theorem readVerdict_any (s:ByteArray) (w:World):
 Calls Tryz.prog 138 #[.string s] w fun e w'=>(0<=plc vws s->e= .returned (.tuple #[.int .u8 (plc vws s),.nilIface]))/\(plc vws s<0->e= .returned (.tuple #[.int .u8 0,.iface 22 (.int .i64 3)]))/\Below w.heap.size w w':=by
 have HI:Hid (Calls _ _ _ (w.alloc (.cells (vws.map Value.string).toArray 9)) _):=index_below vws w.heap.size 0 3 s (w.alloc (.cells (vws.map Value.string).toArray 9)) (by decide) (Strs.made w vws _)
 have hlt:=plc_lt vws s
 have e3:vws.length=3:=rfl
 rw[e3] at hlt HI
 clear e3
 obtain⟨p,hp⟩:∃p,plc vws s=p:=⟨_,rfl⟩
 rw[hp] at hlt HI
 rw[hp]
 clear hp
 by_cases h:p<0
 ·go_enter Tryz.func138,Tryz.ntmps138
  go_wp2_with (first|(go_at_call 65;refine(verdictWords_any _).mono ?_;rintro e w' ⟨rfl,rfl⟩)|(go_at_call 163;refine HI.out.mono ?_;rintro e w2 ⟨rfl,hb2⟩))
  go_ret2
  exact⟨fun q=>absurd q (by omega),fun _=>rfl,((Below.refl _ w).alloc (Nat.le_refl _) _).trans (hb2.mono (by simp))⟩
 ·have h':0<=p:=by omega
  clear h
  go_enter Tryz.func138,Tryz.ntmps138
  go_wp2_with (first|(go_at_call 65;refine(verdictWords_any _).mono ?_;rintro e w' ⟨rfl,rfl⟩)|(go_at_call 163;refine HI.out.mono ?_;rintro e w2 ⟨rfl,hb2⟩))
  go_ret2
  exact⟨fun _=>rfl,fun q=>absurd q (by omega),((Below.refl _ w).alloc (Nat.le_refl _) _).trans (hb2.mono (by simp))⟩
def ruleV (v:Nat) (cs:Cs):Value:= .agg #[.int .u8 (v:Int),condCell cs 0,condCell cs 1,condCell cs 2,condCell cs 3,condCell cs 4,condCell cs 5,condCell cs 6,condCell cs 7]
structure NotProto (x:Value):Prop where
 run:∀w,(Instr.typeAssert x 148 329 true).run Tryz.prog w= .ok (.tuple #[.agg #[.string ByteArray.empty,.int .u8 0],.bool false]) w
theorem notProto_nil:NotProto .nilIface:=⟨fun w=>by kernel_rfl⟩
theorem notProto_of (c:Nat) (l:List Nat) (h:c≠3):NotProto (cvOf c l):=by
 unfold cvOf
 by_cases h0:c=0
 ·rw[if_pos h0];exact⟨fun w=>by unfold ifaceV;kernel_rfl⟩
 rw[if_neg h0]
 by_cases h1:c=1
 ·rw[if_pos h1];exact⟨fun w=>by unfold srcV;kernel_rfl⟩
 rw[if_neg h1]
 by_cases h2:c=2
 ·rw[if_pos h2];exact⟨fun w=>by unfold dstV;kernel_rfl⟩
 rw[if_neg h2,if_neg h]
 by_cases h4:c=4
 ·rw[if_pos h4];exact⟨fun w=>by unfold sportV;kernel_rfl⟩
 rw[if_neg h4]
 by_cases h5:c=5
 ·rw[if_pos h5];exact⟨fun w=>by unfold dportV;kernel_rfl⟩
 rw[if_neg h5]
 by_cases h6:c=6
 ·rw[if_pos h6];exact⟨fun w=>by unfold flagsV;kernel_rfl⟩
 rw[if_neg h6];exact⟨fun w=>by unfold stateV;kernel_rfl⟩
theorem notProto_cell (cs:Cs) (c:Nat) (h:c≠3):NotProto (condCell cs c):=by
 unfold condCell
 split
 ·exact notProto_nil
 ·exact notProto_of c _ h
theorem proto_any (v:Nat) (cs:Cs) (w:World):
 Calls Tryz.prog 165 #[ruleV v cs] w fun e w'=>e= .returned (.int .u8 (protoOf cs:Int))/\Below w.heap.size w w':=by
 unfold ruleV
 have n0:=(notProto_cell cs 0 (by decide)).run
 have n1:=(notProto_cell cs 1 (by decide)).run
 have n2:=(notProto_cell cs 2 (by decide)).run
 have n4:=(notProto_cell cs 4 (by decide)).run
 have n5:=(notProto_cell cs 5 (by decide)).run
 have n6:=(notProto_cell cs 6 (by decide)).run
 have n7:=(notProto_cell cs 7 (by decide)).run
 have H3:Hid ((∃l,cs.getD 3 none=some l/\condCell cs 3= .iface 329 (.agg #[.string (wordOf (l.getD 0 0)),.int .u8 (l.getD 0 0:Nat)])/\protoOf cs=l.getD 0 0)\/(condCell cs 3= .nilIface/\protoOf cs=0)):=by
  cases h:cs.getD 3 none with
  |none=>exact Or.inr ⟨by unfold condCell;rw[h],by unfold protoOf;rw[h];rfl⟩
  |some l=>exact Or.inl ⟨l,rfl,by unfold condCell;rw[h];rfl,by unfold protoOf;rw[h];rfl⟩
 generalize condCell cs 0=x0 at*
 generalize condCell cs 1=x1 at*
 generalize condCell cs 2=x2 at*
 generalize condCell cs 3=x3 at*
 generalize condCell cs 4=x4 at*
 generalize condCell cs 5=x5 at*
 generalize condCell cs 6=x6 at*
 generalize condCell cs 7=x7 at*
 have i0:∀W,(Instr.index 149 (.agg #[x0,x1,x2,x3,x4,x5,x6,x7]) (.int .i64 0)).run Tryz.prog W= .ok x0 W:=fun W=>by kernel_rfl
 have i1:∀W,(Instr.index 149 (.agg #[x0,x1,x2,x3,x4,x5,x6,x7]) (.int .i64 1)).run Tryz.prog W= .ok x1 W:=fun W=>by kernel_rfl
 have i2:∀W,(Instr.index 149 (.agg #[x0,x1,x2,x3,x4,x5,x6,x7]) (.int .i64 2)).run Tryz.prog W= .ok x2 W:=fun W=>by kernel_rfl
 have i3:∀W,(Instr.index 149 (.agg #[x0,x1,x2,x3,x4,x5,x6,x7]) (.int .i64 3)).run Tryz.prog W= .ok x3 W:=fun W=>by kernel_rfl
 have i4:∀W,(Instr.index 149 (.agg #[x0,x1,x2,x3,x4,x5,x6,x7]) (.int .i64 4)).run Tryz.prog W= .ok x4 W:=fun W=>by kernel_rfl
 have i5:∀W,(Instr.index 149 (.agg #[x0,x1,x2,x3,x4,x5,x6,x7]) (.int .i64 5)).run Tryz.prog W= .ok x5 W:=fun W=>by kernel_rfl
 have i6:∀W,(Instr.index 149 (.agg #[x0,x1,x2,x3,x4,x5,x6,x7]) (.int .i64 6)).run Tryz.prog W= .ok x6 W:=fun W=>by kernel_rfl
 have i7:∀W,(Instr.index 149 (.agg #[x0,x1,x2,x3,x4,x5,x6,x7]) (.int .i64 7)).run Tryz.prog W= .ok x7 W:=fun W=>by kernel_rfl
 go_enter Tryz.func165,Tryz.ntmps165
 go_wp2
 go_loopw [9] (fun i wr=>∃j:Nat,j<=8/\i= .int .i64 j/\(3<j->protoOf cs=0)/\Below w.heap.size w wr) (fun i _=>8-(intOf i).toNat)
 case atStart=>exact⟨0,by decide,rfl,fun h=>absurd h (by decide),(Below.refl _ _).alloc (Nat.le_refl _) _⟩
 case round=>
  obtain⟨j,hj,rfl,h3,hB⟩:=hrel
  have HB:Hid (Below w.heap.size w wr):=hB
  have HJ:Hid (3<j->protoOf cs=0):=h3
  clear hB h3
  by_cases hlt:j<8
  ·have hj3:j=3\/j≠3:=by omega
   rcases j with _|_|_|_|_|_|_|_|j
   ·go_wp2_with fail
    go_roundw
    case rel=>exact⟨1,by decide,rfl,fun h=>absurd h (by decide),(HB.out.alloc HB.out.size _)⟩
    case measure=>simp[intOf]
   ·go_wp2_with fail
    go_roundw
    case rel=>exact⟨2,by decide,rfl,fun h=>absurd h (by decide),(HB.out.alloc HB.out.size _)⟩
    case measure=>simp[intOf]
   ·go_wp2_with fail
    go_roundw
    case rel=>exact⟨3,by decide,rfl,fun h=>absurd h (by decide),(HB.out.alloc HB.out.size _)⟩
    case measure=>simp[intOf]
   ·rcases H3.out with⟨l,_,hx,hp⟩|⟨hx,hp⟩
    ·subst hx
     have HP:Hid (protoOf cs=l.getD 0 0):=hp
     clear hp H3
     generalize wordOf (l.getD 0 0)=wd at*
     generalize l.getD 0 0=pn at*
     have ta:∀W,(Instr.typeAssert (.iface 329 (.agg #[.string wd,.int .u8 (pn:Int)])) 148 329 true).run Tryz.prog W= .ok (.tuple #[.agg #[.string wd,.int .u8 (pn:Int)],.bool true]) W:=fun W=>by kernel_rfl
     go_wp2_with fail
     go_ret
     rw[HP.out]
     exact⟨rfl,HB.out.alloc HB.out.size _⟩
    ·subst hx
     have HP:Hid (protoOf cs=0):=hp
     have n3:=notProto_nil.run
     clear hp H3
     go_wp2_with fail
     go_roundw
     case rel=>exact⟨4,by decide,rfl,fun _=>HP.out,(HB.out.alloc HB.out.size _)⟩
     case measure=>simp[intOf]
   ·have HP:Hid (protoOf cs=0):=HJ.out (by omega)
    go_wp2_with fail
    go_roundw
    case rel=>exact⟨5,by decide,rfl,fun _=>HP.out,(HB.out.alloc HB.out.size _)⟩
    case measure=>simp[intOf]
   ·have HP:Hid (protoOf cs=0):=HJ.out (by omega)
    go_wp2_with fail
    go_roundw
    case rel=>exact⟨6,by decide,rfl,fun _=>HP.out,(HB.out.alloc HB.out.size _)⟩
    case measure=>simp[intOf]
   ·have HP:Hid (protoOf cs=0):=HJ.out (by omega)
    go_wp2_with fail
    go_roundw
    case rel=>exact⟨7,by decide,rfl,fun _=>HP.out,(HB.out.alloc HB.out.size _)⟩
    case measure=>simp[intOf]
   ·have HP:Hid (protoOf cs=0):=HJ.out (by omega)
    go_wp2_with fail
    go_roundw
    case rel=>exact⟨8,by decide,rfl,fun _=>HP.out,(HB.out.alloc HB.out.size _)⟩
    case measure=>simp[intOf]
   ·omega
  ·have e:j=8:=by omega
   subst e
   have HP:Hid (protoOf cs=0):=HJ.out (by omega)
   go_wp2_with fail
   go_ret
   rw[HP.out]
   exact⟨rfl,HB.out⟩
structure Asks (x:Value) (a b c:Bool):Prop where
 s:∃z,∀W,(Instr.typeAssert x 148 295 true).run Tryz.prog W= .ok (.tuple #[z,.bool a]) W
 d:∃z,∀W,(Instr.typeAssert x 148 296 true).run Tryz.prog W= .ok (.tuple #[z,.bool b]) W
 f:∃z,∀W,(Instr.typeAssert x 148 298 true).run Tryz.prog W= .ok (.tuple #[z,.bool c]) W
theorem asks_nil:Asks .nilIface false false false:=⟨⟨.agg #[.int .u16 0,.int .u16 0],fun W=>by kernel_rfl⟩,⟨.agg #[.int .u16 0,.int .u16 0],fun W=>by kernel_rfl⟩,⟨.agg #[.int .u8 0,.int .u8 0],fun W=>by kernel_rfl⟩⟩
theorem asks_0 (l:List Nat):Asks (cvOf 0 l) false false false:=by
 show Asks (ifaceV l) _ _ _
 exact⟨⟨.agg #[.int .u16 0,.int .u16 0],fun W=>by unfold ifaceV;kernel_rfl⟩,⟨.agg #[.int .u16 0,.int .u16 0],fun W=>by unfold ifaceV;kernel_rfl⟩,⟨.agg #[.int .u8 0,.int .u8 0],fun W=>by unfold ifaceV;kernel_rfl⟩⟩
theorem asks_1 (l:List Nat):Asks (cvOf 1 l) false false false:=by
 show Asks (srcV l) _ _ _
 exact⟨⟨.agg #[.int .u16 0,.int .u16 0],fun W=>by unfold srcV;kernel_rfl⟩,⟨.agg #[.int .u16 0,.int .u16 0],fun W=>by unfold srcV;kernel_rfl⟩,⟨.agg #[.int .u8 0,.int .u8 0],fun W=>by unfold srcV;kernel_rfl⟩⟩
theorem asks_2 (l:List Nat):Asks (cvOf 2 l) false false false:=by
 show Asks (dstV l) _ _ _
 exact⟨⟨.agg #[.int .u16 0,.int .u16 0],fun W=>by unfold dstV;kernel_rfl⟩,⟨.agg #[.int .u16 0,.int .u16 0],fun W=>by unfold dstV;kernel_rfl⟩,⟨.agg #[.int .u8 0,.int .u8 0],fun W=>by unfold dstV;kernel_rfl⟩⟩
theorem asks_3 (l:List Nat):Asks (cvOf 3 l) false false false:=by
 show Asks (protoV l) _ _ _
 exact⟨⟨.agg #[.int .u16 0,.int .u16 0],fun W=>by unfold protoV;kernel_rfl⟩,⟨.agg #[.int .u16 0,.int .u16 0],fun W=>by unfold protoV;kernel_rfl⟩,⟨.agg #[.int .u8 0,.int .u8 0],fun W=>by unfold protoV;kernel_rfl⟩⟩
theorem asks_4 (l:List Nat):Asks (cvOf 4 l) true false false:=by
 show Asks (sportV l) _ _ _
 exact⟨⟨.agg #[.int .u16 (n0 l 0),.int .u16 (n0 l 1)],fun W=>by unfold sportV;kernel_rfl⟩,⟨.agg #[.int .u16 0,.int .u16 0],fun W=>by unfold sportV;kernel_rfl⟩,⟨.agg #[.int .u8 0,.int .u8 0],fun W=>by unfold sportV;kernel_rfl⟩⟩
theorem asks_5 (l:List Nat):Asks (cvOf 5 l) false true false:=by
 show Asks (dportV l) _ _ _
 exact⟨⟨.agg #[.int .u16 0,.int .u16 0],fun W=>by unfold dportV;kernel_rfl⟩,⟨.agg #[.int .u16 (n0 l 0),.int .u16 (n0 l 1)],fun W=>by unfold dportV;kernel_rfl⟩,⟨.agg #[.int .u8 0,.int .u8 0],fun W=>by unfold dportV;kernel_rfl⟩⟩
theorem asks_6 (l:List Nat):Asks (cvOf 6 l) false false true:=by
 show Asks (flagsV l) _ _ _
 exact⟨⟨.agg #[.int .u16 0,.int .u16 0],fun W=>by unfold flagsV;kernel_rfl⟩,⟨.agg #[.int .u16 0,.int .u16 0],fun W=>by unfold flagsV;kernel_rfl⟩,⟨.agg #[.int .u8 (n0 l 0),.int .u8 (n0 l 1)],fun W=>by unfold flagsV;kernel_rfl⟩⟩
theorem asks_7 (l:List Nat):Asks (cvOf 7 l) false false false:=by
 show Asks (stateV l) _ _ _
 exact⟨⟨.agg #[.int .u16 0,.int .u16 0],fun W=>by unfold stateV;kernel_rfl⟩,⟨.agg #[.int .u16 0,.int .u16 0],fun W=>by unfold stateV;kernel_rfl⟩,⟨.agg #[.int .u8 0,.int .u8 0],fun W=>by unfold stateV;kernel_rfl⟩⟩
theorem asksC_0 (cs:Cs):Asks (condCell cs 0) (false) (false) (false):=by
 unfold condCell
 cases h:cs.getD 0 none with
 |none=>exact asks_nil
 |some l=>exact asks_0 l
theorem asksC_1 (cs:Cs):Asks (condCell cs 1) (false) (false) (false):=by
 unfold condCell
 cases h:cs.getD 1 none with
 |none=>exact asks_nil
 |some l=>exact asks_1 l
theorem asksC_2 (cs:Cs):Asks (condCell cs 2) (false) (false) (false):=by
 unfold condCell
 cases h:cs.getD 2 none with
 |none=>exact asks_nil
 |some l=>exact asks_2 l
theorem asksC_3 (cs:Cs):Asks (condCell cs 3) (false) (false) (false):=by
 unfold condCell
 cases h:cs.getD 3 none with
 |none=>exact asks_nil
 |some l=>exact asks_3 l
theorem asksC_4 (cs:Cs):Asks (condCell cs 4) ((cs.getD 4 none).isSome) (false) (false):=by
 unfold condCell
 cases h:cs.getD 4 none with
 |none=>exact asks_nil
 |some l=>exact asks_4 l
theorem asksC_5 (cs:Cs):Asks (condCell cs 5) (false) ((cs.getD 5 none).isSome) (false):=by
 unfold condCell
 cases h:cs.getD 5 none with
 |none=>exact asks_nil
 |some l=>exact asks_5 l
theorem asksC_6 (cs:Cs):Asks (condCell cs 6) (false) (false) ((cs.getD 6 none).isSome):=by
 unfold condCell
 cases h:cs.getD 6 none with
 |none=>exact asks_nil
 |some l=>exact asks_6 l
theorem asksC_7 (cs:Cs):Asks (condCell cs 7) (false) (false) (false):=by
 unfold condCell
 cases h:cs.getD 7 none with
 |none=>exact asks_nil
 |some l=>exact asks_7 l
def lack (cs:Cs) (c:Nat):Bool:=
 if c=4 then(cs.getD 4 none).isSome&& !(protoOf cs == 6||protoOf cs == 17) else if c=5 then(cs.getD 5 none).isSome&& !(protoOf cs == 6||protoOf cs == 17) else if c=6 then(cs.getD 6 none).isSome&& !(protoOf cs == 6) else false
theorem lack_all (cs:Cs) (h:∀c,c<8->lack cs c=false):missing cs=false:=by
 have h4:=h 4 (by decide)
 have h5:=h 5 (by decide)
 have h6:=h 6 (by decide)
 have e4:lack cs 4=((cs.getD 4 none).isSome&& !(protoOf cs == 6||protoOf cs == 17)):=rfl
 have e5:lack cs 5=((cs.getD 5 none).isSome&& !(protoOf cs == 6||protoOf cs == 17)):=rfl
 have e6:lack cs 6=((cs.getD 6 none).isSome&& !(protoOf cs == 6)):=rfl
 rw[e4] at h4
 rw[e5] at h5
 rw[e6] at h6
 unfold missing
 cases a:(cs.getD 4 none).isSome<;>cases b:(cs.getD 5 none).isSome<;>cases c:(cs.getD 6 none).isSome<;>cases d:(protoOf cs == 6)<;>cases e:(protoOf cs == 17)<;>simp_all
theorem lack_one (cs:Cs) (c:Nat) (h:lack cs c=true):missing cs=true:=by
 unfold lack at h
 unfold missing
 split at h
 ·cases a:(cs.getD 4 none).isSome<;>cases b:(cs.getD 5 none).isSome<;>cases c:(cs.getD 6 none).isSome<;>cases d:(protoOf cs == 6)<;>cases e:(protoOf cs == 17)<;>simp_all
 split at h
 ·cases a:(cs.getD 4 none).isSome<;>cases b:(cs.getD 5 none).isSome<;>cases c:(cs.getD 6 none).isSome<;>cases d:(protoOf cs == 6)<;>cases e:(protoOf cs == 17)<;>simp_all
 split at h
 ·cases a:(cs.getD 4 none).isSome<;>cases b:(cs.getD 5 none).isSome<;>cases c:(cs.getD 6 none).isSome<;>cases d:(protoOf cs == 6)<;>cases e:(protoOf cs == 17)<;>simp_all
 ·cases h
theorem lacks_any (v:Nat) (cs:Cs) (w:World):
 Calls Tryz.prog 140 #[ruleV v cs] w fun e w'=>e= .returned (.bool (missing cs))/\Below w.heap.size w w':=by
 have HPr:=proto_any v cs (w.alloc (.cells #[.int .u8 (v:Int),condCell cs 0,condCell cs 1,condCell cs 2,condCell cs 3,condCell cs 4,condCell cs 5,condCell cs 6,condCell cs 7] 151))
 unfold ruleV at HPr ⊢
 obtain⟨⟨za0,a0⟩,⟨zb0,b0⟩,⟨zc0,c0⟩⟩:=asksC_0 cs
 obtain⟨⟨za1,a1⟩,⟨zb1,b1⟩,⟨zc1,c1⟩⟩:=asksC_1 cs
 obtain⟨⟨za2,a2⟩,⟨zb2,b2⟩,⟨zc2,c2⟩⟩:=asksC_2 cs
 obtain⟨⟨za3,a3⟩,⟨zb3,b3⟩,⟨zc3,c3⟩⟩:=asksC_3 cs
 obtain⟨⟨za4,a4⟩,⟨zb4,b4⟩,⟨zc4,c4⟩⟩:=asksC_4 cs
 obtain⟨⟨za5,a5⟩,⟨zb5,b5⟩,⟨zc5,c5⟩⟩:=asksC_5 cs
 obtain⟨⟨za6,a6⟩,⟨zb6,b6⟩,⟨zc6,c6⟩⟩:=asksC_6 cs
 obtain⟨⟨za7,a7⟩,⟨zb7,b7⟩,⟨zc7,c7⟩⟩:=asksC_7 cs
 have H4:Hid (lack cs 4=((cs.getD 4 none).isSome&& !(protoOf cs == 6||protoOf cs == 17))):=rfl
 have H5:Hid (lack cs 5=((cs.getD 5 none).isSome&& !(protoOf cs == 6||protoOf cs == 17))):=rfl
 have H6:Hid (lack cs 6=((cs.getD 6 none).isSome&& !(protoOf cs == 6))):=rfl
 obtain⟨p,hp⟩:∃p,protoOf cs=p:=⟨_,rfl⟩
 rw[hp] at HPr H4 H5 H6
 have HPR:Hid (Calls _ _ _ _ _):=HPr
 clear HPr
 generalize condCell cs 0=x0 at*
 generalize condCell cs 1=x1 at*
 generalize condCell cs 2=x2 at*
 generalize condCell cs 3=x3 at*
 generalize condCell cs 4=x4 at*
 generalize condCell cs 5=x5 at*
 generalize condCell cs 6=x6 at*
 generalize condCell cs 7=x7 at*
 generalize (cs.getD 4 none).isSome=s4 at*
 generalize (cs.getD 5 none).isSome=s5 at*
 generalize (cs.getD 6 none).isSome=s6 at*
 have i0:∀W,(Instr.index 149 (.agg #[x0,x1,x2,x3,x4,x5,x6,x7]) (.int .i64 0)).run Tryz.prog W= .ok x0 W:=fun W=>by kernel_rfl
 have i1:∀W,(Instr.index 149 (.agg #[x0,x1,x2,x3,x4,x5,x6,x7]) (.int .i64 1)).run Tryz.prog W= .ok x1 W:=fun W=>by kernel_rfl
 have i2:∀W,(Instr.index 149 (.agg #[x0,x1,x2,x3,x4,x5,x6,x7]) (.int .i64 2)).run Tryz.prog W= .ok x2 W:=fun W=>by kernel_rfl
 have i3:∀W,(Instr.index 149 (.agg #[x0,x1,x2,x3,x4,x5,x6,x7]) (.int .i64 3)).run Tryz.prog W= .ok x3 W:=fun W=>by kernel_rfl
 have i4:∀W,(Instr.index 149 (.agg #[x0,x1,x2,x3,x4,x5,x6,x7]) (.int .i64 4)).run Tryz.prog W= .ok x4 W:=fun W=>by kernel_rfl
 have i5:∀W,(Instr.index 149 (.agg #[x0,x1,x2,x3,x4,x5,x6,x7]) (.int .i64 5)).run Tryz.prog W= .ok x5 W:=fun W=>by kernel_rfl
 have i6:∀W,(Instr.index 149 (.agg #[x0,x1,x2,x3,x4,x5,x6,x7]) (.int .i64 6)).run Tryz.prog W= .ok x6 W:=fun W=>by kernel_rfl
 have i7:∀W,(Instr.index 149 (.agg #[x0,x1,x2,x3,x4,x5,x6,x7]) (.int .i64 7)).run Tryz.prog W= .ok x7 W:=fun W=>by kernel_rfl
 clear hp
 have p6:((p:Int) !=6)= !(p == 6):=by cases h:(p == 6)<;>simp_all<;>omega
 have p17:((p:Int) !=17)= !(p == 17):=by cases h:(p == 17)<;>simp_all<;>omega
 generalize (p == 6)=t6 at*
 generalize (p == 17)=t17 at*
 go_enter Tryz.func140,Tryz.ntmps140
 go_wp2_with (go_at_call 165;refine HPR.out.mono ?_;rintro e w1 ⟨rfl,hb1⟩;have hk:∀i,w1.cell? ⟨w.heap.size,i,none⟩=(#[.int .u8 (v:Int),x0,x1,x2,x3,x4,x5,x6,x7]:Array Value)[i]? :=(fun i=>by rw[hb1.cell (p:=⟨w.heap.size,i,none⟩) (by simp),World.cell?_alloc_at _ _ _ _ rfl]);have k1:=hk 1;have k2:=hk 2;have k3:=hk 3;have k4:=hk 4;have k5:=hk 5;have k6:=hk 6;have k7:=hk 7;have k8:=hk 8;simp at k1 k2 k3 k4 k5 k6 k7 k8;clear hk)
 go_loopw [10] (fun i wr=>∃j:Nat,j<=8/\i= .int .i64 j/\(∀c,c<j->lack cs c=false)/\Below w.heap.size w wr) (fun i _=>8-(intOf i).toNat)
 case atStart=>exact⟨0,by decide,rfl,fun c h=>absurd h (Nat.not_lt_zero _),((Below.refl _ w).alloc (Nat.le_refl _) _).trans (hb1.mono (by simp))⟩
 case round=>
  obtain⟨j,hj,rfl,h3,hB⟩:=hrel
  have HB:Hid (Below w.heap.size w wr):=hB
  have HJ:Hid (∀c,c<j->lack cs c=false):=h3
  clear hB h3 hb1 HPR
  by_cases hlt:j<8
  ·rcases j with _|_|_|_|_|_|_|_|j
   ·go_wp2_with fail
    go_roundw
    case rel=>exact⟨1,by decide,rfl,fun c hc=>(by
     by_cases e:c=0
     ·subst e;rfl
     ·exact HJ.out c (by omega)),HB.out⟩
    case measure=>simp[intOf]
   ·go_wp2_with fail
    go_roundw
    case rel=>exact⟨2,by decide,rfl,fun c hc=>(by
     by_cases e:c=1
     ·subst e;rfl
     ·exact HJ.out c (by omega)),HB.out⟩
    case measure=>simp[intOf]
   ·go_wp2_with fail
    go_roundw
    case rel=>exact⟨3,by decide,rfl,fun c hc=>(by
     by_cases e:c=2
     ·subst e;rfl
     ·exact HJ.out c (by omega)),HB.out⟩
    case measure=>simp[intOf]
   ·go_wp2_with fail
    go_roundw
    case rel=>exact⟨4,by decide,rfl,fun c hc=>(by
     by_cases e:c=3
     ·subst e;rfl
     ·exact HJ.out c (by omega)),HB.out⟩
    case measure=>simp[intOf]
   ·cases s4 with
    |false=>
     go_wp2_with fail
     go_roundw
     case rel=>exact⟨5,by decide,rfl,fun c hc=>(by
      by_cases e:c=4
      ·subst e;rw[H4.out];rfl
      ·exact HJ.out c (by omega)),HB.out⟩
     case measure=>simp[intOf]
    |true=>
     cases t6 with
     |true=>
      go_wp2_with fail
      go_roundw
      case rel=>exact⟨5,by decide,rfl,fun c hc=>(by
       by_cases e:c=4
       ·subst e;rw[H4.out];rfl
       ·exact HJ.out c (by omega)),HB.out⟩
      case measure=>simp[intOf]
     |false=>
      cases t17 with
      |true=>
       go_wp2_with fail
       go_roundw
       case rel=>exact⟨5,by decide,rfl,fun c hc=>(by
        by_cases e:c=4
        ·subst e;rw[H4.out];rfl
        ·exact HJ.out c (by omega)),HB.out⟩
       case measure=>simp[intOf]
      |false=>
       go_wp2_with fail
       go_ret
       rw[lack_one cs 4 (by rw[H4.out];rfl)]
       exact⟨rfl,HB.out⟩
   ·cases s5 with
    |false=>
     go_wp2_with fail
     go_roundw
     case rel=>exact⟨6,by decide,rfl,fun c hc=>(by
      by_cases e:c=5
      ·subst e;rw[H5.out];rfl
      ·exact HJ.out c (by omega)),HB.out⟩
     case measure=>simp[intOf]
    |true=>
     cases t6 with
     |true=>
      go_wp2_with fail
      go_roundw
      case rel=>exact⟨6,by decide,rfl,fun c hc=>(by
       by_cases e:c=5
       ·subst e;rw[H5.out];rfl
       ·exact HJ.out c (by omega)),HB.out⟩
      case measure=>simp[intOf]
     |false=>
      cases t17 with
      |true=>
       go_wp2_with fail
       go_roundw
       case rel=>exact⟨6,by decide,rfl,fun c hc=>(by
        by_cases e:c=5
        ·subst e;rw[H5.out];rfl
        ·exact HJ.out c (by omega)),HB.out⟩
       case measure=>simp[intOf]
      |false=>
       go_wp2_with fail
       go_ret
       rw[lack_one cs 5 (by rw[H5.out];rfl)]
       exact⟨rfl,HB.out⟩
   ·cases s6 with
    |false=>
     go_wp2_with fail
     go_roundw
     case rel=>exact⟨7,by decide,rfl,fun c hc=>(by
      by_cases e:c=6
      ·subst e;rw[H6.out];rfl
      ·exact HJ.out c (by omega)),HB.out⟩
     case measure=>simp[intOf]
    |true=>
     cases t6 with
     |true=>
      go_wp2_with fail
      go_roundw
      case rel=>exact⟨7,by decide,rfl,fun c hc=>(by
       by_cases e:c=6
       ·subst e;rw[H6.out];rfl
       ·exact HJ.out c (by omega)),HB.out⟩
      case measure=>simp[intOf]
     |false=>
      go_wp2_with fail
      go_ret
      rw[lack_one cs 6 (by rw[H6.out];rfl)]
      exact⟨rfl,HB.out⟩
   ·go_wp2_with fail
    go_roundw
    case rel=>exact⟨8,by decide,rfl,fun c hc=>(by
     by_cases e:c=7
     ·subst e;rfl
     ·exact HJ.out c (by omega)),HB.out⟩
    case measure=>simp[intOf]
   ·omega
  ·have e:j=8:=by omega
   subst e
   go_wp2_with fail
   go_ret
   rw[lack_all cs HJ.out]
   exact⟨rfl,HB.out⟩
theorem own_keep {w w':World} {B:Nat} {e:TypeId} {sz:Nat} {v:Value} {n:Nat} {xs:List Value} (h:w.ownsRow B e sz v n xs) (hk:∀g,v.ownBlock=some g->w'.heap[g]? =w.heap[g]?):w'.ownsRow B e sz v n xs:=by
 refine⟨h.1,?_⟩
 rcases h.2 with h'|⟨g,cap,cur,e,hg,hh,r⟩
 ·exact .inl h'
 ·subst e
  exact .inr ⟨g,cap,cur,rfl,hg,by rw[hk g rfl];exact hh,r⟩
def ruleCells (r:Rl):List Value:=[.int .u8 (r.v:Int),condCell r.cs 0,condCell r.cs 1,condCell r.cs 2,condCell r.cs 3,condCell r.cs 4,condCell r.cs 5,condCell r.cs 6,condCell r.cs 7]
def rulesCells:List Rl->List Value
 |[]=>[]
 |r::l=>ruleCells r++rulesCells l
theorem rulesCells_snoc (l:List Rl) (r:Rl):rulesCells (l++[r])=rulesCells l++ruleCells r:=by
 induction l with
 |nil=>simp[rulesCells]
 |cons a l ih=>simp[rulesCells,ih]
theorem Tryz.infoRule:(Tryz.prog.info? 151).map (fun i=>(i.zero,i.size,i.bytes))=some (some (.agg #[.int .u8 0,.nilIface,.nilIface,.nilIface,.nilIface,.nilIface,.nilIface,.nilIface,.nilIface]),9,136):=by kernel_rfl
structure Chg (B K:Nat) (w w':World):Prop where
 os:w'.os=w.os
 tape:w'.tape=w.tape
 output:w'.output=w.output
 size:w.heap.size<=w'.heap.size
 block:∀k,k<B->k≠K->w'.heap[k]? =w.heap[k]?
theorem Chg.refl (B K:Nat) (w:World):Chg B K w w:=⟨rfl,rfl,rfl,Nat.le_refl _,fun _ _ _=>rfl⟩
theorem Chg.trans {B K:Nat} {a b c:World} (h:Chg B K a b) (k:Chg B K b c):Chg B K a c:=
 ⟨k.os.trans h.os,k.tape.trans h.tape,k.output.trans h.output,Nat.le_trans h.size k.size,fun i hi hn=>(k.block i hi hn).trans (h.block i hi hn)⟩
theorem Chg.of {B K:Nat} {w w':World} (h:Below B w w'):Chg B K w w':=⟨h.os,h.tape,h.output,h.size,fun k hk _=>h.block k hk⟩
theorem Chg.set {B K:Nat} {a w:World} (h:Chg B K a w) (i:Nat) (v:Value):Chg B K a (w.setCell ⟨K,i,none⟩ v):=
 h.trans ⟨rfl,rfl,rfl,by simp[World.setCell],fun k _ hk=>Below.heap_setCell _ _ _ _ hk⟩
theorem Chg.cell {B K:Nat} {w w':World} (h:Chg B K w w') {p:Addr} (hp:p.block<B) (hn:p.block≠K):w'.cell? p=w.cell? p:=World.cell?_of_block (w:=w) (h.block p.block hp hn)
theorem Chg.frozen {B K:Nat} {w w':World} (h:Chg B K w w') {p:Addr} (hp:p.block<B) (hn:p.block≠K):w'.frozen? p=w.frozen? p:=World.frozen?_of_block (w:=w) (h.block p.block hp hn)
structure BookAt (w:World) (B K:Nat) (b:Bk) (rv:Value):Prop where
 c0:w.cell? ⟨K,0,none⟩=some (.bool b.has)
 c1:w.cell? ⟨K,1,none⟩=some (.int .u8 (b.pol:Int))
 c2:w.cell? ⟨K,2,none⟩=some rv
 own:w.ownsRow B 151 9 rv b.rs.length (rulesCells b.rs)
 f:∀i,w.frozen? ⟨K,i,none⟩=false
 lt:K<B
 le:B<=w.heap.size
theorem BookAt.below {w w':World} {B K:Nat} {b:Bk} {rv:Value} (h:BookAt w B K b rv) (hw:Below w.heap.size w w'):BookAt w' B K b rv:=by
 have hK:K<w.heap.size:=Nat.lt_of_lt_of_le h.lt h.le
 refine⟨(hw.cell (p:=⟨K,0,none⟩) hK).trans h.c0,(hw.cell (p:=⟨K,1,none⟩) hK).trans h.c1,(hw.cell (p:=⟨K,2,none⟩) hK).trans h.c2,own_keep h.own (fun g hg=> ?_),fun i=>(hw.frozen (p:=⟨K,i,none⟩) hK).trans (h.f i),h.lt,Nat.le_trans h.le hw.size⟩
 exact hw.block g (h.own.lt g hg).2
theorem BookAt.tch {w w':World} {B K g:Nat} {b:Bk} {rv:Value} (h:BookAt w B K b rv) (hw:Tch g w w') (hg:K≠g) (hr:rv.ownBlock≠some g):BookAt w' B K b rv:=by
 have hK:K<w.heap.size:=Nat.lt_of_lt_of_le h.lt h.le
 refine⟨(hw.cell (p:=⟨K,0,none⟩) hK hg).trans h.c0,(hw.cell (p:=⟨K,1,none⟩) hK hg).trans h.c1,(hw.cell (p:=⟨K,2,none⟩) hK hg).trans h.c2,own_keep h.own (fun k hk=> ?_),fun i=>(hw.frozen (p:=⟨K,i,none⟩) hK hg).trans (h.f i),h.lt,Nat.le_trans h.le hw.size⟩
 exact hw.block k (h.own.lt k hk).2 (fun e=>hr (by rw[hk,e]))
theorem BookAt.form {w:World} {B K:Nat} {b:Bk} {rv:Value} (h:BookAt w B K b rv):∃p c,rv= .slice p b.rs.length c:=by
 rcases h.own.2 with⟨e,e'⟩|⟨g,cap,cur,e,_⟩
 ·rw[e'];exact⟨_,_,e⟩
 ·exact⟨_,_,e⟩
theorem slice_from (k pb o m c:Nat) (x:Int) (hx:x=(k:Int)) (hk:k<=m) (hm:m<=c) (hc:c<=9223372036854775807):∃o',(k<c->o'=o+k)/\∀W,(Instr.slice 57 (.slice (some ⟨pb,o,none⟩) m c) (some (.int .i64 x)) none none).run Tryz.prog W= .ok (.slice (some ⟨pb,o',none⟩) (m-k) (c-k)) W:=by
 subst hx
 refine⟨if k<c then o+k else o,fun h=>if_pos h,fun W=> ?_⟩
 have hs:∀w,(sizeOf (Tryz.prog.elem 57)).run Tryz.prog w= .ok 1 w:=fun w=>by kernel_rfl
 have e:(Tryz.prog.elem 57)=9:=by kernel_rfl
 rw[run_slice_l (P:=Tryz.prog) W 57 (some ⟨pb,o,none⟩) m c (by rw[e];exact Tryz.underlying57) .i64 (k:Int) (by omega) (by omega),hs]
 simp only[Result.andThen,sliced]
 by_cases hm:k<c
 ·have ea:(⟨pb,o,none⟩:Addr).add k=⟨pb,o+k,none⟩:=by simp only[Addr.add];split<;>simp_all
  have:¬c=k:=by omega
  simp[hm,ea,this]
 ·have:c=k:=by omega
  simp[this]
end Go.Proofs.YtclpnafiiobfhaaGreatDoor

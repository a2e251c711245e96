import Derived.Test.YtclpnafiiobfhaaGreatDoorQ03
set_option linter.unusedVariables false
set_option linter.unusedSimpArgs false
set_option maxHeartbeats 6400000
set_option maxRecDepth 100000
namespace Go.Proofs.YtclpnafiiobfhaaGreatDoor
open Go.RowKit
def Rc (w:World) (g:Nat) (L:List Value):Prop:=w.heap[g]? =some (.cells L.toArray 65 (0,0))/\∀v ∈ L,v.oneCell'=true
theorem Rc.lt {w:World} {g:Nat} {L:List Value} (h:Rc w g L):g<w.heap.size:=(Array.getElem?_eq_some_iff.1 h.1).1
theorem Rc.cell {w:World} {g:Nat} {L:List Value} (h:Rc w g L) (i:Nat) (v:Value) (hi:L[i]? =some v):w.cell? ⟨g,i,none⟩=some v:=by
 have h:=h.1;simp only[World.cell?,h]
 simpa using hi
theorem Rc.frozen {w:World} {g:Nat} {L:List Value} (h:Rc w g L) (i:Nat):w.frozen? ⟨g,i,none⟩=false:=by
 have h:=h.1;simp[World.frozen?,h]
theorem Rc.set {w:World} {g:Nat} {L:List Value} (h:Rc w g L) (i:Nat) (v:Value) (hv:v.oneCell'=true:=by rfl):Rc (w.setCell ⟨g,i,none⟩ v) g (L.set i v):=by
 refine⟨?_,fun x hx=> ?_⟩
 ·have h:=h.1
  simp only[World.setCell,Array.getElem?_modify,h,if_true,Option.map_some];simp
 ·rcases List.mem_or_eq_of_mem_set hx with q|q
  ·exact h.2 x q
  ·rw[q];exact hv
theorem Rc.below {w w':World} {g B:Nat} {L:List Value} (h:Rc w g L) (hb:Below B w w') (hg:g<B):Rc w' g L:=by
 refine⟨?_,h.2⟩;rw[hb.block g hg];exact h.1
theorem Rc.alloc {w:World} {g:Nat} {L:List Value} (h:Rc w g L) (o:Obj):Rc (w.alloc o) g L:=h.below (bal _ _) h.lt
def zHW (g:Nat) (L L1:List Value) (k:Nat) (w w':World):Prop:=Tch g w w'/\∃L',Rc w' g L'/\L'.length=24/\(k=0->L'=L1)
theorem zBI {g:Nat} {L L1:List Value} {k:Nat} {w w':World} (hl:L.length=24) (h:Rc w g L) (hb:Below w.heap.size w w') (hk:k≠0):zHW g L L1 k w w':=
 ⟨Tch.of hb,L,h.below hb h.lt,hl,fun e=>absurd e hk⟩
def zL4 (c:Nat) (L:List Value) (v:List Nat):List Value:=(L.set (15+c) (.int .i64 (n0 v 0))).set (17+c) (.int .i64 (n0 v 1))
theorem zIq {s:ByteArray} (h:zBJ (zAj 45 s)=none):zAI s=(3,[]):=by unfold zAI;rw[h]
theorem zHX {s:ByteArray} (h:2<(zAj 45 s).length):zAI s=(3,[]):=by
 unfold zAI;cases hn:zBJ (zAj 45 s) with
 |none=>rfl
 |some q=>
  have:=zBL _ _ hn;rcases q with _|⟨a,_|⟨b,_|⟨c,r⟩⟩⟩
  ·rfl
  ·simp at this;omega
  ·simp at this;omega
  ·rfl
theorem zIr {s:ByteArray} {a:Nat} (h:zBJ (zAj 45 s)=some [a]):zAI s=if a<=65535 then(0,[a,a]) else(5,[]):=by unfold zAI;rw[h]
theorem zIs {s:ByteArray} {a b:Nat} (h:zBJ (zAj 45 s)=some [a,b]):zAI s=if b<=65535/\a<=b then(0,[a,b]) else(5,[]):=by unfold zAI;rw[h]
theorem zF6 (g c:Nat) (s:ByteArray) (w:World)
 (hN:Calls Tryz.prog 76 #[.string s,.int .u8 45,.int .i64 1,.int .i64 2,.int .i64 65535] w fun e W'=>e= .returned (.tuple #[.slice none 0 0,.int .i64 3])/\Below w.heap.size w W'):
 Calls Tryz.prog 75 #[.pointer (some ⟨g,0,none⟩),.int .i64 (c:Int),.string s] w fun e w'=>e= .returned (.int .i64 3)/\Below w.heap.size w w':=by
 have HN:=hid hN;clear hN;go_enter Tryz.func75,Tryz.ntmps75;go_wp2_with (go_at_call 76;refine HN.out.mono ?_;rintro e w1 ⟨rfl,hb1⟩);go_ret;exact⟨rfl,hb1⟩
theorem zIt (g c:Nat) (s:ByteArray) (q:List Nat) (L:List Value) (w:World) (hc:c<2) (hs:s.size<=2000) (hR:Rc w g L) (hl:L.length=24) (h1:1<=(zAj 45 s).length) (h2:(zAj 45 s).length<=2) (hq:zBJ (zAj 45 s)=some q):
 Calls Tryz.prog 75 #[.pointer (some ⟨g,0,none⟩),.int .i64 (c:Int),.string s] w fun e w'=>e= .returned (.int .i64 ((zAI s).1:Int))/\zHW g L (zL4 c L (zAI s).2) (zAI s).1 w w':=by
 have hql:=zBL _ _ hq;have HN:=hid (zBc s 45 1 2 65535 w hs (by decide) (by decide) (by decide) h1 h2);have HQ:=hid hq;obtain⟨n,hn⟩:∃n,(zAj 45 s).length=n:=⟨_,rfl⟩;obtain⟨lo,hi,hlo,hhi,hpv⟩:∃lo hi:Nat,q.getD 0 0=lo/\q.getD (n-1) 0=hi/\zAI s=if hi<=65535/\lo<=hi then(0,[lo,hi]) else(5,[]):=by
  rcases q with _|⟨a,_|⟨b,_|⟨d,r⟩⟩⟩
  ·simp at hql;omega
  ·simp at hql
   have:n=1:=by omega
   subst this;exact⟨a,a,rfl,rfl,by rw[zIr hq];by_cases e:a<=65535<;>simp[e]⟩
  ·simp at hql
   have:n=2:=by omega
   subst this;exact⟨a,b,rfl,rfl,zIs hq⟩
  ·simp at hql;omega
 rw[hn] at HN hql h1 h2;have n1:(1:Int)<=(n:Int):=by omega
 have n2:(n:Int)<=2:=by omega
 have n3:(0:Int)<(n:Int):=by omega
 obtain⟨u,hu⟩:∃u,L[15+c]? =some u:=⟨_,List.getElem?_eq_getElem (by omega)⟩;obtain⟨v,hv⟩:∃v,L[17+c]? =some v:=⟨_,List.getElem?_eq_getElem (by omega)⟩;have hgl:=hR.lt;have HR:Hid (Rc w g L):=hR;clear hR hq;go_enter Tryz.func75,Tryz.ntmps75;go_upto_region 4 with(go_at_call 76;refine HN.out.mono ?_;rintro e w1 ⟨k1,k2,hb1⟩;obtain⟨v,rfl,hO⟩:=k1 q HQ.out;clear k1 k2;obtain⟨gq,cap,rfl,hqB,hqlt⟩:=hO.form (by omega))
 have hcq:∀j,j<n->w1.cell? ⟨gq,j,none⟩=some (.int .i64 ((min (q.getD j 0) 65536:Nat):Int)):=fun j hj=>by
  rw[hO.cellAt j (by omega),List.getElem?_map,List.getElem?_eq_getElem (by omega),List.getD_eq_getElem?_getD,List.getElem?_eq_getElem (by omega)];rfl
 have q0:=hcq 0 (by omega);have q1:=hcq (n-1) (by omega);rw[hlo] at q0;rw[hhi] at q1;have HR1:Hid (Rc w1 g L):=HR.out.below hb1 hgl;have m0:=HR1.out.cell _ _ hu;have m1:=HR1.out.cell _ _ hv;have f0:=HR1.out.frozen (15+c);have f1:=HR1.out.frozen (17+c);have HB1:=hid hb1;have ne1:gq≠g:=by omega
 have e1:((n:Int)-1).toNat=n-1:=by omega
 clear hcq hO hb1
 by_cases hg:hi<=65535/\lo<=hi
 ·rw[if_pos hg] at hpv
  have HPV:=hid hpv;have a1:min lo 65536=lo:=by omega
  have a2:min hi 65536=hi:=by omega
  rw[a1] at q0;rw[a2] at q1;have i1:(lo:Int)<=65535:=by omega
  have i2:(hi:Int)<=65535:=by omega
  have i3:(lo:Int)<=(hi:Int):=by omega
  clear a1 a2 hpv hlo hhi;have hc2:c=0\/c=1:=by omega
  rcases hc2 with rfl|rfl
  all_goals
   go_wp2_with fail;go_ret;rw[HPV.out];exact⟨rfl,((Tch.of HB1.out).set _ _).set _ _,_,(HR1.out.set _ _).set _ _,by simp[hl],fun _=>rfl⟩
 ·rw[if_neg hg] at hpv
  have HPV:=hid hpv;have hk:(65536:Int)=((min lo 65536:Nat):Int)\/(((min lo 65536:Nat):Int)<=65535/\(65536:Int)=((min hi 65536:Nat):Int))\/(((min lo 65536:Nat):Int)<=65535/\((min hi 65536:Nat):Int)<=65535/\((min hi 65536:Nat):Int)<((min lo 65536:Nat):Int)):=by omega
  generalize ((min lo 65536:Nat):Int)=A at q0 hk;generalize ((min hi 65536:Nat):Int)=B at q1 hk;clear hpv hlo hhi hg;rcases hk with rfl|⟨i1,rfl⟩|⟨i1,i2,i3⟩
  all_goals
   go_wp2_with fail;go_ret;rw[HPV.out];exact⟨rfl,zBI hl HR.out HB1.out (by decide)⟩
theorem zKc (g c:Nat) (s:ByteArray) (L:List Value) (w:World) (hc:c<2) (hs:s.size<=2000) (hR:Rc w g L) (hl:L.length=24):
 Calls Tryz.prog 75 #[.pointer (some ⟨g,0,none⟩),.int .i64 (c:Int),.string s] w fun e w'=>e= .returned (.int .i64 ((zAI s).1:Int))/\zHW g L (zL4 c L (zAI s).2) (zAI s).1 w w':=by
 have h1:=zCM 45 s
 by_cases h2:(zAj 45 s).length<=2
 ·cases hq:zBJ (zAj 45 s) with
  |some q=>exact zIt g c s q L w hc hs hR hl h1 h2 hq
  |none=>
   rw[zIq hq];exact(zF6 g c s w ((zBc s 45 1 2 65535 w hs (by decide) (by decide) (by decide) h1 h2).mono fun e w' h=>⟨h.2.1 hq,h.2.2⟩)).mono fun e w' ⟨he,hb⟩=>⟨he,zBI hl hR hb (by decide)⟩
 ·rw[zHX (by omega)]
  exact(zF6 g c s w (zC3 s 45 1 2 65535 w hs (by decide) (by decide) (.inr (by omega)))).mono fun e w' ⟨he,hb⟩=>⟨he,zBI hl hR hb (by decide)⟩
theorem zE3 (w:World):Calls Tryz.prog 44 #[] w fun e w'=>e= .returned (.slice (some ⟨w.heap.size,0,none⟩) 3 3)/\w'=w.alloc (.cells (sws.map Value.string).toArray 9):=by
 go_enter Tryz.func44,Tryz.ntmps44;go_wp2;go_ret;exact⟨rfl,rfl⟩
theorem zDo (w:World):Calls Tryz.prog 23 #[] w fun e w'=>e= .returned (.slice (some ⟨w.heap.size,0,none⟩) 3 3)/\w'=w.alloc (.cells (vws.map Value.string).toArray 9):=by
 go_enter Tryz.func23,Tryz.ntmps23;go_wp2;go_ret;exact⟨rfl,rfl⟩
theorem zDS (w:World):Calls Tryz.prog 74 #[] w fun e w'=>e= .returned (.slice (some ⟨w.heap.size,0,none⟩) 3 3)/\w'=w.alloc (.cells (pws.map Value.string).toArray 9):=by
 go_enter Tryz.func74,Tryz.ntmps74;go_wp2;go_ret;exact⟨rfl,rfl⟩
theorem zE4 (w:World):Calls Tryz.prog 25 #[] w fun e w'=>e= .returned (.slice (some ⟨w.heap.size,0,none⟩) 8 8)/\w'=w.alloc (.cells (nws.map Value.string).toArray 9):=by
 go_enter Tryz.func25,Tryz.ntmps25;go_wp2;go_ret;exact⟨rfl,rfl⟩
def stL (L:List Value) (l:List Bool):List Value:=((L.set 21 (.bool (l.getD 0 false))).set 22 (.bool (l.getD 1 false))).set 23 (.bool (l.getD 2 false))
theorem zL5 (L:List Value) (l:List Bool):(stL L l).length=L.length:=by simp[stL]
theorem zPq (L:List Value) (l:List Bool) (hL:L.length=24) (k:Nat) (hk:k<3):(stL L l)[21+k]? =some (.bool (l.getD k false)):=by
 have h3:k=0\/k=1\/k=2:=by omega
 unfold stL;rcases h3 with rfl|rfl|rfl<;>simp[List.getElem?_set,hL]
theorem zPr (L:List Value) (l:List Bool) (hL:L.length=24) (hl:l.length=3) (k:Nat) (hk:k<3):(stL L l).set (21+k) (.bool true)=stL L (l.set k true):=by
 obtain⟨a,b,c,rfl⟩:∃a b c,l=[a,b,c]:=by
  rcases l with _|⟨a,_|⟨b,_|⟨c,_|⟨d,r⟩⟩⟩⟩<;>simp at hl
  exact⟨a,b,c,rfl⟩
 have h3:k=0\/k=1\/k=2:=by omega
 unfold stL
 apply List.ext_getElem?
 intro i;rcases h3 with rfl|rfl|rfl<;>simp only[List.getElem?_set,List.length_set,hL]<;>by_cases e1:21=i<;>by_cases e2:22=i<;>by_cases e3:23=i<;>simp[e1,e2,e3]<;>omega
theorem zL6 {L:List Value} (hL:L.length=24) (h0:L[21]? =some (.bool false)) (h1:L[22]? =some (.bool false)) (h2:L[23]? =some (.bool false)):stL L [false,false,false]=L:=by
 unfold stL
 apply List.ext_getElem?
 intro i;simp only[List.getElem?_set,List.length_set,hL]
 by_cases e3:23=i
 ·subst e3;simpa using h2.symm
 by_cases e2:22=i
 ·subst e2;simpa using h1.symm
 by_cases e1:21=i
 ·subst e1;simpa using h0.symm
 simp[e1,e2,e3]
theorem zEU:∀(l:List ByteArray) (b:List Bool),(zAz l b true).2=true
 |[],_=>rfl
 |p::r,b=>by rw[zAz];exact zEU r _
theorem zIu (g:Nat) (s:ByteArray) (L:List Value) (w:World) (hs:s.size<=2000) (hR:Rc w g L) (hl:L.length=24) (h0:L[21]? =some (.bool false)) (h1:L[22]? =some (.bool false)) (h2:L[23]? =some (.bool false)):
 Calls Tryz.prog 77 #[.pointer (some ⟨g,0,none⟩),.string s] w fun e w'=>e= .returned (.int .i64 ((zAc s).1:Int))/\zHW g L (((L.set 21 (.bool ((zAc s).2.getD 0 0 == 1))).set 22 (.bool ((zAc s).2.getD 1 0 == 1))).set 23 (.bool ((zAc s).2.getD 2 0 == 1))) (zAc s).1 w w':=by
 have HC:Hid (Calls _ _ _ w _):=zBn s 44 w hs;have hcp:=zCM 44 s;have hcl:=zBq 44 s;have HSV:Hid (zAc s=if(zAj 44 s).any (fun q=>decide (plc sws q<0)) then(3,[]) else if(zAz (zAj 44 s) [false,false,false] false).2 then(5,[]) else(0,(zAz (zAj 44 s) [false,false,false] false).1.map bn)):=rfl;obtain⟨ps,hcs⟩:∃cs,zAj 44 s=cs:=⟨_,rfl⟩;rw[hcs] at HC hcp hcl HSV;have HR:Hid (Rc w g L):=hR;have hgl:=hR.lt;clear hcs hR;go_enter Tryz.func77,Tryz.ntmps77;go_wp2_with (go_at_call 40;refine HC.out.mono ?_;rintro e w1 ⟨v,rfl,hO1,hb1⟩;obtain⟨gp,cap,rfl,hgB,hpl⟩:=hO1.form hcp;have HS:Hid (zB2 w1 gp 0 ps):=zC1 hO1;have HB1:=hid hb1;clear hO1 hb1);go_loopw [6] (fun i wr=>∃(j:Nat),j<=ps.length/\i= .int .i64 j/\(∀p ∈ ps.take j,0<=plc sws p)/\Below w1.heap.size w1 wr) (fun i _=>ps.length-(intOf i).toNat)
 case atStart=>exact⟨0,Nat.zero_le _,rfl,fun p hp=>by simp at hp,Below.refl _ _⟩
 case round=>
  obtain⟨j,hj,rfl,hpre,hB⟩:=hrel;have HPRE:=hid hpre;have HB:=hid hB;have hzz:w1.heap.size<=wr.heap.size:=hB.size;clear hpre hB
  by_cases hlt:j<ps.length
  ·have c:=HS.out j hlt
   rw[Nat.zero_add,<-HB.out.cell (p:=⟨gp,j,none⟩) hpl] at c;obtain⟨p,hp⟩:∃p,ps.getD j ByteArray.empty=p:=⟨_,rfl⟩;rw[hp] at c;have hpm:p ∈ ps:=by
    rw[<-hp,List.getD_eq_getElem?_getD,List.getElem?_eq_getElem hlt];exact List.getElem_mem hlt
   have htk:ps.take (j+1)=ps.take j++[p]:=by
    rw[List.take_add_one,<-hp,List.getD_eq_getElem?_getD,List.getElem?_eq_getElem hlt];rfl
   have HPM:Hid (p ∈ ps):=hpm;have HTK:=hid htk;have HPl:Hid (∀W:World,W.heap=(wr.alloc (.cells (sws.map Value.string).toArray 9)).heap->Calls Tryz.prog 22 #[.slice (some ⟨wr.heap.size,0,none⟩) 3 3,.string p] W fun e w'=>e= .returned (.int .i64 (plc sws p))/\w'=W):=fun W hW=>zCX sws wr.heap.size 0 3 p W (by decide) (fun j hj=>by
    have:=zB2.made wr sws 9 j hj;simp only[World.cell?,hW] at this ⊢;exact this)
   have hgr:gp<wr.heap.size:=by omega
   have hgn:gp≠wr.heap.size:=by omega
   clear hp hpm htk;go_upto_region 5 with fail
   go_cut [7] from 16 to 21 (fun x w'=>x= .int .i64 (plc sws p)/\Below w1.heap.size w1 w')
   case first=>
    go_region_with (first|(go_at_call 44;refine(zE3 _).mono ?_;rintro e w' ⟨rfl,rfl⟩)|(go_at_call 22;refine(HPl.out _ (by rfl)).mono ?_;rintro e w' ⟨rfl,rfl⟩))
    all_goals
     go_wp2_with fail;go_meet;refine⟨rfl,?_⟩
     repeat (with_reducible first|exact HB.out|refine Below.drew ?_|refine Below.alloc ?_ (by first|omega|(simp;done)|(simp;omega)) _)
   obtain⟨rfl,hb2⟩:=hcut;have HB2:=hid hb2;clear hb2
   by_cases hneg:plc sws p<0
   ·have HE:Hid (zAc s=(3,[])):=show zAc s=(3,[]) by
     rw[HSV.out,if_pos];rw[List.any_eq_true];exact⟨p,HPM.out,by simpa using hneg⟩
    go_wp2_with fail;go_ret;rw[HE.out];exact⟨rfl,zBI hl HR.out (HB1.out.trans (HB2.out.mono HB1.out.size)) (by decide)⟩
   ·have HPX:Hid (∀q ∈ ps.take (j+1),0<=plc sws q):=fun q hq=>by
     rw[HTK.out] at hq;rcases List.mem_append.1 hq with hq|hq
     ·exact HPRE.out q hq
     ·rw[List.mem_singleton] at hq;subst hq;omega
    go_wp2_with fail;go_roundw
    case rel=>exact⟨j+1,by omega,by go_num,HPX.out,HB2.out⟩
    case measure=>simp[intOf];omega
  ·have e:j=ps.length:=by omega
   subst e;rw[List.take_length] at HPRE;have hany:ps.any (fun q=>decide (plc sws q<0))=false:=by
    rw[List.any_eq_false];intro q hq;have:=HPRE.out q hq
    simpa using this
   rw[hany] at HSV;clear hany;go_wp2_with fail;obtain⟨wq,rfl⟩:∃x,x=wr:=⟨_,rfl⟩;have HBq:Hid (Below w.heap.size w wq):=HB1.out.trans (HB.out.mono HB1.out.size);have HSq:Hid (zB2 wq gp 0 ps):=HS.out.below HB.out hpl;have HRq:Hid (Rc wq g L):=HR.out.below HBq.out hgl;have hgp:gp≠g:=by omega
   have hgq:gp<wq.heap.size:=by omega
   have hggq:g<wq.heap.size:=HRq.out.lt;clear hzz;go_loopw [8] (fun i wr=>∃(j:Nat) (l:List Bool),j<=ps.length/\i= .int .i64 j/\zAz ps [false,false,false] false=zAz (ps.drop j) l false/\l.length=3/\Rc wr g (stL L l)/\Tch g wq wr) (fun i _=>ps.length-(intOf i).toNat)
   case atStart=>exact⟨0,[false,false,false],Nat.zero_le _,rfl,by simp,rfl,by rw[zL6 hl h0 h1 h2];exact HRq.out,Tch.refl _ _⟩
   case round=>
    obtain⟨j,l,hj,rfl,hin,hl3,hRl,hT⟩:=hrel;have HIN:=hid hin;have HRl:=hid hRl;have HT:=hid hT;have hzr:wq.heap.size<=wr.heap.size:=hT.size;clear hin hRl hT
    by_cases hlt:j<ps.length
    ·have c:=HSq.out j hlt
     rw[Nat.zero_add,<-HT.out.cell (p:=⟨gp,j,none⟩) hgq hgp] at c;obtain⟨p,hp⟩:∃p,ps.getD j ByteArray.empty=p:=⟨_,rfl⟩;rw[hp] at c;have hd:ps.drop j=p::ps.drop (j+1):=by
      rw[List.drop_eq_getElem_cons hlt,<-hp,List.getD_eq_getElem?_getD,List.getElem?_eq_getElem hlt];rfl
     have hpm:p ∈ ps:=by
      rw[<-hp,List.getD_eq_getElem?_getD,List.getElem?_eq_getElem hlt];exact List.getElem_mem hlt
     have hneg:=HPRE.out p hpm;have hlt3:=zCy sws p;have e3:sws.length=3:=rfl;rw[e3] at hlt3;obtain⟨k,hk⟩:∃k:Nat,plc sws p=k:=⟨(plc sws p).toNat,by omega⟩;have hk3:k<3:=by omega
     have hki:(k:Int)<3:=by omega
     obtain⟨b,hb⟩:∃b,l.getD k false=b:=⟨_,rfl⟩;have HNX:Hid (zAz ps [false,false,false] false=zAz (ps.drop (j+1)) (l.set k true) b):=show _=_ by
      rw[HIN.out,zET hd,hk,Int.toNat_natCast,hb,Bool.false_or]
     have HPl:Hid (∀W:World,W.heap=(wr.alloc (.cells (sws.map Value.string).toArray 9)).heap->Calls Tryz.prog 22 #[.slice (some ⟨wr.heap.size,0,none⟩) 3 3,.string p] W fun e w'=>e= .returned (.int .i64 (k:Int))/\w'=W):=fun W hW=>by
      rw[<-hk];exact zCX sws wr.heap.size 0 3 p W (by decide) (fun j hj=>by
       have:=zB2.made wr sws 9 j hj;simp only[World.cell?,hW] at this ⊢;exact this)
     have hgr:gp<wr.heap.size:=by omega
     have hgn:gp≠wr.heap.size:=by omega
     have HLB:=hid hb;clear hp hpm hd hneg hlt3 e3 hk hb;go_upto_region 11 with fail
     go_cut [9] from 30 to 35 (fun x w'=>x= .int .i64 (k:Int)/\Below wr.heap.size wr w')
     case first=>
      go_region_with (first|(go_at_call 44;refine(zE3 _).mono ?_;rintro e w' ⟨rfl,rfl⟩)|(go_at_call 22;refine(HPl.out _ (by rfl)).mono ?_;rintro e w' ⟨rfl,rfl⟩))
      all_goals
       go_wp2_with fail;go_meet;refine⟨rfl,?_⟩
       repeat (with_reducible first|exact Below.refl _ _|refine Below.drew ?_|refine Below.alloc ?_ (by first|omega|(simp;done)|(simp;omega)) _)
     obtain⟨rfl,hb2⟩:=hcut;have HR2:Hid (Rc wc g (stL L l)):=HRl.out.below hb2 HRl.out.lt;have HT2:Hid (Tch g wq wc):=HT.out.trans (Tch.of hb2);have m:=HR2.out.cell _ _ (zPq L l hl k hk3);have f:=HR2.out.frozen (21+k);rw[HLB.out] at m;clear hb2 c HPl;cases b with
     |true=>
      have HE:Hid (zAc s=(5,[])):=show zAc s=(5,[]) by
       rw[HSV.out,if_neg (by decide),HNX.out,if_pos (zEU _ _)]
      go_wp2_with fail;go_ret;rw[HE.out];exact⟨rfl,(Tch.of HBq.out).trans HT2.out,_,HR2.out,by rw[zL5];exact hl,fun e=>absurd e (by decide)⟩
     |false=>
      go_wp2_with fail;go_roundw
      case rel=>exact⟨j+1,l.set k true,by omega,by go_num,HNX.out,by simp[hl3],by rw[<-zPr L l hl hl3 k hk3];exact HR2.out.set _ _,HT2.out.set _ _⟩
      case measure=>simp[intOf];omega
    ·have e:j=ps.length:=by omega
     subst e;rw[List.drop_length] at HIN;have HE:Hid (zAc s=(0,l.map bn)):=show zAc s=_ by
      rw[HSV.out,if_neg (by decide),HIN.out];rfl
     go_wp2_with fail;go_ret;rw[HE.out];refine⟨rfl,(Tch.of HBq.out).trans HT.out,_,HRl.out,by rw[zL5];exact hl,fun _=> ?_⟩;obtain⟨x,y,z,rfl⟩:∃a b c,l=[a,b,c]:=by
      rcases l with _|⟨a,_|⟨b,_|⟨c,_|⟨d,r⟩⟩⟩⟩<;>simp at hl3
      exact⟨a,b,c,rfl⟩
     cases x<;>cases y<;>cases z<;>rfl
def zCT (q:List Nat):Nat:=q.foldl (fun v x=>256*v+x) 0
theorem zKd (q:List Nat) (x:Nat):zCT (q++[x])=256*zCT q+x:=by unfold zCT;rw[List.foldl_append];rfl
theorem zF7 (q:List Nat) (j:Nat) (h:j<q.length):zCT (q.take (j+1))=256*zCT (q.take j)+q.getD j 0:=by
 rw[List.take_add_one,List.getD_eq_getElem?_getD,List.getElem?_eq_getElem h];exact zKd _ _
theorem zJp:∀(j:Nat) (q:List Nat),(∀i,i<j->q.getD i 0<=255)->j<=q.length->zCT (q.take j)<256 ^ j
 |0,q,_,_=>by simp[zCT]
 |j+1,q,h,hl=>by
  rw[zF7 q j (by omega)];have h1:=zJp j q (fun i hi=>h i (by omega)) (by omega);have h2:=h j (by omega);rw[Nat.pow_succ];omega
theorem zOH (s:ByteArray) (w:World) (hs:s.size<=2000) (h:(zAj 47 s).length≠2):
 Calls Tryz.prog 73 #[.string s] w fun e w'=>e= .returned (.tuple #[.int .i64 0,.int .i64 0,.int .i64 3])/\Below w.heap.size w w':=by
 have HC:=hid (zBn s 47 w hs);have hcp:=zCM 47 s;obtain⟨ps,hcs⟩:∃cs,zAj 47 s=cs:=⟨_,rfl⟩;rw[hcs] at HC hcp h;have h':¬(ps.length:Int)=2:=by omega
 clear hcs h;go_enter Tryz.func73,Tryz.ntmps73;go_wp2_with (go_at_call 40;refine HC.out.mono ?_;rintro e w1 ⟨v,rfl,hO1,hb1⟩;obtain⟨g,cap,rfl,hgB,hgl⟩:=hO1.form hcp);refine bodyPost_ret (v:= .tuple #[.int .i64 0,.int .i64 0,.int .i64 3]) (by simp[results,Tryz.results73,go_sem]) rfl ?_;exact⟨rfl,hb1⟩
theorem zGh (s a b:ByteArray) (k m:Int) (v1 v2:Value) (w:World) (hs:s.size<=2000) (hc:zAj 47 s=[a,b])
 (hN:∀W,Calls Tryz.prog 76 #[.string a,.int .u8 46,.int .i64 4,.int .i64 4,.int .i64 255] W fun e W'=>(∃v,e= .returned (.tuple #[v,.int .i64 k]))/\Below W.heap.size W W')
 (hM:∀W,Calls Tryz.prog 72 #[.string b,.int .i64 32] W fun e W'=>(∃v,e= .returned (.tuple #[v,.int .i64 m]))/\W'=W) (hk:k=3\/(k=0/\m=3)):
 Calls Tryz.prog 73 #[.string s] w fun e w'=>e= .returned (.tuple #[.int .i64 0,.int .i64 0,.int .i64 3])/\Below w.heap.size w w':=by
 have HC:=hid (zBn s 47 w hs);rw[hc] at HC;have HN:=hid hN;have HM:=hid hM;clear hN hM hc;rcases hk with rfl|⟨rfl,rfl⟩
 all_goals
  go_enter Tryz.func73,Tryz.ntmps73;go_upto_region 4 with(go_at_call 40;refine HC.out.mono ?_;rintro e w1 ⟨v,rfl,hO1,hb1⟩;obtain⟨g,cap,rfl,hgB,hgl⟩:=hO1.form (by simp))
  have c0:w1.cell? ⟨g,0,none⟩=some (.string a):=hO1.cellAt 0 (by simp);have c1:w1.cell? ⟨g,1,none⟩=some (.string b):=hO1.cellAt 1 (by simp);have HB1:=hid hb1;clear hb1;go_upto_region 5 with(go_at_call 76;refine(HN.out _).mono ?_;rintro e w2 ⟨⟨v,rfl⟩,hb2⟩)
  have d1:w2.cell? ⟨g,1,none⟩=some (.string b):=(hb2.cell (p:=⟨g,1,none⟩) hgl).trans c1;have HB2:=hid hb2;clear hb2;go_wp2_with (go_at_call 72;refine(HM.out _).mono ?_;rintro e w3 ⟨⟨v3,rfl⟩,hw3⟩;obtain rfl:=hw3);refine bodyPost_ret (v:= .tuple #[.int .i64 0,.int .i64 0,.int .i64 3]) (by simp[results,Tryz.results73,go_sem]) rfl ?_;exact⟨rfl,HB1.out.trans (HB2.out.mono HB1.out.size)⟩
theorem zL7 (n:Nat) (h:n<=32):∃P:Int,wrap64 ((2:Int) ^ (32-n))=P/\1<=P/\∀F:Nat,F % 2 ^ (32-n)=0↔(F:Int) % P=0:=by
 have h1:2 ^ (32-n)<=2 ^ 32:=Nat.pow_le_pow_right (by decide) (by omega);have h2:0<2 ^ (32-n):=Nat.pow_pos (by decide);have h3:(2:Int) ^ (32-n)=((2 ^ (32-n):Nat):Int):=by simp
 rw[h3];have h4:(2:Nat) ^ 32=4294967296:=by decide
 rw[h4] at h1;generalize 2 ^ (32-n)=p at h1 h2;refine⟨(p:Int),?_,by omega,fun F=> ?_⟩
 ·unfold wrap64;omega
 ·rw[<-Int.natCast_emod];omega
theorem zL8 (s a b:ByteArray) (q:List Nat) (n:Nat) (w:World) (hs:s.size<=2000) (hc:zAj 47 s=[a,b]) (hl:(zAj 46 a).length=4) (hq:zBJ (zAj 46 a)=some q) (hn:zAv b=some n):
 Calls Tryz.prog 73 #[.string s] w fun e w'=>e= .returned (.tuple #[.int .i64 (n0 (zCS q n).2 0),.int .i64 (n0 (zCS q n).2 1),.int .i64 ((zCS q n).1:Int)])/\Below w.heap.size w w':=by
 have hsa:a.size<=2000:=Nat.le_trans (zB1 47 s a (by rw[hc];simp)) hs;have hsb:b.size<=2000:=Nat.le_trans (zB1 47 s b (by rw[hc];simp)) hs;have HC:Hid (Calls _ _ _ w _):=zBn s 47 w hs;rw[hc] at HC;have HN:Hid (∀W,Calls _ _ _ W _):=fun W=>zBc a 46 4 4 255 W hsa (by decide) (by decide) (by decide) (by omega) (by omega)
 have HM:Hid (∀W,Calls _ _ _ W _):=fun W=>zCO b 32 n W hsb (by decide) hn
 have hql:q.length=4:=by rw[zBL _ _ hq,hl]
 have HQ:=hid hq;rw[hl] at HN;clear hc hl hq hn hsa hsb;go_enter Tryz.func73,Tryz.ntmps73;go_upto_region 4 with(go_at_call 40;refine HC.out.mono ?_;rintro e w1 ⟨v,rfl,hO1,hb1⟩;obtain⟨g,cap,rfl,hgB,hgl⟩:=hO1.form (by simp))
 have c0:w1.cell? ⟨g,0,none⟩=some (.string a):=hO1.cellAt 0 (by simp);have c1:w1.cell? ⟨g,1,none⟩=some (.string b):=hO1.cellAt 1 (by simp);have HB1:=hid hb1;clear hb1 hO1;go_upto_region 5 with(go_at_call 76;refine(HN.out _).mono ?_;rintro e w2 ⟨h1,h2,hb2⟩;obtain⟨v,rfl,hO2⟩:=h1 q HQ.out;clear h1 h2;obtain⟨gq,capq,rfl,hqB,hqlt⟩:=hO2.form (by decide))
 have d1:w2.cell? ⟨g,1,none⟩=some (.string b):=(hb2.cell (p:=⟨g,1,none⟩) hgl).trans c1;have HB2:=hid hb2;have hcq:∀j,j<4->w2.cell? ⟨gq,j,none⟩=some (.int .i64 ((min (q.getD j 0) 256:Nat):Int)):=fun j hj=>by
  rw[hO2.cellAt j (by omega),List.getElem?_map,List.getElem?_eq_getElem (by omega),List.getD_eq_getElem?_getD,List.getElem?_eq_getElem (by omega)];rfl
 have HCQ:=hid hcq;clear hb2 hO2 hcq;go_wp2_with (go_at_call 72;refine(HM.out _).mono ?_;rintro e w3 ⟨rfl,hw3⟩;obtain rfl:=hw3);go_loop [10,11] (fun v i=>∃j:Nat,j<=4/\i= .int .i64 j/\v= .int .i64 ((zCT (q.take j):Nat):Int)/\∀k,k<j->q.getD k 0<=255) (fun _ i=>4-(intOf i).toNat)
 case atStart=>exact⟨0,by decide,rfl,rfl,fun k hk=>by omega⟩
 case round=>
  obtain⟨j,hj,rfl,rfl,hall⟩:=hrel;have HAll:=hid hall;have hfl:=zJp j q hall (by omega)
  by_cases hlt:j<4
  ·have cj:=HCQ.out j hlt
   have HFT:Hid (((zCT (q.take (j+1)):Nat):Int)=256*(zCT (q.take j):Int)+(q.getD j 0:Int)):=show _=_ by
    rw[zF7 q j (by omega)];omega
   have hfl':(zCT (q.take j):Int)<16777216:=by
    have:(256:Nat) ^ j<=256 ^ 3:=Nat.pow_le_pow_right (by decide) (by omega);omega
   have hF0:0<=(zCT (q.take j):Int):=by omega
   obtain⟨x,hx⟩:∃x,q.getD j 0=x:=⟨_,rfl⟩;have HX:=hid hx;rw[hx] at cj HFT;obtain⟨F,hF⟩:∃F:Int,(zCT (q.take j):Int)=F:=⟨_,rfl⟩;rw[hF] at hfl' HFT hF0;rw[hF];clear hall hfl hx hF
   by_cases hx255:x<=255
   ·have e:min x 256=x:=by omega
    rw[e] at cj;clear e;have hxi:(x:Int)<=255:=by omega
    go_wp2_with fail;go_round
    case rel=>exact⟨j+1,by omega,by go_num,by rw[HFT.out],fun k hk=>by
     rcases Nat.lt_succ_iff_lt_or_eq.1 hk with h|h
     ·exact HAll.out k h
     ·subst h;rw[HX.out];exact hx255⟩
    case measure=>simp[intOf];omega
   ·have e:min x 256=256:=by omega
    rw[e] at cj;clear e;have HV:Hid (zCS q n=(5,[])):=show _=_ by
     rcases q with _|⟨a0,_|⟨a1,_|⟨a2,_|⟨a3,_|⟨a4,r⟩⟩⟩⟩⟩<;>simp at hql
     unfold zCS;dsimp only;rw[if_neg];rintro⟨q0,q1,q2,q3,_⟩;have:=HX.out;rcases j with _|_|_|_|j
     ·simp at this;omega
     ·simp at this;omega
     ·simp at this;omega
     ·simp at this;omega
     ·omega
    go_wp2_with fail;refine bodyPost_ret (v:= .tuple #[.int .i64 0,.int .i64 0,.int .i64 5]) (by simp[results,Tryz.results73,go_sem]) rfl ?_;rw[HV.out];exact⟨rfl,HB1.out.trans (HB2.out.mono HB1.out.size)⟩
  ·have e:j=4:=by omega
   subst e;have HV:Hid (zCS q n=if n<=32/\zCT (q.take 4) % 2 ^ (32-n)=0 then(0,[zCT (q.take 4),n]) else(5,[])):=show _=_ by
    rcases q with _|⟨a0,_|⟨a1,_|⟨a2,_|⟨a3,_|⟨a4,r⟩⟩⟩⟩⟩<;>simp at hql
    have e0:=hall 0 (by decide);have e1:=hall 1 (by decide);have e2:=hall 2 (by decide);have e3:=hall 3 (by decide);simp at e0 e1 e2 e3;have ef:zCT ([a0,a1,a2,a3].take 4)=((a0*256+a1)*256+a2)*256+a3:=by
     show 256*(256*(256*(256*0+a0)+a1)+a2)+a3=_
     omega
    unfold zCS;dsimp only;rw[ef];simp only[e0,e1,e2,e3,true_and]
   have hF0:0<=(zCT (q.take 4):Int):=by omega
   have hFi:(zCT (q.take 4):Int)<4294967296:=by omega
   obtain⟨F,hF⟩:∃F:Int,(zCT (q.take 4):Int)=F:=⟨_,rfl⟩;have HF:=hid hF;rw[hF] at hF0 hFi;rw[hF];clear hall hF hfl
   by_cases hn32:n<=32
   ·have e:min n (32+1)=n:=by omega
    rw[e];clear e;have hni:(n:Int)<=32:=by omega
    obtain⟨P,hw,hP1,hP2⟩:=zL7 n hn32;have HM2:Hid (zCT (q.take 4) % 2 ^ (32-n)=0↔F % P=0):=show _↔_ by
     rw[<-HF.out];exact hP2 _
    have hP0:¬P=0:=by omega
    clear hP2
    by_cases hz:F % P=0
    ·have HZ:Hid (zCS q n=(0,[zCT (q.take 4),n])):=show _=_ by rw[HV.out,if_pos ⟨hn32,HM2.out.2 hz⟩]
     go_wp2_with fail;refine bodyPost_ret (v:= .tuple #[.int .i64 F,.int .i64 (n:Int),.int .i64 0]) (by simp[results,Tryz.results73,go_sem]) rfl ?_;rw[HZ.out,<-HF.out];exact⟨rfl,HB1.out.trans (HB2.out.mono HB1.out.size)⟩
    ·have HZ:Hid (zCS q n=(5,[])):=show _=_ by rw[HV.out,if_neg (fun q=>hz (HM2.out.1 q.2))]
     have hz':(F % P !=0)=true:=by simpa using hz
     go_wp2_with fail;refine bodyPost_ret (v:= .tuple #[.int .i64 0,.int .i64 0,.int .i64 5]) (by simp[results,Tryz.results73,go_sem]) rfl ?_;rw[HZ.out];exact⟨rfl,HB1.out.trans (HB2.out.mono HB1.out.size)⟩
   ·have e:min n (32+1)=33:=by omega
    rw[e];clear e;go_wp2_with fail;refine bodyPost_ret (v:= .tuple #[.int .i64 0,.int .i64 0,.int .i64 5]) (by simp[results,Tryz.results73,go_sem]) rfl ?_;rw[HV.out,if_neg (fun q=>hn32 q.1)];exact⟨rfl,HB1.out.trans (HB2.out.mono HB1.out.size)⟩
theorem zOI (s:ByteArray) (w:World) (hs:s.size<=2000):
 Calls Tryz.prog 73 #[.string s] w fun e w'=>e= .returned (.tuple #[.int .i64 (n0 (zAX s).2 0),.int .i64 (n0 (zAX s).2 1),.int .i64 ((zAX s).1:Int)])/\Below w.heap.size w w':=by
 have bad:zAX s=(3,[])->(Calls Tryz.prog 73 #[.string s] w fun e w'=>e= .returned (.tuple #[.int .i64 0,.int .i64 0,.int .i64 3])/\Below w.heap.size w w')->(Calls Tryz.prog 73 #[.string s] w fun e w'=>e= .returned (.tuple #[.int .i64 (n0 (zAX s).2 0),.int .i64 (n0 (zAX s).2 1),.int .i64 ((zAX s).1:Int)])/\Below w.heap.size w w'):=fun e h=>by
  rw[e];exact h
 by_cases h2:(zAj 47 s).length=2
 ·obtain⟨a,b,hc⟩:∃a b,zAj 47 s=[a,b]:=by
   rcases hh:zAj 47 s with _|⟨a,_|⟨b,_|⟨c,r⟩⟩⟩<;>rw[hh] at h2<;>simp at h2
   exact⟨a,b,rfl⟩
  have hsa:a.size<=2000:=Nat.le_trans (zB1 47 s a (by rw[hc];simp)) hs;have hsb:b.size<=2000:=Nat.le_trans (zB1 47 s b (by rw[hc];simp)) hs;have hv:zAX s=match zBJ (zAj 46 a),zAv b with|some q,some n=>zCS q n|_,_=>(3,[]):=by
   unfold zAX;rw[hc];rfl
  have number_is:∃m:Int,(∀W,Calls Tryz.prog 72 #[.string b,.int .i64 32] W fun e W'=>(∃v,e= .returned (.tuple #[v,.int .i64 m]))/\W'=W)/\(zAv b=none->m=3)/\(∀n,zAv b=some n->m=0):=by
   cases hn:zAv b with
   |none=>exact⟨3,fun W=>(zC2 b 32 W hsb (by decide) hn).mono (fun e W' h=>⟨⟨_,h.1⟩,h.2⟩),fun _=>rfl,fun n h=>(by cases h)⟩
   |some n=>exact⟨0,fun W=>(zCO b 32 n W hsb (by decide) hn).mono (fun e W' h=>⟨⟨_,h.1⟩,h.2⟩),fun h=>(by cases h),fun _ _=>rfl⟩
  obtain⟨m,hM,hm1,hm2⟩:=number_is
  by_cases h4:(zAj 46 a).length=4
  ·have hN:=fun W=>zBc a 46 4 4 255 W hsa (by decide) (by decide) (by decide) (by omega) (by omega)
   cases hq:zBJ (zAj 46 a) with
   |none=>
    refine bad (by rw[hv,hq]) (zGh s a b 3 m .nilIface .nilIface w hs hc (fun W=>(hN W).mono (fun e W' h=>⟨⟨_,h.2.1 hq⟩,h.2.2⟩)) hM (Or.inl rfl))
   |some q=>
    cases hn:zAv b with
    |none=>
     refine bad (by rw[hv,hq,hn]) (zGh s a b 0 m .nilIface .nilIface w hs hc (fun W=>(hN W).mono (fun e W' h=>⟨(h.1 q hq).imp (fun v hv=>hv.1),h.2.2⟩)) hM (Or.inr ⟨rfl,hm1 hn⟩))
    |some n=>
     rw[hv,hq,hn];exact zL8 s a b q n w hs hc h4 hq hn
  ·refine bad ?_ (zGh s a b 3 m .nilIface .nilIface w hs hc (fun W=>(zC3 a 46 4 4 255 W hsa (by decide) (by decide) (by omega)).mono (fun e W' h=>⟨⟨_,h.1⟩,h.2⟩)) hM (Or.inl rfl))
   rw[hv];cases hq:zBJ (zAj 46 a) with
   |none=>rfl
   |some q=>
    have hl:=zBL _ _ hq;cases hn:zAv b with
    |none=>rfl
    |some n=>
     show zCS q n=_
     unfold zCS;rcases q with _|⟨a0,_|⟨a1,_|⟨a2,_|⟨a3,_|⟨a4,r⟩⟩⟩⟩⟩<;>first|rfl|(simp at hl;omega)
 ·refine bad ?_ (zOH s w hs h2)
  unfold zAX;rcases hh:zAj 47 s with _|⟨a,_|⟨b,_|⟨c,r⟩⟩⟩<;>first|rfl|(rw[hh] at h2;simp at h2)
theorem zGi {g:Nat} {L:List Value} {k:Nat} {w w':World} (hl:L.length=24) (h:Rc w g L) (hb:Below w.heap.size w w') (i:Nat) (v:Value) {L1:List Value} (hk:k=0->L.set i v=L1) (hv:v.oneCell'=true:=by rfl):zHW g L L1 k w (w'.setCell ⟨g,i,none⟩ v):=
 ⟨(Tch.of hb).set _ _,_,(h.below hb h.lt).set _ _ hv,by simp[hl],hk⟩
theorem zL9 {g:Nat} {L:List Value} {k:Nat} {w w':World} (hl:L.length=24) (h:Rc w g L) (hb:Below w.heap.size w w') (i j:Nat) (v u:Value) {L1:List Value} (hk:k=0->(L.set i v).set j u=L1) (hu:u.oneCell'=true:=by rfl) (hv:v.oneCell'=true:=by rfl):zHW g L L1 k w ((w'.setCell ⟨g,i,none⟩ v).setCell ⟨g,j,none⟩ u):=
 ⟨((Tch.of hb).set _ _).set _ _,_,((h.below hb h.lt).set _ _ hv).set _ _ hu,by simp[hl],hk⟩
theorem zPs (g:Nat) (s:ByteArray) (L:List Value) (w:World) (hs:s.size<=2000) (hR:Rc w g L) (hl:L.length=24):
 Calls Tryz.prog 41 #[.pointer (some ⟨g,0,none⟩),.int .i64 0,.string s] w fun e w'=>e= .returned (.int .i64 ((zCA s).1:Int))/\zHW g L (L.set 9 (.int .i64 (n0 (zCA s).2 0))) (zCA s).1 w w':=by
 obtain⟨u,hu⟩:∃u,L[9]? =some u:=⟨_,List.getElem?_eq_getElem (by omega)⟩;have m:=hR.cell _ _ hu;have f:=hR.frozen 9;have HR:Hid (Rc w g L):=hR;clear hR;cases hn:zAv s with
 |none=>
  have HE:Hid (zCA s=(3,[])):=show zCA s=_ by unfold zCA;rw[hn]
  have HN:Hid (Calls _ _ _ w _):=zC2 s 255 w hs (by decide) hn;clear hn;go_enter Tryz.func41,Tryz.ntmps41;go_wp2_with (go_at_call 72;refine HN.out.mono ?_;rintro e w1 ⟨rfl,rfl⟩);go_ret;rw[HE.out];exact⟨rfl,zGi hl HR.out (Below.refl _ _) _ _ (fun e=>absurd e (by decide))⟩
 |some n=>
  have HN:Hid (Calls _ _ _ w _):=zCO s 255 n w hs (by decide) hn
  by_cases h:n<=255
  ·have HE:Hid (zCA s=(0,[n])):=show zCA s=_ by unfold zCA;rw[hn];exact if_pos h
   have e:min n (255+1)=n:=by omega
   rw[e] at HN;have h':(n:Int)<=255:=by omega
   clear hn e;go_enter Tryz.func41,Tryz.ntmps41;go_wp2_with (go_at_call 72;refine HN.out.mono ?_;rintro e w1 ⟨rfl,rfl⟩);go_ret;rw[HE.out];exact⟨rfl,zGi hl HR.out (Below.refl _ _) _ _ (fun _=>rfl)⟩
  ·have HE:Hid (zCA s=(5,[])):=show zCA s=_ by unfold zCA;rw[hn];exact if_neg h
   have e:min n (255+1)=256:=by omega
   rw[e] at HN;clear hn e;go_enter Tryz.func41,Tryz.ntmps41;go_wp2_with (go_at_call 72;refine HN.out.mono ?_;rintro e w1 ⟨rfl,rfl⟩);go_ret;rw[HE.out];exact⟨rfl,zGi hl HR.out (Below.refl _ _) _ _ (fun e=>absurd e (by decide))⟩
theorem zOJ (g c:Nat) (s:ByteArray) (L:List Value) (w:World) (hc:c=1\/c=2) (hs:s.size<=2000) (hR:Rc w g L) (hl:L.length=24):
 Calls Tryz.prog 41 #[.pointer (some ⟨g,0,none⟩),.int .i64 (c:Int),.string s] w fun e w'=>e= .returned (.int .i64 ((zAX s).1:Int))/\zHW g L ((L.set (9+c) (.int .i64 (n0 (zAX s).2 0))).set (11+c) (.int .i64 (n0 (zAX s).2 1))) (zAX s).1 w w':=by
 obtain⟨u,hu⟩:∃u,L[9+c]? =some u:=⟨_,List.getElem?_eq_getElem (by omega)⟩;obtain⟨v,hv⟩:∃u,L[11+c]? =some u:=⟨_,List.getElem?_eq_getElem (by omega)⟩;have HR:Hid (Rc w g L):=hR;have HN:=hid (zOI s w hs);have hgl:=hR.lt;clear hR;obtain⟨k,hk⟩:∃k,(zAX s).1=k:=⟨_,rfl⟩;rw[hk] at HN ⊢;generalize n0 (zAX s).2 0=A at HN ⊢;generalize n0 (zAX s).2 1=B at HN ⊢;clear hk;rcases hc with rfl|rfl
 all_goals
  go_enter Tryz.func41,Tryz.ntmps41;go_upto_region 11 with(go_at_call 73;refine HN.out.mono ?_;rintro e w1 ⟨rfl,hb1⟩)
  have HR1:Hid (Rc w1 g L):=HR.out.below hb1 hgl;have m:=HR1.out.cell _ _ hu;have m2:=HR1.out.cell _ _ hv;have f:=HR1.out.frozen;have HB1:=hid hb1;clear hb1;go_wp2_with fail;go_ret;exact⟨rfl,zL9 hl HR.out HB1.out _ _ _ _ (fun _=>rfl)⟩
theorem zPt (g:Nat) (s:ByteArray) (L:List Value) (w:World) (hs:s.size<=2000) (hR:Rc w g L) (hl:L.length=24):
 Calls Tryz.prog 41 #[.pointer (some ⟨g,0,none⟩),.int .i64 3,.string s] w fun e w'=>e= .returned (.int .i64 ((zAu s).1:Int))/\zHW g L (L.set 14 (.int .i64 (n0 (zAu s).2 0))) (zAu s).1 w w':=by
 obtain⟨u,hu⟩:∃u,L[14]? =some u:=⟨_,List.getElem?_eq_getElem (by omega)⟩;have HR:Hid (Rc w g L):=hR;have hgl:=hR.lt;have HP:Hid (Calls _ _ _ (w.alloc (.cells (pws.map Value.string).toArray 9)) _):=zCX pws w.heap.size 0 3 s (w.alloc (.cells (pws.map Value.string).toArray 9)) (by decide) (zB2.made w pws _);have hlt:=zCy pws s;have e3:pws.length=3:=rfl;rw[e3] at HP hlt;clear hR e3
 by_cases hneg:plc pws s<0
 ·have HE:Hid (zAu s=(3,[])):=show zAu s=_ by unfold zAu;exact if_pos hneg
  go_enter Tryz.func41,Tryz.ntmps41;go_wp2_with (first|(go_at_call 74;refine(zDS _).mono ?_;rintro e w1 ⟨rfl,rfl⟩)|(go_at_call 22;refine HP.out.mono ?_;rintro e w1 ⟨rfl,rfl⟩));go_ret;rw[HE.out];exact⟨rfl,zBI hl HR.out (bal _ _) (by decide)⟩
 ·obtain⟨k,hk⟩:∃k:Nat,plc pws s=k:=⟨(plc pws s).toNat,by omega⟩
  have HE:Hid (zAu s=(0,[[1,6,17].getD k 0])):=show zAu s=_ by unfold zAu;rw[if_neg hneg,hk];rfl
  rw[hk] at HP;have hk3:k=0\/k=1\/k=2:=by omega
  have HR1:Hid (Rc (w.alloc (.cells (pws.map Value.string).toArray 9)) g L):=HR.out.alloc _;have HR2:Hid (Rc ((w.alloc (.cells (pws.map Value.string).toArray 9)).alloc (.cells #[.int .i64 1,.int .i64 6,.int .i64 17] 3)) g L):=HR1.out.alloc _;have m:=HR2.out.cell _ _ hu;have f:=HR2.out.frozen 14;have m1:=HR1.out.cell _ _ hu;have f1:=HR1.out.frozen 14;have m0:=HR.out.cell _ _ hu;have f0:=HR.out.frozen 14;have gn:g≠w.heap.size:=by omega
  clear hneg hk hlt;rcases hk3 with rfl|rfl|rfl
  all_goals
   go_enter Tryz.func41,Tryz.ntmps41;go_wp2_with (first|(go_at_call 74;refine(zDS _).mono ?_;rintro e w1 ⟨rfl,rfl⟩)|(go_at_call 22;refine HP.out.mono ?_;rintro e w1 ⟨rfl,rfl⟩));go_ret;rw[HE.out];exact⟨rfl,(((Tch.refl _ _).set _ _).alloc _).alloc _,_,((HR.out.set _ _).alloc _).alloc _,by simp[hl],fun _=>rfl⟩
theorem zOK (g c:Nat) (s:ByteArray) (L:List Value) (w:World) (hc:c=4\/c=5) (hs:s.size<=2000) (hR:Rc w g L) (hl:L.length=24):
 Calls Tryz.prog 41 #[.pointer (some ⟨g,0,none⟩),.int .i64 (c:Int),.string s] w fun e w'=>e= .returned (.int .i64 ((zAI s).1:Int))/\zHW g L (zL4 (c-4) L (zAI s).2) (zAI s).1 w w':=by
 have HP:=hid (zKc g (c-4) s L w (by omega) hs hR hl);clear hR;rcases hc with rfl|rfl
 all_goals
  go_enter Tryz.func41,Tryz.ntmps41;go_wp2_with (go_at_call 75;refine HP.out.mono ?_;rintro e w1 ⟨rfl,hS⟩);go_ret;exact⟨rfl,hS⟩
theorem zPu (g:Nat) (s:ByteArray) (L:List Value) (w:World) (hs:s.size<=2000) (hR:Rc w g L) (hl:L.length=24) (h0:L[21]? =some (.bool false)) (h1:L[22]? =some (.bool false)) (h2:L[23]? =some (.bool false)):
 Calls Tryz.prog 41 #[.pointer (some ⟨g,0,none⟩),.int .i64 7,.string s] w fun e w'=>e= .returned (.int .i64 ((zAc s).1:Int))/\zHW g L (((L.set 21 (.bool ((zAc s).2.getD 0 0 == 1))).set 22 (.bool ((zAc s).2.getD 1 0 == 1))).set 23 (.bool ((zAc s).2.getD 2 0 == 1))) (zAc s).1 w w':=by
 have HP:=hid (zIu g s L w hs hR hl h0 h1 h2);clear hR h0 h1 h2;go_enter Tryz.func41,Tryz.ntmps41;go_wp2_with (go_at_call 77;refine HP.out.mono ?_;rintro e w1 ⟨rfl,hS⟩);go_ret;exact⟨rfl,hS⟩
theorem zHY {s:ByteArray} (h:zBJ (zAj 47 s)=none):zAk s=(3,[]):=by unfold zAk;rw[h]
theorem zHZ {s:ByteArray} (h:(zAj 47 s).length≠2):zAk s=(3,[]):=by
 unfold zAk;cases hn:zBJ (zAj 47 s) with
 |none=>rfl
 |some q=>
  have:=zBL _ _ hn;rcases q with _|⟨a,_|⟨b,_|⟨c,r⟩⟩⟩
  ·rfl
  ·rfl
  ·simp at this;omega
  ·rfl
theorem zF8 (g:Nat) (s:ByteArray) (w:World)
 (hN:Calls Tryz.prog 76 #[.string s,.int .u8 47,.int .i64 2,.int .i64 2,.int .i64 63] w fun e W'=>e= .returned (.tuple #[.slice none 0 0,.int .i64 3])/\Below w.heap.size w W'):
 Calls Tryz.prog 41 #[.pointer (some ⟨g,0,none⟩),.int .i64 6,.string s] w fun e w'=>e= .returned (.int .i64 3)/\Below w.heap.size w w':=by
 have HN:=hid hN;clear hN;go_enter Tryz.func41,Tryz.ntmps41;go_wp2_with (go_at_call 76;refine HN.out.mono ?_;rintro e w1 ⟨rfl,hb1⟩);go_ret;exact⟨rfl,hb1⟩
theorem zPf (A B:Nat) (ha:A<=63) (hb:B<=63):bits BinOp.and IntKind.i64 (A:Int) (B:Int)=((A&&& B:Nat):Int):=by
 have hx:A&&& B<2 ^ 32:=Nat.and_lt_two_pow _ (by omega)
 show IntKind.i64.wrap ((BitVec.ofInt 64 (A:Int)&&& BitVec.ofInt 64 (B:Int)).toNat:Int)=_
 rw[BitVec.toNat_and,ofInt_u64 A (by omega),ofInt_u64 B (by omega),IntKind.wrap_i64];omega
theorem zAs {B:Nat} {a w:World} (h:Below B a w) (q:Nat):Below B a (w.drewN q):=⟨h.os,h.tape,h.output,h.size,h.block⟩
theorem zIv (g m t:Nat) (s:ByteArray) (L:List Value) (w:World) (hs:s.size<=2000) (hR:Rc w g L) (hl:L.length=24) (h2:(zAj 47 s).length=2) (hq:zBJ (zAj 47 s)=some [m,t]):
 Calls Tryz.prog 41 #[.pointer (some ⟨g,0,none⟩),.int .i64 6,.string s] w fun e w'=>e= .returned (.int .i64 ((zAk s).1:Int))/\zHW g L ((L.set 19 (.int .i64 (n0 (zAk s).2 0))).set 20 (.int .i64 (n0 (zAk s).2 1))) (zAk s).1 w w':=by
 have HN:=hid (zBc s 47 2 2 63 w hs (by decide) (by decide) (by decide) (by omega) (by omega));have HQ:=hid hq;have hpv:zAk s=if m<=63/\t&&& m=t then(0,[m,t]) else(5,[]):=by unfold zAk;rw[hq]
 obtain⟨u,hu⟩:∃u,L[19]? =some u:=⟨_,List.getElem?_eq_getElem (by omega)⟩;obtain⟨v,hv⟩:∃v,L[20]? =some v:=⟨_,List.getElem?_eq_getElem (by omega)⟩;have hgl:=hR.lt;have HR:Hid (Rc w g L):=hR;rw[h2] at HN;clear hR hq;go_enter Tryz.func41,Tryz.ntmps41;go_upto_region 27 with(go_at_call 76;refine HN.out.mono ?_;rintro e w1 ⟨k1,k2,hb1⟩;obtain⟨v,rfl,hO⟩:=k1 _ HQ.out;clear k1 k2;obtain⟨gq,cap,rfl,hqB,hqlt⟩:=hO.form (by decide))
 have q0:w1.cell? ⟨gq,0,none⟩=some (.int .i64 ((min m 64:Nat):Int)):=hO.cellAt 0 (by decide);have q1:w1.cell? ⟨gq,1,none⟩=some (.int .i64 ((min t 64:Nat):Int)):=hO.cellAt 1 (by decide);have HR1:Hid (Rc w1 g L):=HR.out.below hb1 hgl;have m0:=HR1.out.cell _ _ hu;have m1:=HR1.out.cell _ _ hv;have f0:=HR1.out.frozen;have HB1:=hid hb1;have ne1:gq≠g:=by omega
 clear hO hb1
 by_cases hg:m<=63/\t&&& m=t
 ·rw[if_pos hg] at hpv
  have HPV:=hid hpv;have ht:t<=63:=by
   have:=Nat.and_le_right (n:=t) (m:=m);omega
  have a1:min m 64=m:=by omega
  have a2:min t 64=t:=by omega
  rw[a1] at q0;rw[a2] at q1;have hb:bits BinOp.and IntKind.i64 (m:Int) (t:Int)=(t:Int):=by rw[zPf m t hg.1 ht,Nat.and_comm,hg.2]
  have i1:(m:Int)<=63:=by omega
  have i2:(t:Int)<=63:=by omega
  obtain⟨A,hA⟩:∃A:Int,(m:Int)=A:=⟨_,rfl⟩;obtain⟨B,hB⟩:∃B:Int,(t:Int)=B:=⟨_,rfl⟩;have HA:Hid ((m:Int)=A):=hA;have HBB:Hid ((t:Int)=B):=hB;rw[hA] at q0 hb i1;rw[hB] at q1 hb i2;have d1:decide ((63:Int)<A)=false:=by simp;omega
  have d2:decide ((63:Int)<B)=false:=by simp;omega
  clear a1 a2 hpv hg hA hB ht;go_region_held3 (fun w'=>w'.cell? ⟨gq,0,none⟩=some (.int .i64 A)/\w'.cell? ⟨gq,1,none⟩=some (.int .i64 B)) (go_keep) (fail)
  all_goals
   go_wp2_with fail;go_ret;rw[HPV.out]
   show _/\zHW g L ((L.set 19 (.int .i64 (m:Int))).set 20 (.int .i64 (t:Int))) 0 w _
   rw[HA.out,HBB.out];exact⟨rfl,((((Tch.of HB1.out)).drew.set _ _).set _ _),_,(((HR1.out)).set _ _).set _ _,by simp[hl],fun _=>rfl⟩
 ·rw[if_neg hg] at hpv
  have HPV:=hid hpv;have hk:(64:Int)=((min m 64:Nat):Int)\/(((min m 64:Nat):Int)<=63/\(64:Int)=((min t 64:Nat):Int))\/(((min m 64:Nat):Int)<=63/\((min t 64:Nat):Int)<=63/\bits BinOp.and IntKind.i64 ((min m 64:Nat):Int) ((min t 64:Nat):Int)≠((min t 64:Nat):Int)):=by
   by_cases c1:m<=63
   ·by_cases c2:t<=63
    ·refine .inr (.inr ⟨by omega,by omega,?_⟩)
     rw[zPf _ _ (by omega) (by omega),show min m 64=m by omega,show min t 64=t by omega];intro e;refine hg ⟨c1,?_⟩;rw[Nat.and_comm];exact Int.ofNat.inj e
    ·exact .inr (.inl ⟨by omega,by omega⟩)
   ·exact .inl (by omega)
  generalize ((min m 64:Nat):Int)=A at q0 hk;generalize ((min t 64:Nat):Int)=B at q1 hk;generalize hC:bits BinOp.and IntKind.i64 A B=C at hk;clear hpv hg;rcases hk with hA|⟨i1,hB⟩|⟨i1,i2,i3⟩
  ·have d1:decide ((63:Int)<A)=true:=by simp;omega
   go_quiet (fail);go_wp2_with fail;go_ret;rw[HPV.out];exact⟨rfl,zBI hl HR.out (zAs HB1.out _) (by decide)⟩
  ·have d1:decide ((63:Int)<A)=false:=by simp;omega
   have d2:decide ((63:Int)<B)=true:=by simp;omega
   go_quiet (fail);go_wp2_with fail;go_ret;rw[HPV.out];exact⟨rfl,zBI hl HR.out (zAs HB1.out _) (by decide)⟩
  ·have d1:decide ((63:Int)<A)=false:=by simp;omega
   have d2:decide ((63:Int)<B)=false:=by simp;omega
   go_quiet (fail);go_wp2_with fail;go_ret;rw[HPV.out];exact⟨rfl,zBI hl HR.out (zAs HB1.out _) (by decide)⟩
theorem zPv (g:Nat) (s:ByteArray) (L:List Value) (w:World) (hs:s.size<=2000) (hR:Rc w g L) (hl:L.length=24):
 Calls Tryz.prog 41 #[.pointer (some ⟨g,0,none⟩),.int .i64 6,.string s] w fun e w'=>e= .returned (.int .i64 ((zAk s).1:Int))/\zHW g L ((L.set 19 (.int .i64 (n0 (zAk s).2 0))).set 20 (.int .i64 (n0 (zAk s).2 1))) (zAk s).1 w w':=by
 by_cases h2:(zAj 47 s).length=2
 ·cases hq:zBJ (zAj 47 s) with
  |some q=>
   have:=zBL _ _ hq;obtain⟨m,t,rfl⟩:∃m t,q=[m,t]:=by
    rcases q with _|⟨a,_|⟨b,_|⟨c,r⟩⟩⟩<;>simp at this<;>first|omega|exact⟨a,b,rfl⟩
   exact zIv g m t s L w hs hR hl h2 hq
  |none=>
   rw[zHY hq];exact(zF8 g s w ((zBc s 47 2 2 63 w hs (by decide) (by decide) (by decide) (by omega) (by omega)).mono fun e w' h=>⟨h.2.1 hq,h.2.2⟩)).mono fun e w' ⟨he,hb⟩=>⟨he,zBI hl hR hb (by decide)⟩
 ·rw[zHZ h2]
  exact(zF8 g s w (zC3 s 47 2 2 63 w hs (by decide) (by decide) (by omega))).mono fun e w' ⟨he,hb⟩=>⟨he,zBI hl hR hb (by decide)⟩
end Go.Proofs.YtclpnafiiobfhaaGreatDoor

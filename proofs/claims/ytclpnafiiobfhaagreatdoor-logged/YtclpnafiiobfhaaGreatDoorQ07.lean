import Derived.Test.YtclpnafiiobfhaaGreatDoorQ02
set_option linter.unusedVariables false
set_option linter.unusedSimpArgs false
set_option maxHeartbeats 6400000
set_option maxRecDepth 100000
namespace Go.Proofs.YtclpnafiiobfhaaGreatDoor
open Go.RowKit
def zAb (n:Nat):Nat:=4294967296-2 ^ (32-n)
theorem zMI (n:Nat) (h:n<=32):zAb n<4294967296/\4294967295-zAb n=2 ^ (32-n)-1:=by
 have h1:2 ^ (32-n)<=2 ^ 32:=Nat.pow_le_pow_right (by decide) (by omega);have h2:0<2 ^ (32-n):=Nat.pow_pos (by decide);have e:(2:Nat) ^ 32=4294967296:=by decide
 rw[e] at h1;unfold zAb;omega
theorem zMJ (a n:Nat) (h:n<=32):a&&& (4294967295-zAb n)=a % 2 ^ (32-n):=by
 rw[(zMI n h).2,Nat.and_two_pow_sub_one_eq_mod]
theorem zOM (n:Nat) (hn:n<=32):(4294967295*2 ^ (32-n) % 4294967296:Int)=((zAb n:Nat):Int):=by
 have h1:2 ^ (32-n)<=2 ^ 32:=Nat.pow_le_pow_right (by decide) (by omega);have h2:0<2 ^ (32-n):=Nat.pow_pos (by decide);have e:(2:Nat) ^ 32=4294967296:=by decide
 rw[e] at h1;unfold zAb;have e2:(2:Int) ^ (32-n)=((2 ^ (32-n):Nat):Int):=by simp
 rw[e2];generalize 2 ^ (32-n)=p at h1 h2;omega
theorem zJs (a:Int) (n:Nat) (w:World) (hn:n<=32):
 Calls Tryz.prog 214 #[.agg #[.int .u32 a,.int .u32 (n:Int)]] w fun e w'=>e= .returned (.int .u32 (zAb n:Int))/\Below w.heap.size w w':=by
 go_enter Tryz.func214,Tryz.ntmps214;go_wp2;go_ret;have e:=zOM n hn;refine⟨?_,bal _ _⟩;rw[e];rfl
def zDX (cs:List ByteArray) (z:ByteArray):Nat×List Nat:=match zBJ (cs++[z]) with
 |some [a,b,c,d,n]=>zCS [a,b,c,d] n
 |_=>(3,[])
theorem zPz {s a z:ByteArray} {f:Bool} (h:zGb 47 s a z f):zAX s=zDX (zAj 46 a) z:=by
 unfold zDX;rw[zIi];rcases h.two (by decide) with⟨_,e⟩|⟨hn,hl⟩
 ·unfold zAX
  rw[e]
  show(match zBJ (zAj 46 a),zAv z with|some q,some n=>zCS q n|_,_=>(3,[]))=_
  cases hq:zBJ (zAj 46 a) with
  |none=>rfl
  |some q=>
   cases hz:zAv z with
   |none=>rfl
   |some n=>
    show zCS q n=match some (q++[n]) with|some [a,b,c,d,n]=>zCS [a,b,c,d] n|_=>(3,[])
    match q with
    |[]=>rfl
    |[_]=>rfl
    |[_,_]=>rfl
    |[_,_,_]=>rfl
    |[_,_,_,_]=>rfl
    |[_,_,_,_,_]=>rfl
    |_::_::_::_::_::_::_=>rfl
 ·rw[hn]
  have e:zAX s=(3,[]):=by
   unfold zAX
   match zAj 47 s,hl with
   |[],_=>rfl
   |[_],_=>rfl
   |[_,_],h'=>exact absurd rfl h'
   |_::_::_::_,_=>rfl
  rw[e];cases zBJ (zAj 46 a)<;>rfl
theorem zDD (a b c d n:Nat):zCS [a,b,c,d] n=if a<=255/\b<=255/\c<=255/\d<=255/\n<=32/\(((a*256+b)*256+c)*256+d) % 2 ^ (32-n)=0 then(0,[((a*256+b)*256+c)*256+d,n]) else(5,[]):=rfl
theorem zP0 (cs:List ByteArray) (z:ByteArray) (h:cs.length≠4):zDX cs z=(3,[]):=by
 unfold zDX;cases hq:zBJ (cs++[z]) with
 |none=>rfl
 |some q=>
  have hl:=zBL _ _ hq;rw[List.length_append,List.length_singleton] at hl
  match q,hl with
  |[],_=>rfl
  |[_],_=>rfl
  |[_,_],_=>rfl
  |[_,_,_],_=>rfl
  |[_,_,_,_],_=>rfl
  |[_,_,_,_,_],h'=>exact absurd (by simpa using h'.symm) h
  |_::_::_::_::_::_::_,_=>rfl
def pre (q:List Nat):Nat->Nat
 |0=>0
 |j+1=>pre q j*256+q.getD j 0
theorem zRC (q:List Nat) (h:∀i,q.getD i 0<=255):∀j,j<=3->pre q j<=16777215
 |0,_=>Nat.zero_le _
 |1,_=>by have:=h 0;simp only[pre];omega
 |2,_=>by have:=h 0;have:=h 1;simp only[pre];omega
 |3,_=>by have:=h 0;have:=h 1;have:=h 2;simp only[pre];omega
 |j+4,hj=>by omega
theorem zP1 (a b:Nat) (ha:a<=16777215) (hb:b<=255):bits .or .u32 ((a:Int)*256) (b:Int)=((a*256+b:Nat):Int):=by
 have e1:((a:Int)*256)=((a*256:Nat):Int):=by omega
 rw[e1,u32_or_nat _ _ (by omega) (by omega)];have:=Nat.shiftLeft_add_eq_or_of_lt (i:=8) (show b<2 ^ 8 by omega) a;rw[Nat.shiftLeft_eq] at this;rw[show a*256=a*2 ^ 8 from rfl,<-this]
theorem zP2 (q:List Nat) (h:∀i,q.getD i 0<=255):pre q 4<4294967296:=by
 have:=zRC q h 3 (by decide);have:=h 3;simp only[pre] at*;omega
theorem zE6 (s:ByteArray) (w:World) (hs:s.size<=2000) (hm:zBx w):
 Calls Tryz.prog 189 #[.string s] w fun e w'=>zBb (zAX s) zSN e/\Below w.heap.size w w':=by
 obtain⟨i0,hi0,hz0,hz1,hz2⟩:=zAi Tryz.infoStr;have HC:Hid (Calls _ _ _ (w.alloc (.cells #[.int .u32 0,.int .u32 0] 320)) _):=zIj s 47 _ hs (hm.alloc (.cells #[.int .u32 0,.int .u32 0] 320));have HM:Hid (zBx w):=hm;clear hm;go_enter Tryz.func189,Tryz.ntmps189;go_upto_region 2 with(go_at_call 212;refine HC.out.mono ?_;rintro e w1 ⟨a,z,f,rfl,hcut,hb1⟩)
 have ha:=hcut.sza;have hz:=hcut.szz;have T1:Two w1 w.heap.size (.int .u32 0) (.int .u32 0):=(Two.made w _ _ _).below hb1 (by simp);have HB1:Hid (Below w.heap.size w w1):=((Below.refl _ w).alloc (Nat.le_refl _) _).trans (hb1.mono (by simp));have HV:Hid (zAX s=zDX (zAj 46 a) z):=zPz hcut;have hP:=zDk a 46 w1 (by omega) (HM.out.below HB1.out);have hcl:=zBq 46 a;have hcm:∀p ∈ zAj 46 a,p.size<=2000:=fun p hp=>by have:=zB1 46 a p hp;omega
 obtain⟨cs,hcs⟩:∃cs,zAj 46 a=cs:=⟨_,rfl⟩;rw[hcs] at hP HV hcl hcm;have HP:=hid hP;have HCM:=hid hcm;have lt1:=T1.lt;have HT1:=hid T1;clear hcut hb1 hP hcs hcm T1 HC
 by_cases h4:cs.length=4
 ·have h4':((cs.length:Int) !=4)=false:=by rw[h4];rfl
  have HO:Hid ((w1.alloc (.cells (cs.map Value.string).toArray 9)).ownsRow (w.heap.size+1) 9 1 (.slice (some ⟨w1.heap.size,0,none⟩) 4 4) 4 (cs.map Value.string)):=show World.ownsRow _ _ _ _ _ _ _ by
   have:=World.ownsRow_lit (base:=w.heap.size+1) (e:=9) (size:=1) w1 (cs.map Value.string).toArray 4 (by omega) (by unfold maxLen;omega) (by simp[h4])
   simpa using this
  rw[h4] at HP;go_upto_region 5 with(go_at_call 92;refine HP.out.mono ?_;rintro e w2 ⟨rfl,rfl⟩)
  go_wp2_with (at_builtin;refine wpList_append_lies _ rfl _ _ 57 rfl (w.heap.size+1) 9 i0 _ 1 16 Tryz.underlying57 hi0 hz0 hz1 hz2 rfl (by decide) _ 4 (cs.map Value.string) rfl (HO.out.alloc _) ⟨w1.heap.size+1,0,none⟩ 1 1 [.string z] rfl rfl (by have:=zBh (w1.alloc (.cells (cs.map Value.string).toArray 9)) (.string z) 9;simpa using this) (by simp[Value.oneCell']) (by decide) (by unfold maxLen;omega) (by omega) (by simp;omega) (w1.heap.size+1+1) (by simp) ?_;intro gg cap' w3 hown3 hgrow hat hlt3);have HB3:Hid (Below (w.heap.size+1) w1 w3):=Below.grown (w:=(w1.alloc (.cells (cs.map Value.string).toArray 9)).alloc (.cells #[.string z] 9)) (((Below.refl _ w1).alloc (by omega) _).alloc (by simp;omega) _) hgrow (by simp;omega) (zAE HO.out);have HN:=zBi (cs++[z]) gg 0 cap' w3 (by simp[h4]) (fun p hp=>by
   rcases List.mem_append.1 hp with hp|hp
   ·exact HCM.out p hp
   ·rw[List.mem_singleton] at hp;subst hp;omega) hlt3 (fun j hj=>by
   have e5:j<5:=by simpa[h4] using hj
   rw[Nat.zero_add,hown3.cellAt j (by omega)];have e6:cs.map Value.string++[.string z]=(cs++[z]).map Value.string:=by simp
   rw[e6];have hj':j<(cs++[z]).length:=hj;rw[List.getElem?_map,List.getElem?_eq_getElem hj',List.getD_eq_getElem?_getD,List.getElem?_eq_getElem hj'];rfl)
  rw[show(cs++[z]).length=5 by simp[h4]] at HN;have HB3w:Hid (Below w.heap.size w w3):=HB1.out.trans (HB3.out.mono (by omega));have HT3:Hid (Two w3 w.heap.size (.int .u32 0) (.int .u32 0)):=HT1.out.below HB3.out (by omega);have z3:=HT3.out.lt;clear hown3 hgrow hat hlt3 HO HT1 HP HB3;cases hq:zBJ (cs++[z]) with
  |none=>
   have HE:Hid (zAX s=(3,[])):=show zAX s=(3,[]) by
    rw[HV.out];unfold zDX;rw[hq]
   go_wp2_with (go_at_call 213;refine HN.mono ?_;rintro e w4 ⟨h1,h2,hb4⟩;obtain rfl:=h2 hq;obtain⟨c0,c1,f0,f1,lt⟩:=HT3.out.below hb4 z3;clear h1 h2);refine bodyPost_ret (v:= .tuple #[.agg #[.int .u32 0,.int .u32 0],.iface 22 (.int .i64 3)]) (by simp[results,Tryz.results189,go_sem,c0,c1]) rfl ⟨zBb.bad HE.out (by decide) rfl,?_⟩;exact((HB3w.out.trans (hb4.mono HB3w.out.size)).setCell (Nat.le_refl _) _).setCell (Nat.le_refl _) _
  |some q=>
   have hl:=zBL _ _ hq;rw[show(cs++[z]).length=5 by simp[h4]] at hl;obtain⟨x0,x1,x2,x3,n,rfl⟩:∃x0 x1 x2 x3 n,q=[x0,x1,x2,x3,n]:=by
    match q,hl with
    |[x0,x1,x2,x3,n],_=>exact⟨x0,x1,x2,x3,n,rfl⟩
   have HVQ:Hid (zAX s=zCS [x0,x1,x2,x3] n):=show zAX s=zCS [x0,x1,x2,x3] n by
    rw[HV.out];unfold zDX;rw[hq]
   have HN2:Calls Tryz.prog 213 #[.slice (some ⟨gg,0,none⟩) 5 cap'] w3 fun e w'=>∃g c,e= .returned (.tuple #[.slice (some ⟨g,0,none⟩) 5 c,.nilIface])/\5<=c/\c<=maxLen/\w3.heap.size<=g/\g<w'.heap.size/\(∀i,i<5->w'.cell? ⟨g,i,none⟩=some (zId ([x0,x1,x2,x3,n].getD i 0)))/\Below w3.heap.size w3 w':=by
    refine HN.mono ?_;rintro e w' ⟨h1,_,hb⟩;obtain⟨v,rfl,hO⟩:=h1 _ hq;rcases hO.2 with⟨h',h''⟩|⟨g,c,cur,rfl,hg,hh,hn,hmx,hsz,htk⟩
    ·simp at h''
    ·refine⟨g,c,rfl,hn,hmx,hg,(Array.getElem?_eq_some_iff.1 hh).1,fun i hi=> ?_,hb⟩
     rw[hO.cellAt i (by omega)];rcases i with _|_|_|_|_|i
     ·rfl
     ·rfl
     ·rfl
     ·rfl
     ·rfl
     ·omega
   clear HN hq hl HV;go_upto_region 8 with(go_at_call 213;refine HN2.mono ?_;rintro e w4 ⟨g,c,rfl,hc5,hcm,hg3,hg4,hcell,hb4⟩)
   have HCL:=hid hcell;obtain⟨nb,hnb⟩:∃nb:Nat,min n 65536=nb:=⟨_,rfl⟩;have HNB:=hid hnb;have d4:w4.cell? ⟨g,4,none⟩=some (.int .u32 (nb:Int)):=by rw[<-hnb];exact hcell 4 (by omega)
   have HT4:Hid (Two w4 w.heap.size (.int .u32 0) (.int .u32 0)):=HT3.out.below hb4 z3;have HB4:Hid (Below w.heap.size w w4):=HB3w.out.trans (hb4.mono HB3w.out.size);have z4:=HT4.out.lt;have hnl:nb<=65536:=by omega
   unfold maxLen at hcm;clear hcell hb4 hnb HN2 HT3 HB3w;go_wp2_with fail;go_loopw [45] (fun i wr=>∃j:Nat,j<=4/\i= .int .i64 j/\(∀m,m<j->[x0,x1,x2,x3].getD m 0<=255)/\Two wr w4.heap.size (.int .u32 (pre [x0,x1,x2,x3] j:Int)) (.int .u32 (nb:Int))/\Tch w4.heap.size (w4.alloc (.cells #[.int .u32 0,.int .u32 (nb:Int)] 320)) wr) (fun i _=>4-(intOf i).toNat)
   case atStart=>exact⟨0,Nat.zero_le _,rfl,fun m hm=>absurd hm (Nat.not_lt_zero _),Two.made w4 _ _ _,Tch.refl _ _⟩
   case round=>
    obtain⟨j,hj,rfl,hle,hT2,hT⟩:=hrel;have HLE:=hid hle;have HT:=hid hT;have HT2:=hid hT2;have HBw:Hid (Below w.heap.size w wr):=(HB4.out.alloc HB4.out.size _).trans (hT.below (by omega) (by simp;omega));have HTw:Hid (Two wr w.heap.size (.int .u32 0) (.int .u32 0)):=(HT4.out.below ((Below.refl _ w4).alloc (Nat.le_refl _) _) z4).below (hT.below (Nat.le_refl _) (by simp)) z4;clear hle hT hT2
    by_cases hlt:j<4
    ·have dj:wr.cell? ⟨g,j,none⟩=some (zId ([x0,x1,x2,x3,n].getD j 0)):=by
      rw[HT.out.cell (p:=⟨g,j,none⟩) (by simp;omega) (by simp;omega)];rw[World.cell?_alloc_lt _ _ ⟨g,j,none⟩ hg4];exact HCL.out j (by omega)
     have e5:[x0,x1,x2,x3,n].getD j 0=[x0,x1,x2,x3].getD j 0:=by
      rcases j with _|_|_|_|j
      ·rfl
      ·rfl
      ·rfl
      ·rfl
      ·omega
     rw[e5] at dj;obtain⟨x,hx⟩:∃x,[x0,x1,x2,x3].getD j 0=x:=⟨_,rfl⟩;have HX:=hid hx;rw[hx] at dj;obtain⟨x',hx'⟩:∃x':Nat,min x 65536=x':=⟨_,rfl⟩;have HX':=hid hx';unfold zId at dj;rw[hx'] at dj;have hxl:x'<=65536:=by omega
     clear e5 hx hx'
     by_cases hb:255<(x':Int)
     ·have HE:Hid (zAX s=(5,[])):=show zAX s=(5,[]) by
       rw[HVQ.out,zDD,if_neg];have h1:=HX.out;have h2:=HX'.out;have hbig:255<x:=by omega
       rw[<-h1] at hbig;intro hh;rcases j with _|_|_|_|j
       ·exact absurd hbig (by simp;omega)
       ·exact absurd hbig (by simp;omega)
       ·exact absurd hbig (by simp;omega)
       ·exact absurd hbig (by simp;omega)
       ·omega
      obtain⟨c0,c1,f0,f1,lt⟩:=HTw.out;go_wp2_with fail;refine bodyPost_ret (v:= .tuple #[.agg #[.int .u32 0,.int .u32 0],.iface 22 (.int .i64 5)]) (by simp[results,Tryz.results189,go_sem,c0,c1]) rfl ⟨zBb.bad HE.out (by decide) rfl,?_⟩;exact(HBw.out.setCell (Nat.le_refl _) _).setCell (Nat.le_refl _) _
     have ex:x'=x:=by have:=HX'.out;omega
     subst ex;have hb':(x':Int)<=255:=by omega
     have hpb:pre [x0,x1,x2,x3] j<=16777215:=by
      have h0:=HLE.out;rcases j with _|_|_|_|j
      ·exact Nat.zero_le _
      ·have:=h0 0 (by omega);simp[pre] at*;omega
      ·have:=h0 0 (by omega);have:=h0 1 (by omega);simp[pre] at*;omega
      ·have:=h0 0 (by omega);have:=h0 1 (by omega);have:=h0 2 (by omega);simp[pre] at*;omega
      ·omega
     obtain⟨pj,hpj⟩:∃pj,pre [x0,x1,x2,x3] j=pj:=⟨_,rfl⟩;have HPJ:=hid hpj;rw[hpj] at HT2 hpb;have hor:=zP1 pj x' hpb (by omega);have HNX:Hid (pre [x0,x1,x2,x3] (j+1)=pj*256+x'):=show _=_ by rw[pre,HPJ.out,HX.out]
     obtain⟨c0,c1,f0,f1,lt⟩:=HT2.out;have hpb':(pj:Int)<=16777215:=by omega
     clear hb hpj;go_wp2_with fail;go_roundw
     case rel=>
      refine⟨j+1,by omega,by go_num,fun m hm=> ?_,?_,HT.out.set _ _⟩
      ·by_cases e:m=j
       ·subst e;rw[HX.out];omega
       ·exact HLE.out m (by omega)
      ·rw[HNX.out]
       exact⟨World.cell?_setCell_same _ _ _ c0,by rw[World.cell?_setCell_other _ _ _ _ (by simp)];exact c1,by simp[f0],by simp[f1],by simp[World.setCell];exact lt⟩
     case measure=>simp[intOf];omega
    ·have e:j=4:=by omega
     subst e;have hq4:∀m,[x0,x1,x2,x3].getD m 0<=255:=fun m=>by
      rcases m with _|_|_|_|m
      ·exact HLE.out 0 (by omega)
      ·exact HLE.out 1 (by omega)
      ·exact HLE.out 2 (by omega)
      ·exact HLE.out 3 (by omega)
      ·exact Nat.zero_le _
     have hp4:=zP2 _ hq4;have he4:pre [x0,x1,x2,x3] 4=((x0*256+x1)*256+x2)*256+x3:=by simp[pre]
     have HQ4:=hid hq4;obtain⟨ad,had⟩:∃ad,pre [x0,x1,x2,x3] 4=ad:=⟨_,rfl⟩;rw[had] at hp4 he4 HT2;have HAD:=hid he4;obtain⟨c0,c1,f0,f1,lt⟩:=HT2.out;obtain⟨k0,k1,y0,y1,ltk⟩:=HTw.out;clear hq4 he4 had
     by_cases hb:32<(nb:Int)
     ·have HE:Hid (zAX s=(5,[])):=show zAX s=(5,[]) by
       rw[HVQ.out,zDD,if_neg];have:=HNB.out;omega
      go_upto_region 16 with fail
      go_quiet (fail);go_wp2_with fail;refine bodyPost_ret (v:= .tuple #[.agg #[.int .u32 0,.int .u32 0],.iface 22 (.int .i64 5)]) (by simp[results,Tryz.results189,go_sem,k0,k1]) rfl ⟨zBb.bad HE.out (by decide) rfl,?_⟩
      repeat (with_reducible first|exact HBw.out|refine below_drewN ?_ _|refine Below.drew ?_|refine Below.setCell ?_ (by first|(simp;done)|(simp;omega)) _)
     have en:nb=n:=by have:=HNB.out;omega
     subst en;have hn32:nb<=32:=by omega
     have hb':(nb:Int)<=32:=by omega
     have hMk:=fun w=>zJs (ad:Int) nb w hn32
     have HMZ:Hid (ad&&& (4294967295-zAb nb)=ad % 2 ^ (32-nb)):=zMJ ad nb hn32;have hmb:=(zMI nb hn32).1;obtain⟨mk,hmk⟩:∃mk,zAb nb=mk:=⟨_,rfl⟩;rw[hmk] at hMk hmb HMZ;obtain⟨d,hd⟩:∃d:Int,bits .andNot .u32 (ad:Int) (mk:Int)=d:=⟨_,rfl⟩;have hd':=hd;rw[u32_andNot_nat ad mk (by omega) (by omega),HMZ.out] at hd';have HD:=hid hd';clear hmk hd' hb;have hg2:w4.heap.size<wr.heap.size:=lt;have hdg:decide ((32:Int)<(nb:Int))=false:=by simpa using hb'
     by_cases hc:(d !=0)=true
     ·have HE:Hid (zAX s=(5,[])):=show zAX s=(5,[]) by
       rw[HVQ.out,zDD,if_neg];have h1:=HD.out;have h2:d≠0:=by simpa using hc
       rw[<-HAD.out];intro hh;have:=hh.2.2.2.2.2;omega
      go_upto_region 16 with fail
      first|(go_region_with (go_at_call 214;refine(hMk _).mono ?_;rintro e w7 ⟨rfl,hb7⟩;have HB7:Hid (Below wr.heap.size wr w7):=Below.trans (by repeat (with_reducible first|exact Below.refl _ _|refine Below.drew ?_)) (hb7.mono (by first|omega|(simp;done)|(simp;omega)));obtain⟨c07,c17,f07,f17,lt7⟩:=HT2.out.below HB7.out lt;obtain⟨k07,k17,y07,y17,ltk7⟩:=HTw.out.below HB7.out ltk;clear hb7))|fail
      all_goals
       go_wp2_with fail;refine bodyPost_ret (v:= .tuple #[.agg #[.int .u32 0,.int .u32 0],.iface 22 (.int .i64 5)]) (by simp[results,Tryz.results189,go_sem,k07,k17]) rfl ⟨zBb.bad HE.out (by decide) rfl,?_⟩
       repeat (with_reducible first|exact HBw.out.trans (HB7.out.mono HBw.out.size)|refine below_drewN ?_ _|refine Below.drew ?_|refine Below.setCell ?_ (by first|(simp;done)|(simp;omega)) _)
     ·have hc':(d !=0)=false:=by simpa using hc
      have HE:Hid (zAX s=(0,[ad,nb])):=show zAX s=(0,[ad,nb]) by
       rw[HVQ.out,zDD,if_pos]
       ·rw[<-HAD.out]
       ·have h1:=HD.out
        have h2:d=0:=by simpa using hc'
        rw[<-HAD.out];exact⟨HQ4.out 0,HQ4.out 1,HQ4.out 2,HQ4.out 3,hn32,by omega⟩
      clear hc;go_upto_region 16 with fail
      first|(go_region_with (go_at_call 214;refine(hMk _).mono ?_;rintro e w7 ⟨rfl,hb7⟩;have HB7:Hid (Below wr.heap.size wr w7):=Below.trans (by repeat (with_reducible first|exact Below.refl _ _|refine Below.drew ?_)) (hb7.mono (by first|omega|(simp;done)|(simp;omega)));obtain⟨c07,c17,f07,f17,lt7⟩:=HT2.out.below HB7.out lt;obtain⟨k07,k17,y07,y17,ltk7⟩:=HTw.out.below HB7.out ltk;clear hb7))|fail
      all_goals
       go_wp2_with fail;refine bodyPost_ret (v:= .tuple #[.agg #[.int .u32 (ad:Int),.int .u32 (nb:Int)],.nilIface]) (by simp[results,Tryz.results189,go_sem,k07,k17]) rfl ⟨zBb.fine HE.out rfl,?_⟩
       repeat (with_reducible first|exact HBw.out.trans (HB7.out.mono HBw.out.size)|refine below_drewN ?_ _|refine Below.drew ?_|refine Below.setCell ?_ (by first|(simp;done)|(simp;omega)) _)
 ·have h4':((cs.length:Int) !=4)=true:=by rw[bne_iff_ne];omega
  have HE:Hid (zAX s=(3,[])):=show zAX s=(3,[]) by rw[HV.out,zP0 _ _ h4]
  go_wp2_with (go_at_call 92;refine HP.out.mono ?_;rintro e w2 ⟨rfl,hw2⟩;have hb2:Below w1.heap.size w1 w2:=(by rw[hw2];exact bal _ _);obtain⟨c0,c1,f0,f1,lt⟩:=HT1.out.below hb2 lt1;clear hw2);refine bodyPost_ret (v:= .tuple #[.agg #[.int .u32 0,.int .u32 0],.iface 22 (.int .i64 3)]) (by simp[results,Tryz.results189,go_sem,c0,c1]) rfl ⟨zBb.bad HE.out (by decide) rfl,?_⟩;exact((HB1.out.trans (hb2.mono HB1.out.size)).setCell (Nat.le_refl _) _).setCell (Nat.le_refl _) _
theorem zON (x k:Nat) (hx:x<4294967296) (hk:k<=32):x&&& zAb k=x / 2 ^ (32-k)*2 ^ (32-k):=by
 have hm:zAb k=(2 ^ k-1) <<< (32-k):=by
  unfold zAb;rw[Nat.shiftLeft_eq,Nat.sub_mul,Nat.one_mul,<-Nat.pow_add,show k+(32-k)=32 by omega]
 rw[hm,<-Nat.shiftRight_eq_div_pow,<-Nat.shiftLeft_eq]
 apply Nat.eq_of_testBit_eq
 intro i;rw[Nat.testBit_and,Nat.testBit_shiftLeft,Nat.testBit_shiftLeft,Nat.testBit_two_pow_sub_one,Nat.testBit_shiftRight]
 by_cases h:32-k<=i
 ·have e:32-k+(i-(32-k))=i:=by omega
  rw[e]
  by_cases h2:i-(32-k)<k
  ·simp[h,h2]
  ·have hb:x.testBit i=false:=Nat.testBit_lt_two_pow (Nat.lt_of_lt_of_le hx (Nat.pow_le_pow_right (by decide:0<2) (by omega:32<=i)))
   simp[hb]
 ·simp[h]
theorem zMK (x a n:Nat) (hx:x<4294967296) (hn:n<=32) (ha:a % 2 ^ (32-n)=0):x&&& zAb n=a↔x / 2 ^ (32-n)=a / 2 ^ (32-n):=by
 rw[zON x n hx hn];have hp:0<2 ^ (32-n):=Nat.pow_pos (by decide);generalize 2 ^ (32-n)=P at*;have h1:=Nat.div_add_mod a P;rw[ha,Nat.add_zero] at h1
 constructor
 ·intro h
  rw[<-h,Nat.mul_div_cancel _ hp]
 ·intro h
  rw[h,Nat.mul_comm];exact h1
end Go.Proofs.YtclpnafiiobfhaaGreatDoor

import Derived.Test.YtclpnafiiobfhaaGreatDoorQ02
set_option linter.unusedVariables false
set_option linter.unusedSimpArgs false
set_option maxRecDepth 100000
set_option maxHeartbeats 3200000
namespace Go.Proofs.YtclpnafiiobfhaaGreatDoor
open Go.RowKit
theorem zBn (s:ByteArray) (c:UInt8) (w:World) (hs:s.size<=2000):
 Calls Tryz.prog 40 #[.string s,.int .u8 (c.toNat:Int)] w fun e w'=>∃v,e= .returned v/\w'.ownsRow w.heap.size 9 1 v (zAj c s).length ((zAj c s).map Value.string)/\Below w.heap.size w w':=by
 obtain⟨i0,hi0,hz0,hz1,hz2⟩:=zAi Tryz.infoStr;have hsz:(s.size:Int)<=2000:=by omega
 go_enter Tryz.func40,Tryz.ntmps40;go_wp2;go_loopw [5,6,7] (fun v a b wr=>∃(p q:Nat) (done:List ByteArray),b= .int .i64 q/\a= .int .i64 p/\((Mid s c p q done/\done.length<=q)\/(q=s.size+1/\done=zAj c s))/\wr.ownsRow w.heap.size 9 1 v done.length (done.map Value.string)/\Below w.heap.size w wr) (fun _ _ b _=>s.size+1-(intOf b).toNat)
 case atStart=>exact⟨0,0,[],rfl,rfl,Or.inl ⟨Mid.start s _,Nat.le_refl _⟩,World.ownsRow_nil _ _ _ _,Below.refl _ _⟩
 case round=>
  obtain⟨p,q,done,rfl,rfl,hM,hO,hB⟩:=hrel;have HO:=hid hO;have HB:=hid hB;clear hO hB;rcases hM with⟨hM,hdl⟩|⟨hq,hd⟩
  ·have hle:=hM.le
   have htop:=hM.top;have HM:=hid hM;clear hM;have hpq:(p:Int)<=(q:Int):=by omega
   have hqs:(q:Int)<=(s.size:Int):=by omega
   have HAP:Hid (∀(gg cap':Nat) (w1:World),w1.ownsRow w.heap.size 9 1 (.slice (some ⟨gg,0,none⟩) (done.length+1) cap') (done.length+1) (done.map Value.string++[.string (s.extract p q)])->w1.ownsRow w.heap.size 9 1 (.slice (some ⟨gg,0,none⟩) (done.length+1) cap') (done++[s.extract p q]).length ((done++[s.extract p q]).map Value.string)):=fun gg cap' w1 h=>by
    rw[List.map_append,List.length_append];exact h
   by_cases hend:q=s.size
   ·subst hend
    have HDN:=hid HM.out.done.symm;go_upto_region 7 with fail
    go_wp2_with (at_builtin;refine wpList_append_lies _ rfl _ _ 57 rfl w.heap.size 9 i0 _ 1 16 Tryz.underlying57 hi0 hz0 hz1 hz2 rfl (by decide) u5 done.length (done.map Value.string) rfl (HO.out.alloc _) ⟨wr.heap.size,0,none⟩ 1 1 [.string (s.extract p s.size)] rfl rfl (zBh wr _ _) (by simp[Value.oneCell']) (by decide) (by unfold maxLen;omega) (by omega) (by have:=HB.out.size;simp;omega) (wr.heap.size+1) (by simp) ?_;intro gg cap' w1 hown1 hgrow hat hlt1);have HB1:=hid (Below.grown (w:=wr.alloc (.cells #[.string (s.extract p s.size)] 9)) (HB.out.alloc HB.out.size _) hgrow (by have:=HB.out.size;simp;omega) (zAE HO.out));go_roundw
    case rel=>exact⟨s.size+1,s.size+1,done++[s.extract p s.size],by go_num,by go_num,Or.inr ⟨by omega,HDN.out⟩,HAP.out gg cap' w1 hown1,HB1.out⟩
    case measure=>simp[intOf]
   ·have hlt:q<s.size:=by omega
    have hend':((q:Int) == (s.size:Int))=false:=by rw[beq_eq_false_iff_ne];omega
    have hx:=zA5 s q hlt;have hb8:=zAN s q;have hlt':(q:Int)<(s.size:Int):=by omega
    by_cases hc:nth s q=(c.toNat:Int)
    ·have hc':(nth s q == (c.toNat:Int))=true:=by rw[hc];simp
     have HH:=hid (HM.out.hit hlt hc);clear hc;go_upto_region 7 with fail
     go_wp2_with (at_builtin;refine wpList_append_lies _ rfl _ _ 57 rfl w.heap.size 9 i0 _ 1 16 Tryz.underlying57 hi0 hz0 hz1 hz2 rfl (by decide) u5 done.length (done.map Value.string) rfl (HO.out.alloc _) ⟨wr.heap.size,0,none⟩ 1 1 [.string (s.extract p q)] rfl rfl (zBh wr _ _) (by simp[Value.oneCell']) (by decide) (by unfold maxLen;omega) (by omega) (by have:=HB.out.size;simp;omega) (wr.heap.size+1) (by simp) ?_;intro gg cap' w1 hown1 hgrow hat hlt1);have HB1:=hid (Below.grown (w:=wr.alloc (.cells #[.string (s.extract p q)] 9)) (HB.out.alloc HB.out.size _) hgrow (by have:=HB.out.size;simp;omega) (zAE HO.out));go_roundw
     case rel=>exact⟨q+1,q+1,done++[s.extract p q],by go_num,by go_num,Or.inl ⟨HH.out,by simp;omega⟩,HAP.out gg cap' w1 hown1,HB1.out⟩
     case measure=>simp[intOf];omega
    ·have hc':(nth s q == (c.toNat:Int))=false:=by rw[beq_eq_false_iff_ne];exact hc
     have HH:=hid (HM.out.skip hlt hc);clear hc;go_wp2_with fail;go_roundw
     case rel=>exact⟨p,q+1,done,by go_num,rfl,Or.inl ⟨HH.out,by omega⟩,HO.out,HB.out⟩
     case measure=>simp[intOf];omega
  ·have hgt:(s.size:Int)<(q:Int):=by omega
   have HD:=hid hd;clear hd;go_wp2_with fail;go_ret;have:=HO.out;rw[HD.out] at this;exact⟨_,rfl,this,HB.out⟩
theorem zKZ (s:ByteArray) (w:World) (hs:s.size<=2000):
 Calls Tryz.prog 20 #[.string s] w fun e w'=>∃v,e= .returned v/\w'.ownsRow w.heap.size 9 1 v (zAj 10 s).length ((zAj 10 s).map Value.string)/\Below w.heap.size w w':=by
 obtain⟨i0,hi0,hz0,hz1,hz2⟩:=zAi Tryz.infoStr;have hsz:(s.size:Int)<=2000:=by omega
 go_enter Tryz.func20,Tryz.ntmps20;go_wp2;go_loopw [3,4,5] (fun v a b wr=>∃(p q:Nat) (done:List ByteArray),b= .int .i64 q/\a= .int .i64 p/\((Mid s 10 p q done/\done.length<=q)\/(q=s.size+1/\done=zAj 10 s))/\wr.ownsRow w.heap.size 9 1 v done.length (done.map Value.string)/\Below w.heap.size w wr) (fun _ _ b _=>s.size+1-(intOf b).toNat)
 case atStart=>exact⟨0,0,[],rfl,rfl,Or.inl ⟨Mid.start s _,Nat.le_refl _⟩,World.ownsRow_nil _ _ _ _,Below.refl _ _⟩
 case round=>
  obtain⟨p,q,done,rfl,rfl,hM,hO,hB⟩:=hrel;have HO:=hid hO;have HB:=hid hB;clear hO hB;rcases hM with⟨hM,hdl⟩|⟨hq,hd⟩
  ·have hle:=hM.le
   have htop:=hM.top;have HM:=hid hM;clear hM;have hpq:(p:Int)<=(q:Int):=by omega
   have hqs:(q:Int)<=(s.size:Int):=by omega
   have HAP:Hid (∀(gg cap':Nat) (w1:World),w1.ownsRow w.heap.size 9 1 (.slice (some ⟨gg,0,none⟩) (done.length+1) cap') (done.length+1) (done.map Value.string++[.string (s.extract p q)])->w1.ownsRow w.heap.size 9 1 (.slice (some ⟨gg,0,none⟩) (done.length+1) cap') (done++[s.extract p q]).length ((done++[s.extract p q]).map Value.string)):=fun gg cap' w1 h=>by
    rw[List.map_append,List.length_append];exact h
   by_cases hend:q=s.size
   ·subst hend
    have HDN:=hid HM.out.done.symm;go_upto_region 7 with fail
    go_wp2_with (at_builtin;refine wpList_append_lies _ rfl _ _ 57 rfl w.heap.size 9 i0 _ 1 16 Tryz.underlying57 hi0 hz0 hz1 hz2 rfl (by decide) u3 done.length (done.map Value.string) rfl (HO.out.alloc _) ⟨wr.heap.size,0,none⟩ 1 1 [.string (s.extract p s.size)] rfl rfl (zBh wr _ _) (by simp[Value.oneCell']) (by decide) (by unfold maxLen;omega) (by omega) (by have:=HB.out.size;simp;omega) (wr.heap.size+1) (by simp) ?_;intro gg cap' w1 hown1 hgrow hat hlt1);have HB1:=hid (Below.grown (w:=wr.alloc (.cells #[.string (s.extract p s.size)] 9)) (HB.out.alloc HB.out.size _) hgrow (by have:=HB.out.size;simp;omega) (zAE HO.out));go_roundw
    case rel=>exact⟨s.size+1,s.size+1,done++[s.extract p s.size],by go_num,by go_num,Or.inr ⟨by omega,HDN.out⟩,HAP.out gg cap' w1 hown1,HB1.out⟩
    case measure=>simp[intOf]
   ·have hlt:q<s.size:=by omega
    have hend':((q:Int) == (s.size:Int))=false:=by rw[beq_eq_false_iff_ne];omega
    have hx:=zA5 s q hlt;have hb8:=zAN s q;have hlt':(q:Int)<(s.size:Int):=by omega
    by_cases hc:nth s q=10
    ·have hc':(nth s q == 10)=true:=by rw[hc];simp
     have HH:=hid (HM.out.hit hlt hc);clear hc;go_upto_region 7 with fail
     go_wp2_with (at_builtin;refine wpList_append_lies _ rfl _ _ 57 rfl w.heap.size 9 i0 _ 1 16 Tryz.underlying57 hi0 hz0 hz1 hz2 rfl (by decide) u3 done.length (done.map Value.string) rfl (HO.out.alloc _) ⟨wr.heap.size,0,none⟩ 1 1 [.string (s.extract p q)] rfl rfl (zBh wr _ _) (by simp[Value.oneCell']) (by decide) (by unfold maxLen;omega) (by omega) (by have:=HB.out.size;simp;omega) (wr.heap.size+1) (by simp) ?_;intro gg cap' w1 hown1 hgrow hat hlt1);have HB1:=hid (Below.grown (w:=wr.alloc (.cells #[.string (s.extract p q)] 9)) (HB.out.alloc HB.out.size _) hgrow (by have:=HB.out.size;simp;omega) (zAE HO.out));go_roundw
     case rel=>exact⟨q+1,q+1,done++[s.extract p q],by go_num,by go_num,Or.inl ⟨HH.out,by simp;omega⟩,HAP.out gg cap' w1 hown1,HB1.out⟩
     case measure=>simp[intOf];omega
    ·have hc':(nth s q == 10)=false:=by rw[beq_eq_false_iff_ne];exact hc
     have HH:=hid (HM.out.skip hlt hc);clear hc;go_wp2_with fail;go_roundw
     case rel=>exact⟨p,q+1,done,by go_num,rfl,Or.inl ⟨HH.out,by omega⟩,HO.out,HB.out⟩
     case measure=>simp[intOf];omega
  ·have hgt:(s.size:Int)<(q:Int):=by omega
   have HD:=hid hd;clear hd;go_wp2_with fail;go_ret;have:=HO.out;rw[HD.out] at this;exact⟨_,rfl,this,HB.out⟩
theorem zCX (ws:List ByteArray) (b off cap:Nat) (x:ByteArray) (w:World) (hn:ws.length<=100) (hc:zB2 w b off ws):
 Calls Tryz.prog 22 #[.slice (some ⟨b,off,none⟩) ws.length cap,.string x] w fun e w'=>e= .returned (.int .i64 (plc ws x))/\w'=w:=by
 go_enter Tryz.func22,Tryz.ntmps22;go_wp2;go_loop [5] (fun i=>∃k:Nat,k<=ws.length/\i= .int .i64 k/\∀j,j<k->ws.getD j ByteArray.empty≠x) (fun i=>ws.length-(intOf i).toNat)
 case atStart=>exact⟨0,Nat.zero_le _,rfl,fun j hj=>absurd hj (Nat.not_lt_zero _)⟩
 case round=>
  obtain⟨k,hk,rfl,hp⟩:=hrel
  by_cases hlt:k<ws.length
  ·have c:=hc k hlt
   obtain⟨y,hy⟩:∃y,ws.getD k ByteArray.empty=y:=⟨_,rfl⟩;rw[hy] at c;have HY:=hid hy
   by_cases e:ws.getD k ByteArray.empty=x
   ·have e':(y.toList == x.toList)=true:=by rw[Lib.bytes_beq_iff,<-hy,e]
    have HI:Hid (plc ws x=(k:Int)):=by
     show Lib.idxFromS ws x 0=_
     rw[Lib.idxFromS_hit x ws k 0 hlt e hp,Nat.zero_add]
    clear hp e hy;go_wp2;go_ret;rw[HI.out];exact⟨rfl,rfl⟩
   ·have e':(y.toList == x.toList)=false:=by rw[Lib.bytes_beq_false_iff,<-hy];exact e
    have HP:=hid hp;have HE:=hid e;clear hp e hy;go_wp2;go_round
    case rel=>
     refine⟨k+1,by omega,by go_num,fun j hj=> ?_⟩
     by_cases q:j=k
     ·subst q;exact HE.out
     ·exact HP.out j (by omega)
    case measure=>simp[intOf];omega
  ·have e:k=ws.length:=by omega
   subst e;have HI:Hid (plc ws x= -1):=Lib.idxFromS_miss x ws 0 hp;clear hp;go_wp2;go_ret;rw[HI.out];exact⟨rfl,rfl⟩
theorem zC1 {w:World} {B g c:Nat} {ps:List ByteArray} (h:w.ownsRow B 9 1 (.slice (some ⟨g,0,none⟩) ps.length c) ps.length (ps.map Value.string)):zB2 w g 0 ps:=fun j hj=>by
 rw[Nat.zero_add,h.cellAt j (by omega),List.getElem?_map,List.getElem?_eq_getElem hj,List.getD_eq_getElem?_getD,List.getElem?_eq_getElem hj];rfl
def zJm (s:ByteArray) (i t:Nat):Nat:=min (zGZ s i) (t+1)
theorem zHT (s:ByteArray) (i t:Nat) (h:i<s.size) (h0:48<=nth s i) (h1:nth s i<=57):((zJm s (i+1) t:Nat):Int)=min (10*(zJm s i t:Int)+(nth s i-48)) ((t:Int)+1):=by
 have:=zF1 s i h;unfold zJm;omega
theorem zL0 (s:ByteArray) (i t:Nat):(zJm s i t:Int)<=(t:Int)+1:=by unfold zJm;omega
theorem zHU (s:ByteArray) (t:Nat) (w:World) (hs:s.size<=2000) (ht:t<=100000) (h0:s.size≠0) (hd:zLV s s.size):
 Calls Tryz.prog 72 #[.string s,.int .i64 (t:Int)] w fun e w'=>e= .returned (.tuple #[.int .i64 ((zJm s s.size t:Nat):Int),.int .i64 0])/\w'=w:=by
 have he:=zDj s h0;have ht':(t:Int)<=100000:=by omega
 go_enter Tryz.func72,Tryz.ntmps72;go_wp2;go_loop [6,7] (fun v i=>∃j:Nat,j<=s.size/\i= .int .i64 j/\v= .int .i64 ((zJm s j t:Nat):Int)) (fun _ i=>s.size-(intOf i).toNat)
 case atStart=>exact⟨0,Nat.zero_le _,rfl,by unfold zJm;rw[zF0];simp⟩
 case round=>
  obtain⟨j,hj,rfl,rfl⟩:=hrel
  by_cases hlt:j<s.size
  ·have hx:=zA5 s j hlt
   have hb:=hd j hlt;have h48:48<=nth s j:=hb.1;have h57:nth s j<=57:=hb.2;have hc:=zL0 s j t;have hn:=zHT s j t hlt h48 h57;have HN:=hid hn;clear hn
   by_cases hgt:(t:Int)<10*(zJm s j t:Int)+(nth s j-48)
   ·go_wp2
    go_round
    case rel=>exact⟨j+1,by omega,by go_num,by rw[HN.out];congr 1;omega⟩
    case measure=>simp[intOf];omega
   ·have hgt':10*(zJm s j t:Int)+(nth s j-48)<=(t:Int):=by omega
    clear hgt;go_wp2;go_round
    case rel=>exact⟨j+1,by omega,by go_num,by rw[HN.out];congr 1;omega⟩
    case measure=>simp[intOf];omega
  ·have e:j=s.size:=by omega
   subst e;go_wp2;go_ret2;exact⟨rfl,rfl⟩
theorem zIl (s:ByteArray) (t i:Nat) (w:World) (hs:s.size<=2000) (ht:t<=100000) (hi:i<s.size) (hd:zLV s i) (hn:¬(48<=nth s i/\nth s i<=57)):
 Calls Tryz.prog 72 #[.string s,.int .i64 (t:Int)] w fun e w'=>e= .returned (.tuple #[.int .i64 0,.int .i64 3])/\w'=w:=by
 have ht':(t:Int)<=100000:=by omega
 have HN:=hid hn;clear hn;go_enter Tryz.func72,Tryz.ntmps72;go_wp2;go_loop [6,7] (fun v k=>∃j:Nat,j<=i/\k= .int .i64 j/\v= .int .i64 ((zJm s j t:Nat):Int)) (fun _ k=>s.size-(intOf k).toNat)
 case atStart=>exact⟨0,Nat.zero_le _,rfl,by unfold zJm;rw[zF0];simp⟩
 case round=>
  obtain⟨j,hj,rfl,rfl⟩:=hrel;have hlt':j<s.size:=by omega
  have hx:=zA5 s j hlt';have hb8:=zAN s j
  by_cases hlt:j<i
  ·have hb:=hd j hlt
   have h48:48<=nth s j:=hb.1;have h57:nth s j<=57:=hb.2;have hc:=zL0 s j t;have hn:=zHT s j t hlt' h48 h57;have HN:=hid hn;clear hn
   by_cases hgt:(t:Int)<10*(zJm s j t:Int)+(nth s j-48)
   ·go_wp2
    go_round
    case rel=>exact⟨j+1,by omega,by go_num,by rw[HN.out];congr 1;omega⟩
    case measure=>simp[intOf];omega
   ·have hgt':10*(zJm s j t:Int)+(nth s j-48)<=(t:Int):=by omega
    clear hgt;go_wp2;go_round
    case rel=>exact⟨j+1,by omega,by go_num,by rw[HN.out];congr 1;omega⟩
    case measure=>simp[intOf];omega
  ·have e:j=i:=by omega
   subst e
   by_cases h48:nth s j<48
   ·go_wp2
    go_ret2;exact⟨rfl,rfl⟩
   ·have h57:57<nth s j:=by have:=HN.out;omega
    have h48':48<=nth s j:=by omega
    clear h48;go_wp2;go_ret2;exact⟨rfl,rfl⟩
theorem zGg (s:ByteArray) (t:Nat) (w:World) (hs:s.size=0) (ht:t<=100000):
 Calls Tryz.prog 72 #[.string s,.int .i64 (t:Int)] w fun e w'=>e= .returned (.tuple #[.int .i64 0,.int .i64 3])/\w'=w:=by
 have he:=zDi s hs;go_enter Tryz.func72,Tryz.ntmps72;go_wp2;go_loop [6,7] (fun v k=>k= .int .i64 0) (fun _ k=>0)
 case atStart=>rfl
 case round=>
  subst hrel;have hz:(s.size:Int)=0:=by omega
  go_wp2;go_ret2;exact⟨rfl,rfl⟩
theorem zCO (s:ByteArray) (t v:Nat) (w:World) (hs:s.size<=2000) (ht:t<=100000) (h:zAv s=some v):
 Calls Tryz.prog 72 #[.string s,.int .i64 (t:Int)] w fun e w'=>e= .returned (.tuple #[.int .i64 ((min v (t+1):Nat):Int),.int .i64 0])/\w'=w:=by
 rcases zCh s with⟨h0,hd,hv⟩|⟨hv,_⟩
 ·rw[hv] at h
  injection h with h
  subst h;exact zHU s t w hs ht h0 hd
 ·rw[hv] at h;cases h
theorem zC2 (s:ByteArray) (t:Nat) (w:World) (hs:s.size<=2000) (ht:t<=100000) (h:zAv s=none):
 Calls Tryz.prog 72 #[.string s,.int .i64 (t:Int)] w fun e w'=>e= .returned (.tuple #[.int .i64 0,.int .i64 3])/\w'=w:=by
 rcases zCh s with⟨h0,hd,hv⟩|⟨_,h0|⟨i,h1,h2,h3⟩⟩
 ·rw[hv] at h;cases h
 ·exact zGg s t w h0 ht
 ·exact zIl s t i w hs ht h1 h2 h3
theorem zIm (s:ByteArray) (w:World) (hs:s.size<=2000):
 Calls Tryz.prog 21 #[.string s] w fun e w'=>∃v,e= .returned v/\w'.ownsRow w.heap.size 9 1 v (zAh s).length ((zAh s).map Value.string)/\Below w.heap.size w w':=by
 obtain⟨i0,hi0,hz0,hz1,hz2⟩:=zAi Tryz.infoStr;have HC:=hid (zBn s 32 w hs);have hcl:=zBq 32 s;have hcp:=zCM 32 s;obtain⟨cs,hcs⟩:∃cs,zAj 32 s=cs:=⟨_,rfl⟩;rw[hcs] at HC hcl hcp;have HV:=hid (zHR s cs hcs);clear hcs;go_enter Tryz.func21,Tryz.ntmps21;go_wp2_with (go_at_call 40;refine HC.out.mono ?_;rintro e w1 ⟨v,rfl,hO1,hb1⟩;obtain⟨g,cap,rfl,hgB,hgl⟩:=hO1.form hcp;have HO1:=hid hO1;have HB1:=hid hb1;clear hO1 hb1);go_loopw [4,5] (fun v i wr=>∃(j:Nat) (q:List ByteArray),j<=cs.length/\i= .int .i64 j/\q=(cs.take j).filter (fun p=>p.size !=0)/\q.length<=j/\wr.ownsRow w1.heap.size 9 1 v q.length (q.map Value.string)/\Below w1.heap.size w1 wr) (fun _ i _=>cs.length-(intOf i).toNat)
 case atStart=>exact⟨0,[],Nat.zero_le _,rfl,by simp,by simp,World.ownsRow_nil _ _ _ _,Below.refl _ _⟩
 case round=>
  obtain⟨j,q,hj,rfl,hq,hql,hO,hB⟩:=hrel;have HQ:=hid hq;have HO:=hid hO;have HB:=hid hB;have hz:w1.heap.size<=wr.heap.size:=hB.size;clear hq hO hB
  by_cases hlt:j<cs.length
  ·have c:wr.cell? ⟨g,j,none⟩=some (.string (cs.getD j ByteArray.empty)):=by
    rw[HB.out.cell (p:=⟨g,j,none⟩) hgl];have:=zC1 HO1.out j hlt;rw[Nat.zero_add] at this;exact this
   obtain⟨p,hp⟩:∃p,cs.getD j ByteArray.empty=p:=⟨_,rfl⟩;rw[hp] at c;have htk:cs.take (j+1)=cs.take j++[p]:=by
    rw[List.take_add_one,<-hp,List.getD_eq_getElem?_getD,List.getElem?_eq_getElem hlt];rfl
   have HTK:=hid htk;have hgr:g<wr.heap.size:=by omega
   clear hp htk
   by_cases h0:p.size=0
   ·have he:=zDi p h0
    have HQ':Hid (q=(cs.take (j+1)).filter (fun p=>p.size !=0)):=show q=_ by
     rw[HTK.out,List.filter_append,<-HQ.out];simp[h0]
    go_wp2_with fail;go_roundw
    case rel=>exact⟨j+1,q,by omega,by go_num,HQ'.out,by omega,HO.out,HB.out⟩
    case measure=>simp[intOf];omega
   ·have he:=zDj p h0
    have HQ':Hid (q++[p]=(cs.take (j+1)).filter (fun p=>p.size !=0)):=show q++[p]=_ by
     rw[HTK.out,List.filter_append,<-HQ.out];simp[h0]
    go_upto_region 7 with fail
    go_wp2_with (at_builtin;refine wpList_append_lies _ rfl _ _ 57 rfl w1.heap.size 9 i0 _ 1 16 Tryz.underlying57 hi0 hz0 hz1 hz2 rfl (by decide) u4 q.length (q.map Value.string) rfl (HO.out.alloc _) ⟨wr.heap.size,0,none⟩ 1 1 [.string p] rfl rfl (zBh wr _ _) (by simp[Value.oneCell']) (by decide) (by unfold maxLen;omega) (by omega) (by simp;omega) (wr.heap.size+1) (by simp) ?_;intro gg cap' w2 hown1 hgrow hat hlt1);have HO1':Hid (w2.ownsRow w1.heap.size 9 1 (.slice (some ⟨gg,0,none⟩) (q.length+1) cap') (q++[p]).length ((q++[p]).map Value.string)):=show World.ownsRow _ _ _ _ _ _ _ by
     rw[List.map_append,List.length_append];exact hown1
    have HB1':=hid (Below.grown (w:=wr.alloc (.cells #[.string p] 9)) (HB.out.alloc hz _) hgrow (by simp;omega) (zAE HO.out));clear hown1 hgrow hat hlt1;go_wp2_with fail;go_roundw
    case rel=>exact⟨j+1,q++[p],by omega,by go_num,HQ'.out,by simp;omega,HO1'.out,HB1'.out⟩
    case measure=>simp[intOf];omega
  ·have e:j=cs.length:=by omega
   subst e;go_wp2_with fail;go_ret;rw[HV.out];have e:q=cs.filter fun p=>p.size !=0:=by rw[HQ.out,List.take_length]
   rw[<-e];exact⟨_,rfl,zDm HO.out HB1.out.size,HB1.out.trans (HB.out.mono HB1.out.size)⟩
theorem Tryz.infoI64:(Tryz.prog.info? 3).map (fun i=>(i.zero,i.size,i.bytes))=some (some (.int .i64 0),1,8):=by kernel_rfl
def zPo (t v:Nat):Value:= .int .i64 ((min v (t+1):Nat):Int)
theorem zC3 (s:ByteArray) (c:UInt8) (lo hi t:Nat) (w:World) (hs:s.size<=2000) (hlo:lo<=100) (hhi:hi<=100) (h:(zAj c s).length<lo\/hi<(zAj c s).length):
 Calls Tryz.prog 76 #[.string s,.int .u8 (c.toNat:Int),.int .i64 (lo:Int),.int .i64 (hi:Int),.int .i64 (t:Int)] w fun e w'=>e= .returned (.tuple #[.slice none 0 0,.int .i64 3])/\Below w.heap.size w w':=by
 have HC:=hid (zBn s c w hs);have hcp:=zCM c s;have hcl:=zBq c s;obtain⟨cs,hcs⟩:∃cs,zAj c s=cs:=⟨_,rfl⟩;rw[hcs] at HC hcp hcl h;clear hcs
 by_cases h1:cs.length<lo
 ·have h1':(cs.length:Int)<(lo:Int):=by omega
  clear h h1;go_enter Tryz.func76,Tryz.ntmps76;go_wp2_with (go_at_call 40;refine HC.out.mono ?_;rintro e w1 ⟨v,rfl,hO1,hb1⟩;obtain⟨g,cap,rfl,hgB,hgl⟩:=hO1.form hcp);go_ret2;exact⟨rfl,hb1⟩
 ·have h1':(lo:Int)<=(cs.length:Int):=by omega
  have h2':(hi:Int)<(cs.length:Int):=by omega
  clear h h1;go_enter Tryz.func76,Tryz.ntmps76;go_wp2_with (go_at_call 40;refine HC.out.mono ?_;rintro e w1 ⟨v,rfl,hO1,hb1⟩;obtain⟨g,cap,rfl,hgB,hgl⟩:=hO1.form hcp);go_ret2;exact⟨rfl,hb1⟩
theorem zBc (s:ByteArray) (c:UInt8) (lo hi t:Nat) (w:World) (hs:s.size<=2000) (hlo:lo<=100) (hhi:hi<=100) (ht:t<=100000) (h1:lo<=(zAj c s).length) (h2:(zAj c s).length<=hi):
 Calls Tryz.prog 76 #[.string s,.int .u8 (c.toNat:Int),.int .i64 (lo:Int),.int .i64 (hi:Int),.int .i64 (t:Int)] w fun e w'=>
  (∀q,zBJ (zAj c s)=some q->∃v,e= .returned (.tuple #[v,.int .i64 0])/\w'.ownsRow w.heap.size 3 1 v (zAj c s).length (q.map (zPo t)))/\(zBJ (zAj c s)=none->e= .returned (.tuple #[.slice none 0 0,.int .i64 3]))/\Below w.heap.size w w':=by
 obtain⟨i0,hi0,hz0,hz1,hz2⟩:=zAi Tryz.infoI64;have HC:=hid (zBn s c w hs);have hcp:=zCM c s;have hcl:=zBq c s;have hps:∀p ∈ zAj c s,p.size<=2000:=fun p hp=>Nat.le_trans (zB1 c s p hp) hs
 obtain⟨ps,hcs⟩:∃cs,zAj c s=cs:=⟨_,rfl⟩;rw[hcs] at HC hcp hcl h1 h2 hps;rw[hcs];have HP:=hid hps;have h1':decide ((ps.length:Int)<(lo:Int))=false:=by simp;omega
 have h2':decide ((hi:Int)<(ps.length:Int))=false:=by simp;omega
 have h3':decide (ps.length<lo)=false:=by simp;omega
 have h4':decide (hi<ps.length)=false:=by simp;omega
 have hl100:ps.length<=100:=by omega
 clear hcs hps h1 h2;go_enter Tryz.func76,Tryz.ntmps76;go_wp2_with (go_at_call 40;refine HC.out.mono ?_;rintro e w1 ⟨v,rfl,hO1,hb1⟩;obtain⟨g,cap,rfl,hgB,hgl⟩:=hO1.form hcp;have HS:=hid (zC1 hO1);have HB1:=hid hb1;clear hO1 hb1);go_loopw [13,14] (fun v i wr=>∃(j:Nat) (q:List Nat),j<=ps.length/\i= .int .i64 j/\zBJ ps=(zBJ (ps.drop j)).map (fun r=>q++r)/\wr.ownsRow w1.heap.size 3 1 v j (q.map (zPo t))/\Below w1.heap.size w1 wr) (fun _ i _=>ps.length-(intOf i).toNat)
 case atStart=>exact⟨0,[],Nat.zero_le _,rfl,by simp,World.ownsRow_nil _ _ _ _,Below.refl _ _⟩
 case round=>
  obtain⟨j,q,hj,rfl,hq,hO,hB⟩:=hrel;have HQ:=hid hq;have HO:=hid hO;have HB:=hid hB;have hzz:w1.heap.size<=wr.heap.size:=hB.size;clear hq hO hB
  by_cases hlt:j<ps.length
  ·have c:=HS.out j hlt
   rw[Nat.zero_add,<-HB.out.cell (p:=⟨g,j,none⟩) hgl] at c;obtain⟨p,hp⟩:∃p,ps.getD j ByteArray.empty=p:=⟨_,rfl⟩;rw[hp] at c;have hd:ps.drop j=p::ps.drop (j+1):=by
    rw[List.drop_eq_getElem_cons hlt,<-hp,List.getD_eq_getElem?_getD,List.getElem?_eq_getElem hlt];rfl
   have hm:p ∈ ps:=by
    rw[<-hp,List.getD_eq_getElem?_getD,List.getElem?_eq_getElem hlt];exact List.getElem_mem hlt
   have hps:=HP.out p hm;have HD:=hid hd;have hgr:g<wr.heap.size:=by omega
   clear hp hd hm;cases hn:zAv p with
   |none=>
    have HN:=hid hn;have HCn:=hid (zC2 p t wr hps ht hn);clear hn;go_wp2_with (go_at_call 72;refine HCn.out.mono ?_;rintro e w' ⟨rfl,hw'⟩;obtain rfl:wr=w':=hw'.symm);go_ret2;have hz:zBJ ps=none:=by rw[HQ.out,HD.out,zDh _ HN.out];rfl
    exact⟨fun q' h'=>(by rw[hz] at h';cases h'),fun _=>rfl,HB1.out.trans (HB.out.mono HB1.out.size)⟩
   |some v=>
    have HN:=hid hn;have HCn:=hid (zCO p t v wr hps ht hn);clear hn;go_upto_region 11 with(go_at_call 72;refine HCn.out.mono ?_;rintro e w' ⟨rfl,hw'⟩;obtain rfl:wr=w':=hw'.symm)
    go_wp2_with (at_builtin;refine wpList_append_lies _ rfl _ _ 107 rfl w1.heap.size 3 i0 _ 1 8 Tryz.underlying107 hi0 hz0 hz1 hz2 rfl (by decide) u13 j (q.map (zPo t)) rfl (HO.out.alloc _) ⟨wr.heap.size,0,none⟩ 1 1 [zPo t v] rfl rfl (zBh wr _ _) (by simp[Value.oneCell',zPo]) (by decide) (by unfold maxLen;omega) (by omega) (by simp;omega) (wr.heap.size+1) (by simp) ?_;intro gg cap' w2 hown1 hgrow hat hlt1);have HO1:Hid (w2.ownsRow w1.heap.size 3 1 (.slice (some ⟨gg,0,none⟩) (j+1) cap') (j+1) ((q++[v]).map (zPo t))):=show World.ownsRow _ _ _ _ _ _ _ by
     rw[List.map_append];exact hown1
    have HB2:=hid (Below.grown (w:=wr.alloc (.cells #[zPo t v] 3)) (HB.out.alloc hzz _) hgrow (by simp;omega) (zAE HO.out));clear hown1 hgrow hat hlt1;go_wp2_with fail;go_roundw
    case rel=>exact⟨j+1,q++[v],by omega,by go_num,zLt HQ.out HD.out HN.out,HO1.out,HB2.out⟩
    case measure=>simp[intOf];omega
  ·have e:j=ps.length:=by omega
   subst e;go_wp2_with fail;go_ret2;have hz:zBJ ps=some q:=by rw[HQ.out,List.drop_length];simp[zBJ]
   refine⟨fun q' h'=>⟨_,rfl,?_⟩,fun h'=>(by rw[hz] at h';cases h'),HB1.out.trans (HB.out.mono HB1.out.size)⟩;rw[hz] at h'
   injection h' with h'
   rw[<-h'];exact zDm HO.out HB1.out.size
structure Ins where
 op:Int
 r:Int
 t:Int
 f:Int
 k:Int
def zAG (s:ByteArray) (i:Nat):Ins:=⟨nth s (8*i),nth s (8*i+1),nth s (8*i+2),nth s (8*i+3),zAB s (8*i+4) 4⟩
structure Ins.Bd (x:Ins):Prop where
 op:0<=x.op/\x.op<=255
 r:0<=x.r/\x.r<=255
 t:0<=x.t/\x.t<=255
 f:0<=x.f/\x.f<=255
 k:0<=x.k/\x.k<=4294967295
theorem zDC (s:ByteArray) (i:Nat):(zAG s i).Bd:=⟨zAN _ _,zAN _ _,zAN _ _,zAN _ _,zAt _ _ _ (by omega)⟩
def Ins.branch (x:Ins):Bool:=x.op == 8||x.op == 9||x.op == 10
def Ins.load (x:Ins):Bool:=x.op == 1||x.op == 2||x.op == 3
def Ins.uses (x:Ins):Bool:=x.op == 6||x.op == 7||x.branch
def Ins.fits (x:Ins):Bool:=
 decide (x.op<=11)&&decide (x.r<4)&&(x.branch||(x.t == 0&&x.f == 0))&&
  (if x.op=0 then x.r == 0&&decide (x.k<3) else if x.op=4 then decide (x.k<2) else if x.op=5 then x.k == 0 else if x.op=7 then decide (x.k<32) else if x.op=11 then x.r == 0 else true)
def Ins.wide (x:Ins):Int:=if x.op=1 then x.k+1 else if x.op=2 then x.k+2 else if x.op=3 then x.k+4 else 0
def Ins.overs (x:Ins):List Int:=if x.op=0 then[] else if x.op=11 then[x.k] else if x.branch then[x.t,x.f] else[0]
theorem Ins.overs_bd {x:Ins} (h:x.Bd):∀o ∈ x.overs,0<=o/\o<=4294967295:=by
 intro o ho;have:=h.t;have:=h.f;have:=h.k;unfold Ins.overs at ho
 split at ho
 ·simp at ho
 ·split at ho
  ·simp at ho;omega
  ·split at ho<;>simp at ho<;>omega
structure Fc where
 come:Bool
 set:List Bool
 long:List Bool
 there:Int
structure Fc.Ok (a:Fc):Prop where
 set:a.set.length=4
 long:a.long.length=4
 there:0<=a.there/\a.there<=4294967295
def fc0:Fc:=⟨false,[false,false,false,false],[false,false,false,false],0⟩
theorem zPd:fc0.Ok:=⟨rfl,rfl,by simp[fc0]⟩
def Fc.has (a:Fc) (x:Ins):Bool:=a.set.getD x.r.toNat false
def Fc.is (a:Fc) (x:Ins):Bool:=a.long.getD x.r.toNat false
def Fc.meet (a b:Fc):Fc:=
 if a.come then⟨true,List.zipWith (·&&·) a.set b.set,List.zipWith (·&&·) a.long b.long,if b.there<a.there then b.there else a.there⟩ else b
def Fc.behind (a:Fc) (x:Ins) (w:Nat):Fc:=
 if 1<=x.op/\x.op<=4 then⟨a.come,a.set.set x.r.toNat true,a.long.set x.r.toNat false,a.there⟩
 else if x.op=5 then⟨a.come,a.set.set x.r.toNat true,a.long.set x.r.toNat true,a.there⟩
 else if x.op=6\/x.op=7 then⟨a.come,a.set,a.long.set x.r.toNat false,a.there⟩
 else if x.op=8\/x.op=9 then⟨a.come,a.set,a.long,if w=0/\a.is x=true/\a.there<x.k then x.k else a.there⟩
 else a
theorem Fc.Ok.meet {a b:Fc} (ha:a.Ok) (hb:b.Ok):(a.meet b).Ok:=by
 unfold Fc.meet;have h1:=ha.set;have h2:=ha.long;have h3:=ha.there;have g1:=hb.set;have g2:=hb.long;have g3:=hb.there
 split
 ·exact⟨by simp[h1,g1],by simp[h2,g2],by dsimp only;split<;>omega⟩
 ·exact hb
theorem Fc.Ok.behind {a:Fc} {x:Ins} (ha:a.Ok) (hx:x.Bd) (w:Nat):(a.behind x w).Ok:=by
 have h1:=ha.set;have h2:=ha.long;have h3:=ha.there;have h4:=hx.k;unfold Fc.behind
 repeat' split
 all_goals first
  |exact ha
  |exact⟨by simp[h1],by simp[h2],by dsimp only;omega⟩
  |exact⟨h1,h2,by dsimp only;omega⟩
def zIn (F:List Fc) (a:Fc) (x:Ins) (i:Nat):Nat->List Int->List Fc
 |_,[]=>F
 |w,o::os=>zIn (F.set (i+1+o.toNat) ((F.getD (i+1+o.toNat) fc0).meet (a.behind x w))) a x i (w+1) os
def zAL (s:ByteArray) (n:Nat):Nat->List Fc
 |0=>(List.replicate n fc0).set 0 ⟨true,[false,false,false,false],[false,false,false,false],0⟩
 |i+1=>if((zAL s n i).getD i fc0).come then zIn (zAL s n i) ((zAL s n i).getD i fc0) (zAG s i) i 0 (zAG s i).overs else zAL s n i
def Fc.fault (a:Fc) (x:Ins):Int:=if x.uses&& !a.has x then 12 else if a.there<x.wide then 13 else 0
theorem zOD (F:List Fc) (a:Fc) (x:Ins) (i w:Nat) (os:List Int):(zIn F a x i w os).length=F.length:=by
 induction os generalizing F w with
 |nil=>rfl
 |cons o os ih=>rw[zIn,ih];simp
theorem zCk (s:ByteArray) (n i:Nat):(zAL s n i).length=n:=by
 induction i with
 |zero=>simp[zAL]
 |succ i ih=>rw[zAL];split<;>simp[zOD,ih]
theorem zL1 {F:List Fc} (h:∀a ∈ F,a.Ok) (j:Nat) {b:Fc} (hb:b.Ok):∀a ∈ F.set j b,a.Ok:=fun a ha=>by
 rcases List.mem_or_eq_of_mem_set ha with h1|h1
 ·exact h a h1
 ·subst h1;exact hb
theorem zIo {F:List Fc} (h:∀a ∈ F,a.Ok) (j:Nat):(F.getD j fc0).Ok:=by
 rw[List.getD_eq_getElem?_getD];cases e:F[j]? with
 |none=>exact zPd
 |some a=>exact h a (List.mem_of_getElem? e)
theorem zPp {F:List Fc} {a:Fc} {x:Ins} (hF:∀a ∈ F,a.Ok) (ha:a.Ok) (hx:x.Bd) (i w:Nat) (os:List Int):∀b ∈ zIn F a x i w os,b.Ok:=by
 induction os generalizing F w with
 |nil=>exact hF
 |cons o os ih=>exact ih (zL1 hF _ ((zIo hF _).meet (ha.behind hx _))) _
theorem zKa (s:ByteArray) (n i:Nat):∀a ∈ zAL s n i,a.Ok:=by
 induction i with
 |zero=>
  rw[zAL];refine zL1 (fun a ha=> ?_) _ ⟨rfl,rfl,by simp⟩;rw[List.mem_replicate] at ha;rw[ha.2];exact zPd
 |succ i ih=>
  rw[zAL];split
  ·exact zPp ih (zIo ih _) (zDC _ _) _ _ _
  ·exact ih
def zOE (s:ByteArray) (n i:Nat):Bool:=(zAG s i).overs.any fun o=>decide ((n:Int)<=i+1+o)
def zL2 (s:ByteArray) (n i:Nat):Fc:=(zAL s n i).getD i fc0
def zOF (s:ByteArray) (n i:Nat):Int:=if(zL2 s n i).come then(zL2 s n i).fault (zAG s i) else 0
structure zL3 (s:ByteArray) (n:Nat):Prop where
 size:s.size=8*n
 pos:1<=n
 most:n<=4096
structure zJn (s:ByteArray) (n:Nat):Prop extends zL3 s n where
 fits:∀i,i<n->(zAG s i).fits=true
structure zR2 (s:ByteArray) (n:Nat):Prop extends zJn s n where
 fine:∀i,i<n->zOE s n i=false
structure zR3 (s:ByteArray) (n:Nat):Prop extends zR2 s n where
 uses:∀i,i<n->zOF s n i=0
def zSO (s:ByteArray) (i:Nat):Prop:=
 ((∀n,¬zL3 s n)/\i=0)\/∃n,zL3 s n/\i<n/\(zAG s i).fits=false/\∀j,j<i->(zAG s j).fits=true
structure St where
 reg:List Int
 set:List Bool
structure St.Ok (a:St):Prop where
 reg:a.reg.length=4
 set:a.set.length=4
 bd:∀v ∈ a.reg,0<=v/\v<=4294967295
def st0:St:=⟨[0,0,0,0],[false,false,false,false]⟩
theorem zPe:st0.Ok:=⟨rfl,rfl,by simp[st0]⟩
def St.at (a:St) (x:Ins):Int:=a.reg.getD x.r.toNat 0
theorem St.Ok.at {a:St} (h:a.Ok) (x:Ins):0<=a.at x/\a.at x<=4294967295:=by
 unfold St.at;rw[List.getD_eq_getElem?_getD];cases e:a.reg[x.r.toNat]? with
 |none=>simp
 |some v=>exact h.bd v (List.mem_of_getElem? e)
def St.put (a:St) (x:Ins) (v:Int):St:=⟨a.reg.set x.r.toNat v,a.set.set x.r.toNat true⟩
def St.turn (a:St) (x:Ins) (v:Int):St:=⟨a.reg.set x.r.toNat v,a.set⟩
def St.trap (a:St) (d:ByteArray) (x:Ins):Int:=if x.uses&& !a.set.getD x.r.toNat false then 21 else if(d.size:Int)<x.wide then 22 else 0
def St.does (a:St) (d:ByteArray) (m:Int×Int) (x:Ins):St:=
 if x.op=1 then a.put x (zAB d x.k.toNat 1) else if x.op=2 then a.put x (zAB d x.k.toNat 2) else if x.op=3 then a.put x (zAB d x.k.toNat 4)
 else if x.op=4 then a.put x (if x.k=0 then m.1 else m.2)
 else if x.op=5 then a.put x d.size
 else if x.op=6 then a.turn x (((a.at x).toNat&&& x.k.toNat:Nat):Int)
 else if x.op=7 then a.turn x (a.at x / 2 ^ x.k.toNat)
 else a
def St.goes (a:St) (x:Ins):Bool:=if x.op=8 then a.at x == x.k else if x.op=9 then decide (x.k<=a.at x) else if x.op=10 then !(((a.at x).toNat&&& x.k.toNat) == 0) else false
def St.over (a:St) (x:Ins):Int:=if x.op=11 then x.k else if x.branch then(if a.goes x then x.t else x.f) else 0
theorem St.over_bd (a:St) {x:Ins} (h:x.Bd):0<=a.over x/\a.over x<=4294967295:=by
 have:=h.t;have:=h.f;have:=h.k;unfold St.over;repeat' split
 all_goals omega
theorem zJo {l:List Int} (h:∀v ∈ l,0<=v/\v<=4294967295) (i:Nat) {v:Int} (hv:0<=v/\v<=4294967295):∀u ∈ l.set i v,0<=u/\u<=4294967295:=fun u hu=>by
 rcases List.mem_or_eq_of_mem_set hu with h1|h1
 ·exact h u h1
 ·subst h1;exact hv
theorem St.Ok.put {a:St} (h:a.Ok) (x:Ins) {v:Int} (hv:0<=v/\v<=4294967295):(a.put x v).Ok:=
 ⟨by simp[St.put,h.reg],by simp[St.put,h.set],zJo h.bd _ hv⟩
theorem St.Ok.turn {a:St} (h:a.Ok) (x:Ins) {v:Int} (hv:0<=v/\v<=4294967295):(a.turn x v).Ok:=
 ⟨by simp[St.turn,h.reg],by simp[St.turn,h.set],zJo h.bd _ hv⟩
theorem St.Ok.does {a:St} (h:a.Ok) {d:ByteArray} {m:Int×Int} (hd:d.size<=4294967295) (h1:0<=m.1/\m.1<=4294967295) (h2:0<=m.2/\m.2<=4294967295) (x:Ins):(a.does d m x).Ok:=by
 have hat:=h.at x;unfold St.does
 repeat' split
 ·exact h.put x (zAt _ _ _ (by omega))
 ·exact h.put x (zAt _ _ _ (by omega))
 ·exact h.put x (zAt _ _ _ (by omega))
 ·exact h.put x h1
 ·exact h.put x h2
 ·exact h.put x (by omega)
 ·refine h.turn x ⟨by omega,?_⟩
  have:(a.at x).toNat&&& x.k.toNat<=(a.at x).toNat:=Nat.and_le_left;omega
 ·refine h.turn x ⟨Int.ediv_nonneg hat.1 (Int.pow_nonneg (by omega)),?_⟩
  exact Int.le_trans (Int.ediv_le_self _ hat.1) hat.2
 ·exact h
def zOG (s:ByteArray) (n:Nat) (d:ByteArray) (m:Int×Int):Nat->Nat->Nat->St->Int->Nat->Int->Prop
 |0,i,c,_,v,z,k=>n<=i/\v=0/\z=c/\k=23
 |q+1,i,c,a,v,z,k=>(n<=i/\v=0/\z=c/\k=23)\/(i<n/\(zAG s i).op=0/\v=(zAG s i).k/\z=c+1/\k=0)\/
   (i<n/\(zAG s i).op≠0/\a.trap d (zAG s i)≠0/\v=0/\z=c+1/\k=a.trap d (zAG s i))\/
   (i<n/\(zAG s i).op≠0/\a.trap d (zAG s i)=0/\zOG s n d m q (i+1+(a.over (zAG s i)).toNat) (c+1) (a.does d m (zAG s i)) v z k)
def zHV (s:ByteArray) (n:Nat) (d:ByteArray) (m:Int×Int) (i c:Nat) (a:St) (v:Int) (z:Nat) (k:Int):Prop:=∃q,zOG s n d m q i c a v z k
theorem zHV.out {s:ByteArray} {n:Nat} {d:ByteArray} {m:Int×Int} {i c:Nat} {a:St} {v:Int} {z:Nat} {k:Int} (h:zHV s n d m i c a v z k):
 (n<=i/\v=0/\z=c/\k=23)\/(i<n/\(zAG s i).op=0/\v=(zAG s i).k/\z=c+1/\k=0)\/
   (i<n/\(zAG s i).op≠0/\a.trap d (zAG s i)≠0/\v=0/\z=c+1/\k=a.trap d (zAG s i))\/
   (i<n/\(zAG s i).op≠0/\a.trap d (zAG s i)=0/\zHV s n d m (i+1+(a.over (zAG s i)).toNat) (c+1) (a.does d m (zAG s i)) v z k):=by
 obtain⟨q,h⟩:=h;cases q with
 |zero=>exact .inl h
 |succ q=>
  rcases h with h|h|h|⟨h1,h2,h3,h4⟩
  ·exact .inl h
  ·exact .inr (.inl h)
  ·exact .inr (.inr (.inl h))
  ·exact .inr (.inr (.inr ⟨h1,h2,h3,q,h4⟩))
theorem zIp (s:ByteArray) (n:Nat) (d:ByteArray) (m:Int×Int) (q:Nat):∀(i c:Nat) (a:St),n<=i+q->∃v z k,zOG s n d m q i c a v z k:=by
 induction q with
 |zero=>exact fun i c a h=>⟨_,_,_,by omega,rfl,rfl,rfl⟩
 |succ q ih=>
  intro i c a h
  by_cases hi:i<n
  ·by_cases ho:(zAG s i).op=0
   ·exact⟨_,_,_,.inr (.inl ⟨hi,ho,rfl,rfl,rfl⟩)⟩
   ·by_cases ht:a.trap d (zAG s i)=0
    ·obtain⟨v,z,k,g⟩:=ih (i+1+(a.over (zAG s i)).toNat) (c+1) (a.does d m (zAG s i)) (by omega)
     exact⟨v,z,k,.inr (.inr (.inr ⟨hi,ho,ht,g⟩))⟩
    ·exact⟨_,_,_,.inr (.inr (.inl ⟨hi,ho,ht,rfl,rfl,rfl⟩))⟩
  ·exact⟨_,_,_,.inl ⟨by omega,rfl,rfl,rfl⟩⟩
theorem zKb (s:ByteArray) (n:Nat) (d:ByteArray) (m:Int×Int) (q:Nat) (i c:Nat) (a:St) (h:n<=i+q):∃v z k,zHV s n d m i c a v z k:=by
 obtain⟨v,z,k,g⟩:=zIp s n d m q i c a h;exact⟨v,z,k,q,g⟩
theorem zDn {P:Program} (t e:TypeId) (zs:Array Value) (size bytes:Nat) (ht:P.underlying t=some (.slice e)) (hinfo:(P.info? e).map (fun i=>(i.zero,i.size,i.bytes))=some (some (.agg zs),size,bytes))
 (kl kc:IntKind) (n:Nat) (hbytes:bytes*n<=281474976710656) (h63:n<=9223372036854775807) (w:World):
 (Instr.makeSlice t (.int kl (n:Int)) (.int kc (n:Int))).run P w= .ok (.slice (some ⟨w.heap.size,0,none⟩) n n) (w.alloc (.cells (madeCells zs (n*size)) e)):=by
 obtain⟨i,hi,hzz⟩:=Option.map_eq_some_iff.1 hinfo;simp only[Prod.mk.injEq] at hzz;obtain⟨hz,hs,hb⟩:=hzz;have h:=run_make (P:=P) w t e i (.agg zs) ht hi hz kl kc n n (by omega) (by omega) (by rw[hb];omega) (by omega);rw[Int.toNat_natCast,hs] at h;exact h
theorem zB3 {α:Type} (l:List α) (j:Nat) (x d:α) (h:j<l.length):(l.set j x).getD j d=x:=by
 simp[List.getD_eq_getElem?_getD,h]
theorem zCl {α:Type} (l:List α) (i j:Nat) (x d:α) (h:i≠j):(l.set i x).getD j d=l.getD j d:=by
 simp[List.getD_eq_getElem?_getD,List.getElem?_set,h]
theorem zAZ (w:World) (g i j:Nat) (v:Value) (h:i≠j):(w.setCell ⟨g,i,none⟩ v).cell? ⟨g,j,none⟩=w.cell? ⟨g,j,none⟩:=
 World.cell?_setCell_other _ _ _ _ (by intro e;apply h;cases e;rfl)
theorem zD9 (w:World) (a b:Addr) (v:Value):(w.setCell a v).frozen? b=w.frozen? b:=by simp
theorem zBD (w:World) (a:Addr) (v:Value) {u:Value} (h:w.cell? a=some u):(w.setCell a v).cell? a=some v:=World.cell?_setCell_same _ _ _ h
theorem Tch.drew {g:Nat} {a w:World} (h:Tch g a w):Tch g a w.drew:=⟨h.os,h.tape,h.output,h.size,h.block⟩
end Go.Proofs.YtclpnafiiobfhaaGreatDoor

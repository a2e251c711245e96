import Derived.Test.YtclpnafiiobfhaaGreatDoorQ12
import Derived.Test.YtclpnafiiobfhaaGreatDoorQ08
set_option linter.unusedVariables false
set_option linter.unusedSimpArgs false
set_option maxHeartbeats 6400000
set_option maxRecDepth 100000
namespace Go.Proofs.YtclpnafiiobfhaaGreatDoor
open Go.RowKit
def zBU (w:World):Prop:=w.cell? ⟨0,0,none⟩=some (.iface 207 (.agg #[.pointer (some ⟨7,52,none⟩)]))
theorem zBU.pos {w:World} (h:zBU w):0<w.heap.size:=by
 unfold zBU at h;rcases Nat.lt_or_ge 0 w.heap.size with h1|h1
 ·exact h1
 ·simp[World.cell?,Array.getElem?_eq_none h1] at h
theorem zBU.alloc {w:World} (h:zBU w) (o:Obj):zBU (w.alloc o):=by
 show(w.alloc o).cell? ⟨0,0,none⟩=_
 rw[World.cell?_alloc_lt _ _ ⟨0,0,none⟩ h.pos];exact h
theorem zBU.below {w w':World} (h:zBU w) (hw:Below w.heap.size w w'):zBU w':=by
 show w'.cell? ⟨0,0,none⟩=_
 rw[hw.cell (p:=⟨0,0,none⟩) h.pos];exact h
theorem zGp (w:World):
 Calls Tryz.prog 19 #[.nilIface] w fun e w'=>e= .returned (.tuple #[.int .i64 0,.int .i64 0])/\Below w.heap.size w w':=by
 go_enter Tryz.func19,Tryz.ntmps19;go_wp2_with (go_at_call 39;refine(zMR _ _).mono ?_;rintro e w' ⟨rfl,rfl⟩);go_ret2;refine⟨rfl,?_⟩;exact((bal _ _).alloc (by simp) _).alloc (by simp;omega) _
theorem zHi (k:Int) (w:World) (hL:zBU w):
 Calls Tryz.prog 19 #[.iface 22 (.int .i64 k)] w fun e w'=>e= .returned (.tuple #[.int .i64 k,.int .i64 0])/\Below w.heap.size w w':=by
 have HL:Hid (zBU w):=hL;clear hL;go_enter Tryz.func19,Tryz.ntmps19;go_wp2_with fail;refine(zMW k _ _ ?_).mono ?_
 ·(show zBU _;repeat (with_reducible first|exact HL.out|refine zBU.alloc ?_ _))
 rintro e w1 ⟨rfl,rfl⟩;go_wp2_with fail;refine(zMX k _ _ ?_).mono ?_
 ·(show zBU _;repeat (with_reducible first|exact HL.out|refine zBU.alloc ?_ _))
 rintro e w1 ⟨rfl,rfl⟩;go_wp2_with fail;refine(zMV k _ _ ?_ (.int .i64 0) ?_ ?_).mono ?_
 ·(show zBU _;repeat (with_reducible first|exact HL.out|refine zBU.alloc ?_ _))
 ·rw[World.cell?_alloc_at _ _ _ _ (by simp)];rfl
 ·exact World.frozen?_alloc_at _ _ _ _ (by simp)
 rintro e w1 ⟨rfl,rfl⟩;go_wp2;go_ret2;refine⟨rfl,?_⟩
 repeat (with_reducible first|exact Below.refl _ _|refine below_drewN ?_ _|refine Below.drew ?_|refine Below.setCell ?_ (by first|(simp;done)|(simp;omega)) _|refine Below.alloc ?_ (by first|(simp;done)|(simp;omega)) _)
theorem zMY (b:Nat) (k l:Int) (w:World) (hL:zBU w) (hb:b<w.heap.size) (h0:w.cell? ⟨b,0,none⟩=some (.int .i64 l)) (h1:w.cell? ⟨b,1,none⟩=some (.int .i64 k)):
 Calls Tryz.prog 19 #[.iface 91 (.pointer (some ⟨b,0,none⟩))] w fun e w'=>e= .returned (.tuple #[.int .i64 k,.int .i64 l])/\Below w.heap.size w w':=by
 have HL:Hid (zBU w):=hL;clear hL;have n0:b≠w.heap.size:=by omega
 have n1:b≠w.heap.size+1:=by omega
 have n2:b≠w.heap.size+1+1:=by omega
 have n3:b≠w.heap.size+1+1+1:=by omega
 have n4:b≠w.heap.size+1+1+1+1:=by omega
 go_enter Tryz.func19,Tryz.ntmps19;go_wp2_with fail;refine(zQE ⟨b,0,none⟩ _ _ ?_ (.pointer none) ?_ ?_).mono ?_
 ·(show zBU _;repeat (with_reducible first|exact HL.out|refine zBU.alloc ?_ _))
 ·simp
 ·simp
 rintro e w1 ⟨rfl,hw1⟩;have hB:Below w.heap.size w w1:=by
  rw[hw1]
  repeat (with_reducible first|exact Below.refl _ _|refine below_drewN ?_ _|refine Below.drew ?_|refine Below.setCell ?_ (by first|(simp;done)|(simp;omega)) _|refine Below.alloc ?_ (by first|(simp;done)|(simp;omega)) _)
 have hc:w1.cell? ⟨w.heap.size,0,none⟩=some (.pointer (some ⟨b,0,none⟩)):=by
  rw[hw1];refine World.cell?_setCell_same _ _ _ (u:= .pointer none) ?_;rw[Below.cell (B:=w.heap.size+1) (w:=w.alloc (.cells #[.pointer none] 91)) (p:=⟨w.heap.size,0,none⟩) ?_ (by simp)]
  ·rw[World.cell?_alloc_at _ _ _ _ (by simp)];rfl
  ·repeat (with_reducible first|exact Below.refl _ _|refine below_drewN ?_ _|refine Below.drew ?_|refine Below.setCell ?_ (by first|(simp;done)|(simp;omega)) _|refine Below.alloc ?_ (by first|(simp;done)|(simp;omega)) _)
 have g0:w1.cell? ⟨b,0,none⟩=some (.int .i64 l):=by rw[hB.cell (p:=⟨b,0,none⟩) hb];exact h0
 have g1:w1.cell? ⟨b,1,none⟩=some (.int .i64 k):=by rw[hB.cell (p:=⟨b,1,none⟩) hb];exact h1
 clear hw1 h0 h1 n0 n1 n2 n3 n4 hb;go_wp2;go_quiet (fail);go_wp2;go_ret2;exact⟨rfl,below_drewN hB _⟩
theorem zR5 {x:ByteArray} {l:List UInt8} (h:x=⟨l.toArray⟩):(x.toList == l)=true:=by
 subst h;rw[ByteArray.toList_eq];simp
theorem zFr (B K:Nat) (b:Bk) (rv:Value) (ps:List ByteArray) (pb off cap:Nat) (w:World) (hK:zBM w B K b rv) (hp:1<=ps.length) (hpl:ps.length<=3000) (hb:pb<w.heap.size) (hS:zB2 w pb off ps):
 Calls Tryz.prog 119 #[.pointer (some ⟨K,0,none⟩),.slice (some ⟨pb,off,none⟩) ps.length cap] w fun e w'=>
  (zAW ps<0->e= .returned (.iface 22 (.int .i64 3))/\zBM w' B K b rv)/\(0<=zAW ps->e= .returned .nilIface/\zBM w' B K ⟨true,(zAW ps).toNat,b.rs⟩ rv)/\Chg B K w w':=by
 have c0:=hS 0 (by omega);rw[Nat.add_zero] at c0;obtain⟨p0,hp0⟩:∃p,ps.getD 0 ByteArray.empty=p:=⟨_,rfl⟩;rw[hp0] at c0;have HP0:=hid hp0;have HK:=hid hK;have HS:=hid hS;have hKl:K<B:=hK.lt;have hBl:=hK.le;have l0:(0:Int)<(ps.length:Int):=by omega
 clear hS hK hp0
 by_cases h2:ps.length=2
 ·have h2':((ps.length:Int) !=2)=false:=by rw[h2];rfl
  by_cases hpw:p0=zRy
  ·have e0:(p0.toList == [112,111,108,105,99,121])=true:=zR5 hpw
   have c1:=HS.out 1 (by omega);obtain⟨p1,hp1⟩:∃p,ps.getD 1 ByteArray.empty=p:=⟨_,rfl⟩;rw[hp1] at c1;have HPO:Hid (zAW ps=plc vws p1):=show zAW ps=plc vws p1 by
    unfold zAW;rw[if_pos ⟨h2,by rw[HP0.out];exact hpw⟩,hp1]
   have HV:=hid (zC4 p1 w);have hlt:=zCy vws p1;have e3:vws.length=3:=rfl;rw[e3] at hlt;have l1:(1:Int)<(ps.length:Int):=by omega
   clear hp1 hpw e3;rw[h2] at*
   by_cases hn:plc vws p1<0
   ·go_enter Tryz.func119,Tryz.ntmps119
    go_wp2_with (go_at_call 138;refine HV.out.mono ?_;rintro e w1 ⟨h1,h2,hb1⟩;obtain rfl:=h2 hn;clear h1 h2);go_ret;rw[HPO.out];exact⟨fun _=>⟨rfl,HK.out.below hb1⟩,fun q=>absurd q (by omega),Chg.of (hb1.mono hBl)⟩
   ·have hn':0<=plc vws p1:=by omega
    clear hn;go_enter Tryz.func119,Tryz.ntmps119;go_wp2_with (go_at_call 138;refine HV.out.mono ?_;rintro e w1 ⟨h1,h2,hb1⟩;obtain rfl:=h1 hn';clear h1 h2;have HK1:=hid (HK.out.below hb1);have k0:=HK1.out.c0;have k1:=HK1.out.c1;have f0:=HK1.out.f 0;have f1:=HK1.out.f 1);go_ret;rw[HPO.out];obtain⟨v,hv⟩:∃v:Nat,plc vws p1=v:=⟨(plc vws p1).toNat,by omega⟩;rw[hv,Int.toNat_natCast];refine⟨fun q=>absurd q (by omega),fun _=>⟨rfl,?_⟩,((Chg.of (hb1.mono hBl)).set _ _).set _ _⟩;have hK1:K<w1.heap.size:=Nat.lt_of_lt_of_le HK1.out.lt HK1.out.le;refine⟨?_,?_,?_,?_,fun i=>by simp[HK1.out.f],HK1.out.lt,by simp[World.setCell];exact HK1.out.le⟩
    ·rw[World.cell?_setCell_other _ _ _ _ (by simp)]
     exact World.cell?_setCell_same _ _ _ k0
    ·exact World.cell?_setCell_same _ _ _ (by rw[World.cell?_setCell_other _ _ _ _ (by simp)];exact k1)
    ·rw[World.cell?_setCell_other _ _ _ _ (by simp),World.cell?_setCell_other _ _ _ _ (by simp)]
     exact HK1.out.c2
    ·refine zAS HK1.out.own (fun g hg=> ?_)
     have hgB:=(HK1.out.own.lt g hg).1;rw[Below.heap_setCell _ _ _ _ (by show g≠K;omega),Below.heap_setCell _ _ _ _ (by show g≠K;omega)]
  ·have e0:(p0.toList == [112,111,108,105,99,121])=false:=zLv (l:=[112,111,108,105,99,121]) hpw
   have HPO:Hid (zAW ps= -1):=show zAW ps= -1 by
    unfold zAW;rw[if_neg (fun q=>hpw (by rw[<-HP0.out];exact q.2))]
   clear hpw;rw[h2] at*;go_enter Tryz.func119,Tryz.ntmps119;go_wp2_with fail;go_ret;rw[HPO.out];exact⟨fun _=>⟨rfl,HK.out⟩,fun q=>absurd q (by omega),Chg.refl _ _ _⟩
 ·have h2':((ps.length:Int) !=2)=true:=by rw[bne_iff_ne];omega
  have HPO:Hid (zAW ps= -1):=show zAW ps= -1 by
   unfold zAW;rw[if_neg (fun q=>h2 q.1)]
  clear h2;go_enter Tryz.func119,Tryz.ntmps119;go_wp2_with fail;go_ret;rw[HPO.out];exact⟨fun _=>⟨rfl,HK.out⟩,fun q=>absurd q (by omega),Chg.refl _ _ _⟩
def zGB (W:World) (pb:Nat) (x:Value) (l:List ByteArray):Prop:=∃o c,x= .slice (some ⟨pb,o,none⟩) l.length c/\l.length<=c/\c<=9223372036854775807/\zB2 W pb o l
theorem zGB.cut {W:World} {pb:Nat} {l:List ByteArray} {o c:Nat} (hl:l.length<=c) (hS:zB2 W pb o l) (k o':Nat) (hk:k<=l.length) (ho:k<c->o'=o+k) (hc:c<=9223372036854775807):zGB W pb (.slice (some ⟨pb,o',none⟩) (l.length-k) (c-k)) (l.drop k):=by
 refine⟨o',c-k,by rw[List.length_drop],by rw[List.length_drop];omega,by omega,fun j hj=> ?_⟩;rw[List.length_drop] at hj;rw[ho (by omega)];exact hS.drop k j (by rw[List.length_drop];exact hj)
theorem zB2.tch {w w':World} {b off g:Nat} {ps:List ByteArray} (h:zB2 w b off ps) (hw:Tch g w w') (hb:b<w.heap.size) (hg:b≠g):zB2 w' b off ps:=fun j hj=>by
 rw[hw.cell (p:=⟨b,off+j,none⟩) hb hg];exact h j hj
theorem zMZ (ps:List ByteArray) (cs:Cs) (h:cs.length=8):(zBQ ps cs).2.length=8:=by
 unfold zBQ
 split
 ·exact h
 ·split
  ·exact h
  ·split
   ·exact h
   ·rw[List.length_set];exact h
theorem zMa (ps:List ByteArray) (cs:Cs) (h:(zBQ ps cs).1=0):2<=ps.length:=by
 unfold zBQ at h
 split at h
 ·cases h
 ·rename_i hn
  have:¬ps.length<2:=fun q=>hn (Or.inr q)
  omega
def zRb:Value->Nat
 | .slice _ n _=>n
 |_=>0
theorem zBx.tch {g:Nat} {w w':World} (h:zBx w) (hw:Tch g w w') (hg:1≠g):zBx w':=by
 have hp:=h.pos;obtain⟨m,h⟩:=h;exact⟨m,by rw[hw.cell (p:=⟨1,0,none⟩) hp hg];exact h⟩
theorem zI3 (w:World) (a b:Addr) (v:Value):(w.setCell a v).frozen? b=w.frozen? b:=by simp
theorem zHj (B K:Nat) (b:Bk) (rv:Value) (ps:List ByteArray) (pb off cap:Nat) (w:World) (hK:zBM w B K b rv) (hp:1<=ps.length) (hpl:ps.length<=3000) (hps:∀p ∈ ps,p.size<=2000) (hpc:ps.length<=cap) (hpm:cap<=maxLen) (hb:pb<w.heap.size) (hpB:B<=pb) (hS:zB2 w pb off ps) (hm:zBx w) (hbl:b.rs.length<=48):
 Calls Tryz.prog 120 #[.pointer (some ⟨K,0,none⟩),.slice (some ⟨pb,off,none⟩) ps.length cap] w fun e w'=>
  ((zAT ps b.rs.length).1≠0->e= .returned (.iface 22 (.int .i64 ((zAT ps b.rs.length).1:Int))))/\((zAT ps b.rs.length).1=0->e= .returned .nilIface/\∃rv',zBM w' B K ⟨b.has,b.pol,b.rs++[(zAT ps b.rs.length).2]⟩ rv')/\Chg B K w w':=by
 have c0:=hS 0 (by omega)
 rw[Nat.add_zero] at c0
 obtain⟨p0,hp0⟩:∃p,ps.getD 0 ByteArray.empty=p:=⟨_,rfl⟩
 rw[hp0] at c0
 have HP0:Hid (ps.getD 0 ByteArray.empty=p0):=hp0
 have HK:Hid (zBM w B K b rv):=hK
 have HS:Hid (zB2 w pb off ps):=hS
 have HPS:Hid (∀p ∈ ps,p.size<=2000):=hps
 have HM:Hid (zBx w):=hm
 have hKl:K<B:=hK.lt
 have hBl:=hK.le
 have l0:(0:Int)<(ps.length:Int):=by omega
 have HV:Hid (Calls _ _ _ w _):=zC4 p0 w
 have hlt:=zCy vws p0
 have e3:vws.length=3:=rfl
 rw[e3] at hlt
 unfold maxLen at hpm
 clear hS hK hp0 e3 hm hps
 by_cases hn:plc vws p0<0
 ·have HE:Hid (zAT ps b.rs.length=(3,⟨0,zAq⟩)):=show _=_ by unfold zAT;rw[HP0.out,if_pos hn]
  go_enter Tryz.func120,Tryz.ntmps120
  go_wp2_with (go_at_call 138;refine HV.out.mono ?_;rintro e w1 ⟨h1,h2,hb1⟩;obtain rfl:=h2 hn;clear h1 h2)
  go_ret
  rw[HE.out]
  exact⟨fun _=>rfl,fun q=>absurd q (by decide),Chg.of (hb1.mono hBl)⟩
 obtain⟨v,hv⟩:∃v:Nat,plc vws p0=v:=⟨(plc vws p0).toNat,by omega⟩
 have HPV:Hid (plc vws p0=v):=hv
 have hn':0<=plc vws p0:=by omega
 by_cases h48:b.rs.length=48
 ·have HE:Hid (zAT ps b.rs.length=(4,⟨0,zAq⟩)):=show _=_ by unfold zAT;rw[HP0.out,if_neg hn,if_pos (by omega)]
  go_enter Tryz.func120,Tryz.ntmps120
  go_wp2_with (go_at_call 138;refine HV.out.mono ?_;rintro e w1 ⟨h1,h2,hb1⟩;obtain rfl:=h1 hn';clear h1 h2;have HK1:Hid (zBM w1 B K b rv):=HK.out.below hb1;obtain⟨rp,rc,hrv⟩:=HK1.out.form;rw[h48] at hrv;have k2:=HK1.out.c2;rw[hrv] at k2;clear hrv)
  go_ret
  rw[HE.out]
  exact⟨fun _=>rfl,fun q=>absurd q (by decide),Chg.of (hb1.mono hBl)⟩
 have h48':(((b.rs.length:Nat):Int) == 48)=false:=by rw[beq_eq_false_iff_ne];omega
 obtain⟨o1,ho1,hsl1⟩:=zGA 1 pb off ps.length cap 1 rfl hp hpc hpm
 have HO1:Hid (1<cap->o1=off+1):=ho1
 have hv3:v<3:=by omega
 have HRO:Hid (zAT ps b.rs.length=if(zAy ps.tail zAq).1≠0 then((zAy ps.tail zAq).1,⟨0,zAq⟩) else if zBP (zAy ps.tail zAq).2 then(7,⟨0,zAq⟩) else(0,⟨v,(zAy ps.tail zAq).2⟩)):=show _=_ by
  unfold zAT;rw[HP0.out,if_neg hn,if_neg (by omega),HPV.out,Int.toNat_natCast]
 clear hn ho1 hlt
 go_enter Tryz.func120,Tryz.ntmps120
 go_upto_region 6 with(go_at_call 138;refine HV.out.mono ?_;rintro e w1 ⟨h1,h2,hb1⟩;obtain rfl:=h1 hn';clear h1 h2;have HB1:Hid (Below w.heap.size w w1):=hb1;have HK1:Hid (zBM w1 B K b rv):=HK.out.below hb1;obtain⟨rp,rc,hrv⟩:=HK1.out.form;have HRV:Hid (rv= .slice rp b.rs.length rc):=hrv;have k2:=HK1.out.c2;rw[hrv] at k2;have hz1:w.heap.size<=w1.heap.size:=hb1.size;clear hrv hb1)
 clear hv
 go_wp2_with fail
 have R0:zBz (w1.alloc (.cells #[.int .u8 (v:Int),.nilIface,.nilIface,.nilIface,.nilIface,.nilIface,.nilIface,.nilIface,.nilIface] 151)) w1.heap.size v zAq:=by
  refine⟨by rw[World.cell?_alloc_at _ _ _ _ rfl];rfl,fun c hc=> ?_,fun i=>World.frozen?_alloc_at _ _ _ _ rfl,by simp⟩
  rw[World.cell?_alloc_at _ _ _ _ rfl]
  rcases c with _|_|_|_|_|_|_|_|c<;>first|rfl|omega
 have S0:zB2 (w1.alloc (.cells #[.int .u8 (v:Int),.nilIface,.nilIface,.nilIface,.nilIface,.nilIface,.nilIface,.nilIface,.nilIface] 151)) pb off ps:=(HS.out.below HB1.out hb).below ((Below.refl _ w1).alloc (Nat.le_refl _) _) (by omega)
 have HR0:Hid (zBz (w1.alloc (.cells #[.int .u8 (v:Int),.nilIface,.nilIface,.nilIface,.nilIface,.nilIface,.nilIface,.nilIface,.nilIface] 151)) w1.heap.size v zAq):=R0
 have HS0:Hid (zGB (w1.alloc (.cells #[.int .u8 (v:Int),.nilIface,.nilIface,.nilIface,.nilIface,.nilIface,.nilIface,.nilIface,.nilIface] 151)) pb (.slice (some ⟨pb,o1,none⟩) (ps.length-1) (cap-1)) (ps.drop 1)):=zGB.cut hpc S0 1 o1 hp HO1.out hpm
 clear R0 S0
 obtain⟨W6,hW6⟩:∃W6,w1.alloc (.cells #[.int .u8 (v:Int),.nilIface,.nilIface,.nilIface,.nilIface,.nilIface,.nilIface,.nilIface,.nilIface] 151)=W6:=⟨_,rfl⟩
 have hz6:W6.heap.size=w1.heap.size+1:=by rw[<-hW6];simp
 have HB6:Hid (Below w1.heap.size w1 W6):=show Below w1.heap.size w1 W6 by rw[<-hW6];exact(Below.refl _ w1).alloc (Nat.le_refl _) _
 rw[hW6] at HR0 HS0
 rw[hW6]
 clear hW6
 have HK6:Hid (zBM W6 B K b rv):=HK1.out.below HB6.out
 have HM6:Hid (zBx W6):=(HM.out.below HB1.out).below HB6.out
 have hmx:=(HM.out.below HB1.out).pos
 have hg1:rv.ownBlock≠some w1.heap.size:=fun q=>by have:=(HK1.out.own.lt _ q).2;omega
 have HG1:Hid (rv.ownBlock≠some w1.heap.size):=hg1
 have HPT:Hid (ps.tail=ps.drop 1):=List.drop_one.symm
 have HCH:Hid (Chg B K w W6):=(Chg.of (HB1.out.mono hBl)).trans (Chg.of (HB6.out.mono (by omega)))
 clear hg1 hsl1 k2
 go_loopw [8] (fun x wr=>∃(l:List ByteArray) (cs:Cs),zGB wr pb x l/\zAy ps.tail zAq=zAy l cs/\cs.length=8/\(∀p ∈ l,p.size<=2000)/\l.length<=3000/\zBz wr w1.heap.size v cs/\Tch w1.heap.size W6 wr) (fun x _=>zRb x)
 case atStart=>exact⟨ps.drop 1,zAq,HS0.out,by rw[HPT.out],rfl,fun p hp=>HPS.out p (List.mem_of_mem_drop hp),by rw[List.length_drop];omega,HR0.out,Tch.refl _ _⟩
 case round=>
  obtain⟨l,cs,⟨o,c,rfl,hlc,hc63,hSr⟩,hcd,hl8,hsz,hll,hRr,hT⟩:=hrel
  have HCD:Hid (zAy ps.tail zAq=zAy l cs):=hcd
  have HRr:Hid (zBz wr w1.heap.size v cs):=hRr
  have HT:Hid (Tch w1.heap.size W6 wr):=hT
  have HSr:Hid (zB2 wr pb o l):=hSr
  have HSZ:Hid (∀p ∈ l,p.size<=2000):=hsz
  have hzr:W6.heap.size<=wr.heap.size:=hT.size
  have HCHr:Hid (Chg B K w wr):=HCH.out.trans (Chg.of ⟨hT.os,hT.tape,hT.output,hT.size,fun k hk=>hT.block k (by omega) (by omega)⟩)
  clear hcd hRr hT hSr hsz
  by_cases hne:l=[]
  ·subst hne
   have HC0:Hid (zAy ps.tail zAq=(0,cs)):=show _=_ by rw[HCD.out];rfl
   have HKr:Hid (zBM wr B K b rv):=HK6.out.tch HT.out (by omega) HG1.out
   obtain⟨r0,rcc,rf,rlt⟩:=HRr.out
   have r1:=rcc 0 (by omega)
   have r2:=rcc 1 (by omega)
   have r3:=rcc 2 (by omega)
   have r4:=rcc 3 (by omega)
   have r5:=rcc 4 (by omega)
   have r6:=rcc 5 (by omega)
   have r7:=rcc 6 (by omega)
   have r8:=rcc 7 (by omega)
   simp only[Nat.reduceAdd] at r1 r2 r3 r4 r5 r6 r7 r8
   have hLk:=zMM v cs wr
   unfold zHf at hLk
   have HLk:Hid (Calls _ _ _ wr _):=hLk
   clear hLk rcc
   cases hmis:zBP cs with
   |true=>
    have HE:Hid (zAT ps b.rs.length=(7,⟨0,zAq⟩)):=show _=_ by rw[HRO.out,HC0.out,if_neg (fun q=>q rfl),if_pos hmis]
    rw[hmis] at HLk
    go_wp2_with (go_at_call 140;refine HLk.out.mono ?_;rintro e w2 ⟨rfl,hb2⟩)
    go_ret
    rw[HE.out]
    exact⟨fun _=>rfl,fun q=>absurd q (by decide),HCHr.out.trans (Chg.of (hb2.mono (by omega)))⟩
   |false=>
    have HE:Hid (zAT ps b.rs.length=(0,⟨v,cs⟩)):=show _=_ by rw[HRO.out,HC0.out,if_neg (fun q=>q rfl),if_neg (by rw[hmis];decide)]
    rw[hmis] at HLk
    clear hmis
    go_upto_region 15 with(go_at_call 140;refine HLk.out.mono ?_;rintro e w2 ⟨rfl,hb2⟩)
    have HB2:Hid (Below wr.heap.size wr w2):=hb2
    have hz2:wr.heap.size<=w2.heap.size:=hb2.size
    have HK2:Hid (zBM w2 B K b rv):=HKr.out.below hb2
    have HR2:Hid (zBz w2 w1.heap.size v cs):=HRr.out.below hb2 rlt
    clear r0 r1 r2 r3 r4 r5 r6 r7 r8 rf HLk hb2
    obtain⟨r0,rcc,rf,rlt2⟩:=HR2.out
    have r1:=rcc 0 (by omega)
    have r2:=rcc 1 (by omega)
    have r3:=rcc 2 (by omega)
    have r4:=rcc 3 (by omega)
    have r5:=rcc 4 (by omega)
    have r6:=rcc 5 (by omega)
    have r7:=rcc 6 (by omega)
    have r8:=rcc 7 (by omega)
    simp only[Nat.reduceAdd] at r1 r2 r3 r4 r5 r6 r7 r8
    have k2:=HK2.out.c2
    rw[HRV.out] at k2
    have HOW:Hid (w2.ownsRow B 151 9 (.slice rp b.rs.length rc) b.rs.length (zAp b.rs)):=show World.ownsRow _ _ _ _ _ _ _ by have:=HK2.out.own;rw[HRV.out] at this;exact this
    have HRC:Hid (zBs ⟨v,cs⟩=[.int .u8 (v:Int),zAA cs 0,zAA cs 1,zAA cs 2,zAA cs 3,zAA cs 4,zAA cs 5,zAA cs 6,zAA cs 7]):=rfl
    obtain⟨i0,hi0,hz0,hz1',hz2'⟩:=zAi Tryz.infoRule
    have HOC:Hid (∀u ∈ ([.int .u8 (v:Int),zAA cs 0,zAA cs 1,zAA cs 2,zAA cs 3,zAA cs 4,zAA cs 5,zAA cs 6,zAA cs 7]:List Value),u.oneCell'=true):=fun u hu=>by
     have hcc:∀c,(zAA cs c).oneCell'=true:=fun c=>by
      unfold zAA
      split
      ·rfl
      ·obtain⟨T,x,hx⟩:=zDE c ‹_›
       rw[hx];rfl
     simp only[List.mem_cons,List.not_mem_nil,or_false] at hu
     rcases hu with rfl|rfl|rfl|rfl|rfl|rfl|rfl|rfl|rfl
     ·rfl
     all_goals exact hcc _
    have fK:=HK2.out.f 2
    clear rcc rf
    generalize zAA cs 0=x0 at*
    generalize zAA cs 1=x1 at*
    generalize zAA cs 2=x2 at*
    generalize zAA cs 3=x3 at*
    generalize zAA cs 4=x4 at*
    generalize zAA cs 5=x5 at*
    generalize zAA cs 6=x6 at*
    generalize zAA cs 7=x7 at*
    obtain⟨X,hX⟩:∃X:Obj,X= .cells #[.int .u8 (v:Int),x0,x1,x2,x3,x4,x5,x6,x7] 151:=⟨_,rfl⟩
    have HOWA:Hid (∀u:World,u.heap=(w2.alloc (.cells #[.int .u8 (v:Int),x0,x1,x2,x3,x4,x5,x6,x7] 151)).heap->u.ownsRow B 151 9 (.slice rp b.rs.length rc) b.rs.length (zAp b.rs)):=fun u hu=>zAS (HOW.out.alloc (.cells #[.int .u8 (v:Int),x0,x1,x2,x3,x4,x5,x6,x7] 151)) (fun g _=>by rw[hu])
    have HNW:Hid (∀u:World,u.heap=(w2.alloc (.cells #[.int .u8 (v:Int),x0,x1,x2,x3,x4,x5,x6,x7] 151)).heap->∀(j:Nat) (y:Value),([.int .u8 (v:Int),x0,x1,x2,x3,x4,x5,x6,x7]:List Value)[j]? =some y->u.cell? ((⟨w2.heap.size,0,none⟩:Addr).add j)=some y):=fun u hu=>World.news_of_block (w:=u) (cs:= #[.int .u8 (v:Int),x0,x1,x2,x3,x4,x5,x6,x7]) (t:=151) (fr:=(0,0)) (by rw[hu];exact heap_alloc_new w2 _)
    have HUB:Hid (∀u u':World,u.heap=(w2.alloc (.cells #[.int .u8 (v:Int),x0,x1,x2,x3,x4,x5,x6,x7] 151)).heap->u.os=w2.os->u.tape=w2.tape->u.output=w2.output->u.grownBy u' (Value.slice rp b.rs.length rc).ownBlock->Below B w2 u'):=fun u u' h1 h2 h3 h4 hg=>by
     have hbu:Below B w2 u:=⟨h2,h3,h4,by rw[h1];simp,fun k hk=>by rw[h1];exact Below.heap_alloc _ _ _ (by omega)⟩
     exact Below.grown (w:=u) hbu hg (by rw[h1];simp;omega) (zAE HOW.out)
    have hRL:b.rs.length<=48:=hbl
    have hKw:K<w2.heap.size:=by omega
    have hKn:K≠w2.heap.size:=by omega
    have hgw:w1.heap.size<w2.heap.size:=by omega
    have hgn:w1.heap.size≠w2.heap.size:=by omega
    clear hX X
    go_region_law (refine step_append_lies _ (by rfl) _ _ _ (by rfl) B 151 i0 _ 9 136 Tryz.underlying137 hi0 hz0 hz1' hz2' rfl (by decide) _ b.rs.length (zAp b.rs) (by rfl) (HOWA.out _ (by rfl)) ⟨w2.heap.size,0,none⟩ 1 1 [.int .u8 (v:Int),x0,x1,x2,x3,x4,x5,x6,x7] (by rfl) (by rfl) (HNW.out _ (by rfl)) HOC.out (by decide) (by unfold maxLen;omega) (by omega) (by first|omega|(simp;done)|(simp;omega)) (w2.heap.size+1) (by simp) ?_;intro gg cap' w3 hown3 hgrow hat hlt3;have HB3:Hid (Below B w2 w3):=HUB.out _ _ (by rfl) (by rfl) (by rfl) (by rfl) hgrow;clear hgrow hat;have m2:=(HB3.out.cell (p:=⟨K,2,none⟩) hKl).trans k2;have g2:=(HB3.out.frozen (p:=⟨K,2,none⟩) hKl).trans fK)
    all_goals
     go_wp2_with fail
     go_ret
     rw[HE.out]
     refine⟨fun q=>absurd rfl q,fun _=>⟨rfl,.slice (some ⟨gg,0,none⟩) (b.rs.length+1) cap',?_⟩,?_⟩
     ·refine⟨?_,?_,?_,?_,fun i=> ?_,hKl,?_⟩
      ·rw[World.cell?_setCell_other _ _ _ _ (by simp)]
       exact(HB3.out.cell (p:=⟨K,0,none⟩) hKl).trans HK2.out.c0
      ·rw[World.cell?_setCell_other _ _ _ _ (by simp)]
       exact(HB3.out.cell (p:=⟨K,1,none⟩) hKl).trans HK2.out.c1
      ·exact World.cell?_setCell_same _ _ _ m2
      ·rw[zE9,HRC.out]
       refine zAS (w:=w3) ?_ (fun g hg=> ?_)
       ·rw[List.length_append];exact hown3
       ·have hgB:B<=g:=zAE hown3 g hg
        exact Below.heap_setCell _ _ _ _ (by show g≠K;omega)
      ·rw[zI3]
       exact(HB3.out.frozen (p:=⟨K,i,none⟩) hKl).trans (HK2.out.f i)
      ·simp[World.setCell]
       have:=HB3.out.size
       omega
     ·exact((HCHr.out.trans (Chg.of (HB2.out.mono (by omega)))).trans (Chg.of HB3.out)).set _ _
  ·have hl1:1<=l.length:=by
    rcases l with _|⟨a,l⟩
    ·exact absurd rfl hne
    ·simp
   have HTk:=zOP w1.heap.size v cs l pb o c wr HRr.out hl8 hl1 hll HSZ.out (by omega) HSr.out (HM6.out.tch HT.out (by omega))
   obtain⟨k,cs',hk⟩:∃k cs',zBQ l cs=(k,cs'):=⟨_,_,rfl⟩
   have hst:=zKg l cs hne
   have hl8':=zMZ l cs hl8
   have h2:=zMa l cs
   rw[hk] at HTk hst hl8' h2
   have HST:Hid (zAy l cs=if k≠0 then(k,cs) else zAy (l.drop 2) cs'):=hst
   have HTK:Hid (Calls _ _ _ wr _):=HTk
   have l0':(0:Int)<(l.length:Int):=by omega
   clear hk hst HTk
   by_cases h0:k=0
   ·subst h0
    have hl2:2<=l.length:=h2 rfl
    obtain⟨o2,ho2,hsl2⟩:=zGA 2 pb o l.length c 2 rfl hl2 hlc hc63
    have HO2:Hid (2<c->o2=o+2):=ho2
    have HCN:Hid (zAy ps.tail zAq=zAy (l.drop 2) cs'):=show _=_ by rw[HCD.out,HST.out];rfl
    have HTK0:Hid (Calls _ _ _ wr (fun e w'=>e= .returned .nilIface/\zBz w' w1.heap.size v cs'/\Tch w1.heap.size wr w')):=HTK.out
    clear ho2 h2 hne HTK
    go_wp2_with (go_at_call 139;refine HTK0.out.mono ?_;rintro e w2 ⟨rfl,hR2,hT2⟩)
    go_roundw
    case rel=>exact⟨l.drop 2,cs',zGB.cut hlc (HSr.out.tch hT2 (by omega) (by omega)) 2 o2 hl2 HO2.out hc63,HCN.out,hl8',fun p hp=>HSZ.out p (List.mem_of_mem_drop hp),by rw[List.length_drop];omega,hR2,HT.out.trans hT2⟩
    case measure=>simp[zRb];omega
   ·have HE:Hid (zAT ps b.rs.length=(k,⟨0,zAq⟩)):=show _=_ by
     rw[HRO.out,HCD.out,HST.out,if_pos h0]
     exact if_pos h0
    rw[zJt h0] at HTK
    clear h2 hne
    go_wp2_with (go_at_call 139;refine HTK.out.mono ?_;rintro e w2 ⟨rfl,hR2,hT2⟩)
    go_ret
    rw[HE.out]
    exact⟨fun _=>rfl,fun q=>absurd q h0,HCHr.out.trans (Chg.of ⟨hT2.os,hT2.tape,hT2.output,hT2.size,fun m hm=>hT2.block m (by omega) (by omega)⟩)⟩
theorem zBU.tch {B K:Nat} {w w':World} (h:zBU w) (hw:Chg B K w w') (hB:0<B) (hK:0≠K):zBU w':=by
 show w'.cell? ⟨0,0,none⟩=_
 rw[hw.cell (p:=⟨0,0,none⟩) hB hK];exact h
theorem zKi (n:Int) (w:World):
 Calls Tryz.prog 94 #[.int .i64 n,.nilIface] w fun e w'=>e= .returned .nilIface/\Below w.heap.size w w':=by
 go_enter Tryz.func94,Tryz.ntmps94;go_wp2_with (go_at_call 39;refine(zMR _ _).mono ?_;rintro e w' ⟨rfl,rfl⟩);go_ret;exact⟨rfl,bal _ _⟩
theorem zI4 (n k:Int) (w:World) (hL:zBU w):
 Calls Tryz.prog 94 #[.int .i64 n,.iface 22 (.int .i64 k)] w fun e w'=>∃c,e= .returned (.iface 91 (.pointer (some ⟨c,0,none⟩)))/\Below w.heap.size w w'/\w.heap.size<=c/\c<w'.heap.size/\w'.cell? ⟨c,0,none⟩=some (.int .i64 n)/\w'.cell? ⟨c,1,none⟩=some (.int .i64 k):=by
 have HL:Hid (zBU w):=hL;clear hL;go_enter Tryz.func94,Tryz.ntmps94;go_wp2_with fail;refine(zMV k _ _ ?_ (.int .i64 0) ?_ ?_).mono ?_
 ·(show zBU _;repeat (with_reducible first|exact HL.out|refine zBU.alloc ?_ _))
 ·rw[World.cell?_alloc_at _ _ _ _ (by simp)];rfl
 ·exact World.frozen?_alloc_at _ _ _ _ (by simp)
 rintro e w1 ⟨rfl,hw1⟩;have hB:Below w.heap.size w w1:=by
  rw[hw1]
  repeat (with_reducible first|exact Below.refl _ _|refine below_drewN ?_ _|refine Below.drew ?_|refine Below.setCell ?_ (by first|(simp;done)|(simp;omega)) _|refine Below.alloc ?_ (by first|(simp;done)|(simp;omega)) _)
 have hc:w1.cell? ⟨w.heap.size,0,none⟩=some (.int .i64 k):=by
  rw[hw1];refine World.cell?_setCell_same _ _ _ (u:= .int .i64 0) ?_;rw[Below.cell (B:=w.heap.size+1) (w:=w.alloc (.cells #[.int .i64 0] 22)) (p:=⟨w.heap.size,0,none⟩) ?_ (by simp)]
  ·rw[World.cell?_alloc_at _ _ _ _ (by simp)];rfl
  ·repeat (with_reducible first|exact Below.refl _ _|refine below_drewN ?_ _|refine Below.drew ?_|refine Below.setCell ?_ (by first|(simp;done)|(simp;omega)) _|refine Below.alloc ?_ (by first|(simp;done)|(simp;omega)) _)
 clear hw1;go_wp2_with fail;go_ret;refine⟨w1.heap.size,rfl,hB.alloc hB.size _,hB.size,by simp,?_,?_⟩
 ·rw[World.cell?_alloc_at _ _ _ _ rfl];rfl
 ·rw[World.cell?_alloc_at _ _ _ _ rfl];rfl
theorem zEX (B K:Nat) (b:Bk) (rv:Value) (ps:List ByteArray) (pb off cap:Nat) (w:World) (hK:zBM w B K b rv) (hp:1<=ps.length) (hpl:ps.length<=3000) (hps:∀p ∈ ps,p.size<=2000) (hpc:ps.length<=cap) (hpm:cap<=maxLen) (hb:pb<w.heap.size) (hpB:B<=pb) (hS:zB2 w pb off ps) (hm:zBx w) (hbl:b.rs.length<=48) (hno:b.has=false->b.rs=[]):
 Calls Tryz.prog 95 #[.pointer (some ⟨K,0,none⟩),.slice (some ⟨pb,off,none⟩) ps.length cap] w fun e w'=>
  ((zAY b ps).1≠0->e= .returned (.iface 22 (.int .i64 ((zAY b ps).1:Int))))/\((zAY b ps).1=0->e= .returned .nilIface/\∃rv',zBM w' B K (zAY b ps).2 rv')/\Chg B K w w':=by
 have k0:=hK.c0;cases hh:b.has with
 |true=>
  have HT:Hid (Calls _ _ _ w _):=zHj B K b rv ps pb off cap w hK hp hpl hps hpc hpm hb hpB hS hm hbl;have HE:Hid (zAY b ps=if(zAT ps b.rs.length).1=0 then(0,⟨true,b.pol,b.rs++[(zAT ps b.rs.length).2]⟩) else((zAT ps b.rs.length).1,bk0)):=show _=_ by unfold zAY;rw[hh];rfl
  rw[hh] at k0 HT;clear hK hpl hps hpc hpm hb hpB hS hm hbl hno hp hh
  by_cases h0:(zAT ps b.rs.length).1=0
  ·have HE0:Hid (zAY b ps=(0,⟨true,b.pol,b.rs++[(zAT ps b.rs.length).2]⟩)):=show _=_ by rw[HE.out,if_pos h0]
   go_enter Tryz.func95,Tryz.ntmps95;go_wp2_with (go_at_call 120;refine HT.out.mono ?_;rintro e w1 ⟨h1,h2,h3⟩;obtain⟨rfl,rv',hK'⟩:=h2 h0;clear h1 h2);go_ret;rw[HE0.out];exact⟨fun q=>absurd rfl q,fun _=>⟨rfl,rv',hK'⟩,h3⟩
  ·have HE0:Hid (zAY b ps=((zAT ps b.rs.length).1,bk0)):=show _=_ by rw[HE.out,if_neg h0]
   go_enter Tryz.func95,Tryz.ntmps95;go_wp2_with (go_at_call 120;refine HT.out.mono ?_;rintro e w1 ⟨h1,h2,h3⟩;obtain rfl:=h1 h0;clear h1 h2);go_ret;rw[HE0.out];exact⟨fun _=>rfl,fun q=>absurd q h0,h3⟩
 |false=>
  have HT:Hid (Calls _ _ _ w _):=zFr B K b rv ps pb off cap w hK hp hpl hb hS;have hrs:=hno hh;have HE:Hid (zAY b ps=if zAW ps<0 then(3,bk0) else(0,⟨true,(zAW ps).toNat,[]⟩)):=show _=_ by unfold zAY;rw[hh];rfl
  rw[hrs] at HT;rw[hh] at k0;clear hK hpl hps hpc hpm hb hpB hS hm hbl hno hp hh hrs
  by_cases h0:zAW ps<0
  ·have HE0:Hid (zAY b ps=(3,bk0)):=show _=_ by rw[HE.out,if_pos h0]
   go_enter Tryz.func95,Tryz.ntmps95;go_wp2_with (go_at_call 119;refine HT.out.mono ?_;rintro e w1 ⟨h1,h2,h3⟩;obtain⟨rfl,hK'⟩:=h1 h0;clear h1 h2);go_ret;rw[HE0.out];exact⟨fun _=>rfl,fun q=>absurd q (by decide),h3⟩
  ·have HE0:Hid (zAY b ps=(0,⟨true,(zAW ps).toNat,[]⟩)):=show _=_ by rw[HE.out,if_neg h0]
   have h0':0<=zAW ps:=by omega
   clear h0;go_enter Tryz.func95,Tryz.ntmps95;go_wp2_with (go_at_call 119;refine HT.out.mono ?_;rintro e w1 ⟨h1,h2,h3⟩;obtain⟨rfl,hK'⟩:=h2 h0';clear h1 h2);go_ret;rw[HE0.out];exact⟨fun q=>absurd rfl q,fun _=>⟨rfl,rv,hK'⟩,h3⟩
structure zI5 (w0 w:World) (e:Value) (k n:Nat):Prop where
 is:∃c,e= .iface 91 (.pointer (some ⟨c,0,none⟩))/\w0.heap.size<=c/\c<w.heap.size/\w.cell? ⟨c,0,none⟩=some (.int .i64 (n:Int))/\w.cell? ⟨c,1,none⟩=some (.int .i64 (k:Int))
structure zCE (w:World) (g:Nat) (x y z:Value):Prop where
 c0:w.cell? ⟨g,0,none⟩=some x
 c1:w.cell? ⟨g,1,none⟩=some y
 c2:w.cell? ⟨g,2,none⟩=some z
 f:∀i,w.frozen? ⟨g,i,none⟩=false
 lt:g<w.heap.size
theorem zCE.below {w w':World} {g B:Nat} {x y z:Value} (h:zCE w g x y z) (hw:Below B w w') (hg:g<B):zCE w' g x y z:=
 ⟨(hw.cell (p:=⟨g,0,none⟩) hg).trans h.c0,(hw.cell (p:=⟨g,1,none⟩) hg).trans h.c1,(hw.cell (p:=⟨g,2,none⟩) hg).trans h.c2,fun i=>(hw.frozen (p:=⟨g,i,none⟩) hg).trans (h.f i),Nat.lt_of_lt_of_le h.lt hw.size⟩
theorem zCE.chg {w w':World} {g B K:Nat} {x y z:Value} (h:zCE w g x y z) (hw:Chg B K w w') (hg:g<B) (hK:g≠K):zCE w' g x y z:=
 ⟨(hw.cell (p:=⟨g,0,none⟩) hg hK).trans h.c0,(hw.cell (p:=⟨g,1,none⟩) hg hK).trans h.c1,(hw.cell (p:=⟨g,2,none⟩) hg hK).trans h.c2,fun i=>(hw.frozen (p:=⟨g,i,none⟩) hg hK).trans (h.f i),Nat.lt_of_lt_of_le h.lt hw.size⟩
theorem zCE.made (w:World) (x y z:Value) (t:TypeId):zCE (w.alloc (.cells #[x,y,z] t)) w.heap.size x y z:=
 ⟨by rw[World.cell?_alloc_at _ _ _ _ rfl];rfl,by rw[World.cell?_alloc_at _ _ _ _ rfl];rfl,by rw[World.cell?_alloc_at _ _ _ _ rfl];rfl,fun i=>World.frozen?_alloc_at _ _ _ _ rfl,by simp⟩
theorem zDF {w:World} {B:Nat} {e:TypeId} {sz:Nat} {v:Value} {n:Nat} {xs:List Value} (h:w.ownsRow B e sz v n xs):∃p c,v= .slice p n c/\(0<n->∃g,p=some ⟨g,0,none⟩/\B<=g/\g<w.heap.size/\n<=c/\c<=maxLen):=by
 rcases h.2 with⟨e,e'⟩|⟨g,cap,cur,e,hg,hh,hn,hm,_⟩
 ·subst e';exact⟨none,0,e,fun q=>absurd q (by decide)⟩
 ·exact⟨some ⟨g,0,none⟩,cap,e,fun _=>⟨g,rfl,hg,(Array.getElem?_eq_some_iff.1 hh).1,hn,hm⟩⟩
theorem zJz {w:World} {B g c:Nat} {ps:List ByteArray} (h:w.ownsRow B 9 1 (.slice (some ⟨g,0,none⟩) ps.length c) ps.length (ps.map Value.string)):zB2 w g 0 ps:=fun j hj=>by
 rw[Nat.zero_add,h.cellAt j (by omega),List.getElem?_map,List.getElem?_eq_getElem hj,List.getD_eq_getElem?_getD,List.getElem?_eq_getElem hj];rfl
theorem zKj {l:List ByteArray} {p:ByteArray} {r:List ByteArray} (h:l=p::r) (n:Nat) (b:Bk) (hp:zAh p=[]):zAO l n b=zAO r (n+1) b:=by rw[h,zAO,if_pos hp]
theorem zMb {l:List ByteArray} {p:ByteArray} {r:List ByteArray} (h:l=p::r) (n:Nat) (b:Bk) (hp:zAh p≠[]) (hk:(zAY b (zAh p)).1≠0):zAO l n b=((zAY b (zAh p)).1,n+1,bk0):=by rw[h,zAO,if_neg hp,if_pos hk]
theorem zOS {l:List ByteArray} {p:ByteArray} {r:List ByteArray} (h:l=p::r) (n:Nat) (b:Bk) (hp:zAh p≠[]) (hk:(zAY b (zAh p)).1=0):zAO l n b=zAO r (n+1) (zAY b (zAh p)).2:=by rw[h,zAO,if_neg hp,if_neg (fun q=>q hk)]
theorem zMc (b:Bk) (ps:List ByteArray) (h:(zAY b ps).1=0):(zAY b ps).2.has=true:=by
 unfold zAY at h ⊢
 split at h
 ·split at h
  ·rename_i h1 h2
   rw[if_pos h1,if_pos h2]
  ·rename_i h1 h2
   exact absurd h h2
 ·split at h
  ·cases h
  ·rename_i h1 h2
   rw[if_neg h1,if_neg h2]
theorem zOT (s:ByteArray) (w:World) (hm:zBx w) (hL:zBU w) (hs:s.size<=maxLen):
 Calls Tryz.prog 63 #[.string s] w fun e w'=>
  ((zAJ s).1≠0->∃ev,e= .returned (.tuple #[.agg #[.bool false,.int .u8 0,.slice none 0 0],ev])/\zI5 w w' ev (zAJ s).1 (zAJ s).2.1)/\((zAJ s).1=0->zBr (zAJ s).2.2/\∃rv,e= .returned (.tuple #[.agg #[.bool true,.int .u8 ((zAJ s).2.2.pol:Int),rv],.nilIface])/\w'.ownsRow w.heap.size 151 9 rv (zAJ s).2.2.rs.length (zAp (zAJ s).2.2.rs))/\Below w.heap.size w w':=by
 have HM:Hid (zBx w):=hm;have HL:Hid (zBU w):=hL;have hmp:=hm.pos;have hlp:=hL.pos;unfold maxLen at hs;clear hm hL
 by_cases hlong:2000<s.size
 ·have HE:Hid (zAJ s=(2,0,bk0)):=show _=_ by unfold zAJ;rw[if_pos hlong]
  have hl':(2000:Int)<(s.size:Int):=by omega
  clear hlong;go_enter Tryz.func63,Tryz.ntmps63;go_wp2_with fail;refine bodyPost_ret (v:= .tuple #[.agg #[.bool false,.int .u8 0,.slice none 0 0],.iface 91 (.pointer (some ⟨w.heap.size+1,0,none⟩))]) (by simp[results,Tryz.results63,go_sem]) rfl ?_;rw[HE.out];refine⟨fun _=>⟨_,rfl,⟨_,rfl,by simp,by simp,?_,?_⟩⟩,fun q=>absurd q (by decide),?_⟩
  ·rw[World.cell?_alloc_at _ _ _ _ (by simp)];rfl
  ·rw[World.cell?_alloc_at _ _ _ _ (by simp)];rfl
  ·exact(bal _ _).alloc (by simp) _
 have hs2:s.size<=2000:=by omega
 have hl':(s.size:Int)<=2000:=by omega
 have HC:Hid (Calls _ _ _ ((w.alloc (.cells #[.bool false,.int .u8 0,.slice none 0 0] 139)).alloc (.cells #[.bool false,.int .u8 0,.slice none 0 0] 139)) _):=zDk s 10 _ hs2 ((HM.out.alloc (.cells #[.bool false,.int .u8 0,.slice none 0 0] 139)).alloc (.cells #[.bool false,.int .u8 0,.slice none 0 0] 139));have hcl:=zBq 10 s;have hcm:∀p ∈ zAj 10 s,p.size<=2000:=fun p hp=>by have:=zB1 10 s p hp;omega
 have hrt:zAJ s=zAO (zAj 10 s) 0 bk0:=by unfold zAJ;rw[if_neg hlong]
 obtain⟨cs,hcs⟩:∃cs,zAj 10 s=cs:=⟨_,rfl⟩;rw[hcs] at HC hcl hcm hrt;have HCM:=hid hcm;have HRT:=hid hrt;clear hcs hcm hrt hlong;go_enter Tryz.func63,Tryz.ntmps63;go_wp2_with (go_at_call 92;refine HC.out.mono ?_;rintro e w1 ⟨rfl,hw1⟩;have HW1:Hid (w1=_):=hw1;clear hw1);have hw1:=HW1.out;have hz1:w1.heap.size=w.heap.size+3:=by rw[hw1];simp
 have HB1:Hid (Below w.heap.size w w1):=show Below w.heap.size w w1 by
  rw[hw1];exact(((Below.refl _ w).alloc (Nat.le_refl _) _).alloc (by simp) _).alloc (by simp;omega) _
 have HS1:Hid (zB2 w1 (w.heap.size+2) 0 cs):=show zB2 w1 (w.heap.size+2) 0 cs by
  rw[hw1];have:=zB2.made ((w.alloc (.cells #[.bool false,.int .u8 0,.slice none 0 0] 139)).alloc (.cells #[.bool false,.int .u8 0,.slice none 0 0] 139)) cs 9
  simpa using this
 have HR1:Hid (zCE w1 w.heap.size (.bool false) (.int .u8 0) (.slice none 0 0)):=show zCE w1 w.heap.size _ _ _ by
  rw[hw1];exact(zCE.made w _ _ _ _).below (B:=w.heap.size+1) (((Below.refl _ _).alloc (by simp) _).alloc (by simp) _) (Nat.lt_succ_self _)
 have HK1:Hid (zBM w1 (w.heap.size+3) (w.heap.size+1) bk0 (.slice none 0 0)):=show zBM w1 _ _ _ _ by
  have h3:zCE w1 (w.heap.size+1) (.bool false) (.int .u8 0) (.slice none 0 0):=by
   rw[hw1];have:=zCE.made (w.alloc (.cells #[.bool false,.int .u8 0,.slice none 0 0] 139)) (.bool false) (.int .u8 0) (.slice none 0 0) 139;rw[show(w.alloc (.cells #[.bool false,.int .u8 0,.slice none 0 0] 139)).heap.size=w.heap.size+1 by simp] at this;exact this.below (B:=w.heap.size+2) ((Below.refl _ _).alloc (by simp) _) (by omega)
  exact⟨h3.c0,h3.c1,h3.c2,World.ownsRow_nil _ _ _ _,h3.f,by omega,by omega⟩
 clear hw1 HW1 HC;go_loopw [19] (fun i wr=>∃(j:Nat) (b:Bk) (rv:Value),j<=cs.length/\i= .int .i64 j/\zAJ s=zAO (cs.drop j) j b/\zBr b/\(b.has=false->b.rs=[])/\zBM wr (w.heap.size+3) (w.heap.size+1) b rv/\Chg (w.heap.size+3) (w.heap.size+1) w1 wr) (fun i _=>cs.length-(intOf i).toNat)
 case atStart=>exact⟨0,bk0,_,Nat.zero_le _,rfl,by rw[List.drop_zero];exact HRT.out,zCN,fun _=>rfl,HK1.out,Chg.refl _ _ _⟩
 case round=>
  obtain⟨j,b,rv,hj,rfl,hrt,hgb,hno,hK,hCh⟩:=hrel;have HRTj:=hid hrt;have HGB:Hid (zBr b):=hgb;have HNO:=hid hno;have HK:=hid hK;have HCh:=hid hCh;have HBr:Hid (Below w.heap.size w wr):=HB1.out.trans ⟨hCh.os,hCh.tape,hCh.output,hCh.size,fun k hk=>hCh.block k (by omega) (by omega)⟩;have HRr:Hid (zCE wr w.heap.size (.bool false) (.int .u8 0) (.slice none 0 0)):=HR1.out.chg hCh (by omega) (by omega);have HMr:Hid (zBx wr):=HM.out.below HBr.out;have HLr:Hid (zBU wr):=HL.out.below HBr.out;have hzr:w.heap.size+3<=wr.heap.size:=by have:=hCh.size;omega
  clear hrt hgb hno hK hCh
  by_cases hlt:j<cs.length
  ·have c:=HS1.out j hlt
   rw[Nat.zero_add,<-HCh.out.cell (p:=⟨w.heap.size+2,j,none⟩) (by show w.heap.size+2<_;omega) (by show w.heap.size+2≠_;omega)] at c;obtain⟨p,hp⟩:∃p,cs.getD j ByteArray.empty=p:=⟨_,rfl⟩;rw[hp] at c;have hd:cs.drop j=p::cs.drop (j+1):=by
    rw[List.drop_eq_getElem_cons hlt,<-hp,List.getD_eq_getElem?_getD,List.getElem?_eq_getElem hlt];rfl
   have hpm:p ∈ cs:=by
    rw[<-hp,List.getD_eq_getElem?_getD,List.getElem?_eq_getElem hlt];exact List.getElem_mem hlt
   have hp2:=HCM.out p hpm;have HD:=hid hd;have HP:=zHS p wr hp2 HMr.out;have hpl:=zF3 p;have hpsz:∀q ∈ zAh p,q.size<=2000:=fun q hq=>by have:=zF2 p q hq;omega
   have HPSZ:=hid hpsz;clear hp hd hpm hpsz
   by_cases h0:zAh p=[]
   ·have HSK:Hid (zAJ s=zAO (cs.drop (j+1)) (j+1) b):=show _=_ by rw[HRTj.out,zKj HD.out _ _ h0]
    rw[h0] at HP;go_wp2_with (go_at_call 93;refine HP.mono ?_;rintro e w2 ⟨v,rfl,hO,hb2⟩;obtain⟨pp,pc,rfl,_⟩:=zDF hO);go_roundw
    case rel=>exact⟨j+1,b,rv,by omega,by go_num,HSK.out,HGB.out,HNO.out,HK.out.below hb2,HCh.out.trans (Chg.of (hb2.mono hzr))⟩
    case measure=>simp[intOf];omega
   have hp1:1<=(zAh p).length:=by
    rcases hpp:zAh p with _|⟨a,l⟩
    ·exact absurd hpp h0
    ·simp
   have HH0:=hid h0;obtain⟨ps,hps⟩:∃ps,zAh p=ps:=⟨_,rfl⟩;have HLB:=zMb HD.out j b h0;have HLG:=zOS HD.out j b h0;rw[hps] at HP hpl HPSZ hp1 HLB HLG;have hne:(((ps.length:Nat):Int) == 0)=false:=by rw[beq_eq_false_iff_ne];omega
   obtain⟨k,b',hk⟩:∃k b',zAY b ps=(k,b'):=⟨_,_,rfl⟩;have hgood:=zCi b ps HGB.out;have hhas:=zMc b ps;rw[hk] at HLB HLG hgood hhas;have HKK:=hid hk;have HLBB:Hid (k≠0->zAJ s=(k,j+1,bk0)):=fun q=>by rw[HRTj.out,HLB q]
   have HLGG:Hid (k=0->zAJ s=zAO (cs.drop (j+1)) (j+1) b'):=fun q=>by rw[HRTj.out,HLG q]
   have HGD:Hid (zBr b'):=hgood;have HHS:=hid hhas;have hln:=HGB.out.len;clear HLB HLG hgood hhas hk h0 hps HH0
   by_cases hk0:k=0
   ·subst hk0
    have HLG0:Hid (zAJ s=zAO (cs.drop (j+1)) (j+1) b'):=HLGG.out rfl;have HHS0:Hid (b'.has=true):=HHS.out rfl;clear HLGG HHS HLBB;go_upto_region 9 with(go_at_call 93;refine HP.mono ?_;rintro e w2 ⟨v,rfl,hO,hb2⟩;obtain⟨pp,pc,rfl,hform⟩:=zDF hO;obtain⟨g,rfl,hgB,hgl,hnc,hcm⟩:=hform (by omega);clear hform)
    have hT:=zEX (w.heap.size+3) (w.heap.size+1) b rv ps g 0 pc w2 (HK.out.below hb2) hp1 (by omega) HPSZ.out hnc hcm hgl (by omega) (zJz hO) (HMr.out.below hb2) hln HNO.out;rw[HKK.out] at hT;have HT:=hid hT;have HB2:=hid hb2;clear hT hO hb2 HP;go_wp2_with (first|(go_at_call 95;refine HT.out.mono ?_;rintro e w3 ⟨h1,h2,h3⟩;obtain⟨rfl,rv',hK'⟩:=h2 rfl;clear h1 h2)|(go_at_call 94;refine(zKi _ _).mono ?_;rintro e w4 ⟨rfl,hb4⟩));go_roundw
    case rel=>exact⟨j+1,b',rv',by omega,by go_num,HLG0.out,HGD.out,fun q=>absurd q (by rw[HHS0.out];decide),hK'.below hb4,((HCh.out.trans (Chg.of (HB2.out.mono hzr))).trans h3).trans (Chg.of (hb4.mono hK'.le))⟩
    case measure=>simp[intOf];omega
   ·go_upto_region 9 with(go_at_call 93;refine HP.mono ?_;rintro e w2 ⟨v,rfl,hO,hb2⟩;obtain⟨pp,pc,rfl,hform⟩:=zDF hO;obtain⟨g,rfl,hgB,hgl,hnc,hcm⟩:=hform (by omega);clear hform)
    have hT:=zEX (w.heap.size+3) (w.heap.size+1) b rv ps g 0 pc w2 (HK.out.below hb2) hp1 (by omega) HPSZ.out hnc hcm hgl (by omega) (zJz hO) (HMr.out.below hb2) hln HNO.out;rw[HKK.out] at hT;have HT:=hid hT;have HB2:=hid hb2;have HL2:Hid (zBU w2):=HLr.out.below hb2;clear hT hO hb2 HP;go_wp2_with (first|(go_at_call 95;refine HT.out.mono ?_;rintro e w3 ⟨h1,h2,h3⟩;obtain rfl:=h1 hk0;clear h1 h2;have HL3:Hid (zBU w3):=HL2.out.tch h3 (by omega) (by omega);have HB3:Hid (Below w.heap.size w w3):=(HBr.out.trans (HB2.out.mono HBr.out.size)).trans ⟨h3.os,h3.tape,h3.output,h3.size,fun m hm=>h3.block m (by omega) (by omega)⟩;have HR3:Hid (zCE w3 w.heap.size (.bool false) (.int .u8 0) (.slice none 0 0)):=(HRr.out.below HB2.out (by omega)).chg h3 (by omega) (by omega))|(go_at_call 94;refine(zI4 _ _ _ HL3.out).mono ?_;rintro e w4 ⟨cc,rfl,hb4,hc1,hc2,hc3,hc4⟩;obtain⟨q0,q1,q2,qf,qlt⟩:=HR3.out.below hb4 HR3.out.lt;have f0:=qf 0;have f1:=qf 1;have f2:=qf 2));refine bodyPost_ret (v:= .tuple #[.agg #[.bool false,.int .u8 0,.slice none 0 0],.iface 91 (.pointer (some ⟨cc,0,none⟩))]) (by simp[results,Tryz.results63,go_sem,q0,q1,q2]) rfl ?_;have hcn:w.heap.size<cc:=by have:=HR3.out.lt;omega
    rw[HLBB.out hk0];refine⟨fun _=>⟨_,rfl,⟨cc,rfl,by omega,by simp[World.setCell];omega,?_,?_⟩⟩,fun q=>absurd q hk0,?_⟩
    ·rw[World.cell?_setCell_other _ _ _ _ (by first|(simp;done)|(simp;omega)),World.cell?_setCell_other _ _ _ _ (by first|(simp;done)|(simp;omega)),World.cell?_setCell_other _ _ _ _ (by first|(simp;done)|(simp;omega)),hc3]
     simp
    ·rw[World.cell?_setCell_other _ _ _ _ (by first|(simp;done)|(simp;omega)),World.cell?_setCell_other _ _ _ _ (by first|(simp;done)|(simp;omega)),World.cell?_setCell_other _ _ _ _ (by first|(simp;done)|(simp;omega)),hc4]
    ·exact(((HB3.out.trans (hb4.mono HB3.out.size)).setCell (Nat.le_refl _) _).setCell (Nat.le_refl _) _).setCell (Nat.le_refl _) _
  ·have e:j=cs.length:=by omega
   subst e;rw[List.drop_length] at HRTj;obtain⟨k0,k1,k2,own,kf,klt,kle⟩:=HK.out;obtain⟨q0,q1,q2,qf,qlt⟩:=HRr.out;have f0:=qf 0;have f1:=qf 1;have f2:=qf 2;cases hh:b.has with
   |false=>
    have HE:Hid (zAJ s=(3,0,bk0)):=show _=_ by rw[HRTj.out,zAO,hh];rfl
    rw[hh] at k0;have qn:w.heap.size≠wr.heap.size:=by omega
    clear kf own qf hh;go_wp2_with fail;have y0:((((wr.setCell ⟨w.heap.size,0,none⟩ (.bool false)).setCell ⟨w.heap.size,1,none⟩ (.int .u8 0)).setCell ⟨w.heap.size,2,none⟩ (.slice none 0 0)).alloc (.cells #[.int .i64 0,.int .i64 3] 95)).cell? ⟨w.heap.size,0,none⟩=some (.bool false):=by
     rw[World.cell?_alloc_lt _ _ ⟨w.heap.size,0,none⟩ (by simp[World.setCell];omega),World.cell?_setCell_other _ _ _ _ (by simp),World.cell?_setCell_other _ _ _ _ (by simp)];exact World.cell?_setCell_same _ _ _ q0
    have y1:((((wr.setCell ⟨w.heap.size,0,none⟩ (.bool false)).setCell ⟨w.heap.size,1,none⟩ (.int .u8 0)).setCell ⟨w.heap.size,2,none⟩ (.slice none 0 0)).alloc (.cells #[.int .i64 0,.int .i64 3] 95)).cell? ⟨w.heap.size,1,none⟩=some (.int .u8 0):=by
     rw[World.cell?_alloc_lt _ _ ⟨w.heap.size,1,none⟩ (by simp[World.setCell];omega),World.cell?_setCell_other _ _ _ _ (by simp)];exact World.cell?_setCell_same _ _ _ ((World.cell?_setCell_other _ _ _ _ (by simp)).trans q1)
    have y2:((((wr.setCell ⟨w.heap.size,0,none⟩ (.bool false)).setCell ⟨w.heap.size,1,none⟩ (.int .u8 0)).setCell ⟨w.heap.size,2,none⟩ (.slice none 0 0)).alloc (.cells #[.int .i64 0,.int .i64 3] 95)).cell? ⟨w.heap.size,2,none⟩=some (.slice none 0 0):=by
     rw[World.cell?_alloc_lt _ _ ⟨w.heap.size,2,none⟩ (by simp[World.setCell];omega)];exact World.cell?_setCell_same _ _ _ ((World.cell?_setCell_other _ _ _ _ (by simp)).trans ((World.cell?_setCell_other _ _ _ _ (by simp)).trans q2))
    refine bodyPost_ret (v:= .tuple #[.agg #[.bool false,.int .u8 0,.slice none 0 0],.iface 91 (.pointer (some ⟨wr.heap.size,0,none⟩))]) (by simp[results,Tryz.results63,go_sem,y0,y1,y2]) rfl ?_;rw[HE.out];refine⟨fun _=>⟨_,rfl,⟨wr.heap.size,rfl,by omega,by simp[World.setCell],?_,?_⟩⟩,fun q=>absurd q (by decide),?_⟩
    ·rw[World.cell?_alloc_at _ _ _ _ (by simp[World.setCell])];rfl
    ·rw[World.cell?_alloc_at _ _ _ _ (by simp[World.setCell])];rfl
    ·exact((((HBr.out.setCell (Nat.le_refl _) _).setCell (Nat.le_refl _) _).setCell (Nat.le_refl _) _).alloc (by simp[World.setCell];omega) _)
   |true=>
    have HE:Hid (zAJ s=(0,0,b)):=show _=_ by rw[HRTj.out,zAO,hh];rfl
    rw[hh] at k0;obtain⟨pp,pc,hrv,_⟩:=zDF own;rw[hrv] at k2;have HOW:Hid (wr.ownsRow (w.heap.size+3) 151 9 (.slice pp b.rs.length pc) b.rs.length (zAp b.rs)):=show World.ownsRow _ _ _ _ _ _ _ by rw[<-hrv];exact own
    clear kf own qf hh hrv;go_wp2_with fail;refine bodyPost_ret (v:= .tuple #[.agg #[.bool true,.int .u8 (b.pol:Int),.slice pp b.rs.length pc],.nilIface]) (by simp[results,Tryz.results63,go_sem,q0,q1,q2]) rfl ?_;rw[HE.out];refine⟨fun q=>absurd rfl q,fun _=>⟨HGB.out,_,rfl,?_⟩,?_⟩
    ·refine zAS (zDm HOW.out (by omega)) (fun g hg=> ?_)
     have hgB:w.heap.size+3<=g:=zAE HOW.out g hg;rw[Below.heap_setCell _ _ _ _ (by show g≠w.heap.size;omega),Below.heap_setCell _ _ _ _ (by show g≠w.heap.size;omega),Below.heap_setCell _ _ _ _ (by show g≠w.heap.size;omega)]
    ·exact((HBr.out.setCell (Nat.le_refl _) _).setCell (Nat.le_refl _) _).setCell (Nat.le_refl _) _
end Go.Proofs.YtclpnafiiobfhaaGreatDoor

import Derived.Test.YtclpnafiiobfhaaGreatDoorQ01
set_option linter.unusedVariables false
set_option linter.unusedSimpArgs false
set_option maxHeartbeats 3200000
namespace Go.Proofs.YtclpnafiiobfhaaGreatDoor
open Go.RowKit
theorem zIj (s:ByteArray) (c:UInt8) (w:World) (hs:s.size<=2000) (hm:zBx w):
 Calls Tryz.prog 212 #[.string s,.string ⟨#[c]⟩] w fun e w'=>∃a z f,e= .returned (.tuple #[.string a,.string z,.bool f])/\zGb c s a z f/\Below w.heap.size w w':=by
 obtain⟨m,hm⟩:=hm;refine(Tryz.strings_Cut s ⟨#[c]⟩ m w (by omega) hm).mono ?_;rintro e w' ⟨rfl,n,rfl⟩;exact⟨_,_,_,rfl,zLr c s,below_drewN (Below.refl _ _) n⟩
structure Two (w:World) (g:Nat) (x y:Value):Prop where
 c0:w.cell? ⟨g,0,none⟩=some x
 c1:w.cell? ⟨g,1,none⟩=some y
 f0:w.frozen? ⟨g,0,none⟩=false
 f1:w.frozen? ⟨g,1,none⟩=false
 lt:g<w.heap.size
theorem Two.below {w w':World} {g B:Nat} {x y:Value} (h:Two w g x y) (hw:Below B w w') (hg:g<B):Two w' g x y:=
 ⟨(hw.cell (p:=⟨g,0,none⟩) hg).trans h.c0,(hw.cell (p:=⟨g,1,none⟩) hg).trans h.c1,(hw.frozen (p:=⟨g,0,none⟩) hg).trans h.f0,(hw.frozen (p:=⟨g,1,none⟩) hg).trans h.f1,Nat.lt_of_lt_of_le h.lt hw.size⟩
theorem Two.made (w:World) (x y:Value) (t:TypeId):Two (w.alloc (.cells #[x,y] t)) w.heap.size x y:=
 ⟨by rw[World.cell?_alloc_at _ _ _ _ rfl];rfl,by rw[World.cell?_alloc_at _ _ _ _ rfl];rfl,World.frozen?_alloc_at _ _ _ _ rfl,World.frozen?_alloc_at _ _ _ _ rfl,by simp⟩
def zJl (q:Option (List Nat)):Nat×List Nat:=match q with
 |some [a,b]=>if b<=65535/\a<=b then(0,[a,b]) else(5,[])
 |_=>(3,[])
theorem zKY {s a z:ByteArray} {f:Bool} (h:zGb 45 s a z f) (hf:f=false):zAI s=zJl (zBJ [a,a]):=by
 obtain⟨h1,h2,_⟩:=h.miss hf;unfold zAI;rw[h1,h2];cases hn:zAv s with
 |none=>rw[zDh _ hn,zDh _ hn];rfl
 |some v=>
  rw[zDg _ hn,zDg _ hn,zDg _ hn]
  show(if v<=65535 then(0,[v,v]) else(5,[]))=(if v<=65535/\v<=v then(0,[v,v]) else(5,[]))
  by_cases hv:v<=65535
  ·rw[if_pos hv,if_pos ⟨hv,Nat.le_refl _⟩]
  ·rw[if_neg hv,if_neg (fun q=>hv q.1)]
theorem zLx {s a z:ByteArray} {f:Bool} (h:zGb 45 s a z f) (hf:f=true):zAI s=zJl (zBJ [a,z]):=by
 rcases h.two (by decide) with⟨_,e⟩|⟨hn,hl⟩
 ·unfold zAI
  rw[e];rw[zOC];cases zAv a with
  |none=>rfl
  |some x=>cases zAv z<;>rfl
 ·have hz:zBJ [a,z]=none:=zCj _ z (by simp) hn
  rw[hz];have e:=h.hit hf;have hl2:(zAj 45 s).length≠1:=by
   rw[e,List.length_cons];have:=zCM 45 z;omega
  unfold zAI;cases hq:zBJ (zAj 45 s) with
  |none=>rfl
  |some q=>
   have:=zBL _ _ hq
   match q,this with
   |[],_=>rfl
   |[x],h'=>exact absurd h'.symm (by simpa using hl2)
   |[x,y],h'=>exact absurd h'.symm (by simpa using hl)
   |x::y::u::r,_=>rfl
theorem zDl (s:ByteArray) (w:World) (hs:s.size<=2000) (hm:zBx w):
 Calls Tryz.prog 191 #[.string s] w fun e w'=>zBb (zAI s) zQ8 e/\Below w.heap.size w w':=by
 have HC:=hid (zIj s 45 _ hs (hm.alloc (.cells #[.int .u16 0,.int .u16 0] 293)));have HM:Hid (zBx w):=hm;clear hm;go_enter Tryz.func191,Tryz.ntmps191;go_wp2_with (go_at_call 212;refine HC.out.mono ?_;rintro e w1 ⟨a,z,f,rfl,hcut,hb1⟩)
 ·have hv:zAI s=zJl (zBJ [a,a]):=zKY hcut (by simp_all)
  have ha:=hcut.sza;have hz:=hcut.szz;have T1:Two w1 w.heap.size (.int .u16 0) (.int .u16 0):=(Two.made w _ _ _).below hb1 (by simp);have HB1:=hid (((Below.refl _ w).alloc (Nat.le_refl _) _).trans (hb1.mono (by simp)));have HV:=hid hv;have HR:=zBi [a,a] w1.heap.size 0 2 (w1.alloc (.cells #[.string a,.string a] 9)) (by simp) (by simp;omega) (by simp) (zB2.made w1 [a,a] _);clear hcut hb1 hv HC HM;refine HR.mono ?_;rintro e w2 ⟨h1,h2,hb2⟩;have T2:Two w2 w.heap.size (.int .u16 0) (.int .u16 0):=(T1.below ((Below.refl _ w1).alloc (Nat.le_refl _) _) T1.lt).below hb2 (by have:=T1.lt;simp;omega);have HB2:=hid ((HB1.out.alloc HB1.out.size _).trans (hb2.mono (by have:=HB1.out.size;simp;omega)));obtain⟨c0,c1,f0,f1,lt⟩:=T2;have lt1:=T1.lt;clear T1 hb2 HR HB1;cases hq:zBJ [a,a] with
  |none=>
   obtain rfl:=h2 hq;rw[hq] at HV;clear h1 h2 hq;go_wp2_with fail;refine bodyPost_ret (v:= .tuple #[.agg #[.int .u16 0,.int .u16 0],.iface 22 (.int .i64 3)]) (by simp[results,Tryz.results191,go_sem,c0,c1]) rfl ⟨zBb.bad HV.out (by decide) rfl,?_⟩;exact(HB2.out.setCell (Nat.le_refl _) _).setCell (Nat.le_refl _) _
  |some q=>
   obtain⟨v,rfl,hO⟩:=h1 q hq;have hl:=zBL _ _ hq;obtain⟨x,y,rfl⟩:∃x y,q=[x,y]:=by
    match q,hl with
    |[x,y],_=>exact⟨x,y,rfl⟩
   obtain⟨g,cap,hvv,hg,hgl⟩:=hO.form (by simp);subst hvv;have hg':w.heap.size<g:=by simp at hg;omega
   have d0:w2.cell? ⟨g,0,none⟩=some (.int .u32 ((min x 65536:Nat):Int)):=by have:=hO.cellAt 0 (by simp);simpa[zId] using this
   have d1:w2.cell? ⟨g,1,none⟩=some (.int .u32 ((min y 65536:Nat):Int)):=by have:=hO.cellAt 1 (by simp);simpa[zId] using this
   rw[hq] at HV;obtain⟨x',hx'⟩:∃x':Nat,min x 65536=x':=⟨_,rfl⟩;obtain⟨y',hy'⟩:∃y':Nat,min y 65536=y':=⟨_,rfl⟩;rw[hx'] at d0;rw[hy'] at d1;have HX:=hid hx';have HY:=hid hy';clear h1 h2 hq hO hl hx' hy' hg
   by_cases hb:65535<(y':Int)
   ·have HE:Hid (zAI s=(5,[])):=show zAI s=(5,[]) by
     rw[HV.out]
     show(if y<=65535/\x<=y then(0,[x,y]) else(5,[]))=_
     rw[if_neg];have:=HY.out;omega
    go_upto_region 7 with fail
    go_quiet (fail);go_wp2_with fail;refine bodyPost_ret (v:= .tuple #[.agg #[.int .u16 0,.int .u16 0],.iface 22 (.int .i64 5)]) (by simp[results,Tryz.results191,go_sem,c0,c1]) rfl ⟨zBb.bad HE.out (by decide) rfl,?_⟩
    repeat (with_reducible first|exact HB2.out|refine below_drewN ?_ _|refine Below.drew ?_|refine Below.setCell ?_ (by first|(simp;done)|(simp;omega)) _)
   have hb':(y':Int)<=65535:=by omega
   clear hb
   by_cases hc:(y':Int)<(x':Int)
   ·have HE:Hid (zAI s=(5,[])):=show zAI s=(5,[]) by
     rw[HV.out]
     show(if y<=65535/\x<=y then(0,[x,y]) else(5,[]))=_
     rw[if_neg];have:=HY.out;have:=HX.out;omega
    go_upto_region 7 with fail
    go_quiet (fail);go_wp2_with fail;refine bodyPost_ret (v:= .tuple #[.agg #[.int .u16 0,.int .u16 0],.iface 22 (.int .i64 5)]) (by simp[results,Tryz.results191,go_sem,c0,c1]) rfl ⟨zBb.bad HE.out (by decide) rfl,?_⟩
    repeat (with_reducible first|exact HB2.out|refine below_drewN ?_ _|refine Below.drew ?_|refine Below.setCell ?_ (by first|(simp;done)|(simp;omega)) _)
   have hc':(x':Int)<=(y':Int):=by omega
   clear hc;have ex:x'=x:=by have:=HX.out;have:=HY.out;omega
   have ey:y'=y:=by have:=HX.out;have:=HY.out;omega
   subst ex ey;have HE:Hid (zAI s=(0,[x',y'])):=show zAI s=(0,[x',y']) by
    rw[HV.out]
    show(if y'<=65535/\x'<=y' then(0,[x',y']) else(5,[]))=_
    rw[if_pos ⟨by omega,by omega⟩]
   go_upto_region 7 with fail
   go_quiet (fail);go_upto_region 9 with fail
   go_region
   all_goals
    go_wp2_with fail;refine bodyPost_ret (v:= .tuple #[.agg #[.int .u16 (x':Int),.int .u16 (y':Int)],.nilIface]) (by simp[results,Tryz.results191,go_sem,c0,c1]) rfl ⟨zBb.fine HE.out rfl,?_⟩
    repeat (with_reducible first|exact HB2.out|refine below_drewN ?_ _|refine Below.drew ?_|refine Below.setCell ?_ (by first|(simp;done)|(simp;omega)) _)
 ·have hv:zAI s=zJl (zBJ [a,z]):=zLx hcut (by simp_all)
  have ha:=hcut.sza;have hz:=hcut.szz;have T1:Two w1 w.heap.size (.int .u16 0) (.int .u16 0):=(Two.made w _ _ _).below hb1 (by simp);have HB1:=hid (((Below.refl _ w).alloc (Nat.le_refl _) _).trans (hb1.mono (by simp)));have HV:=hid hv;have HR:=zBi [a,z] w1.heap.size 0 2 (w1.alloc (.cells #[.string a,.string z] 9)) (by simp) (by simp;omega) (by simp) (zB2.made w1 [a,z] _);clear hcut hb1 hv HC HM;refine HR.mono ?_;rintro e w2 ⟨h1,h2,hb2⟩;have T2:Two w2 w.heap.size (.int .u16 0) (.int .u16 0):=(T1.below ((Below.refl _ w1).alloc (Nat.le_refl _) _) T1.lt).below hb2 (by have:=T1.lt;simp;omega);have HB2:=hid ((HB1.out.alloc HB1.out.size _).trans (hb2.mono (by have:=HB1.out.size;simp;omega)));obtain⟨c0,c1,f0,f1,lt⟩:=T2;have lt1:=T1.lt;clear T1 hb2 HR HB1;cases hq:zBJ [a,z] with
  |none=>
   obtain rfl:=h2 hq;rw[hq] at HV;clear h1 h2 hq;go_wp2_with fail;refine bodyPost_ret (v:= .tuple #[.agg #[.int .u16 0,.int .u16 0],.iface 22 (.int .i64 3)]) (by simp[results,Tryz.results191,go_sem,c0,c1]) rfl ⟨zBb.bad HV.out (by decide) rfl,?_⟩;exact(HB2.out.setCell (Nat.le_refl _) _).setCell (Nat.le_refl _) _
  |some q=>
   obtain⟨v,rfl,hO⟩:=h1 q hq;have hl:=zBL _ _ hq;obtain⟨x,y,rfl⟩:∃x y,q=[x,y]:=by
    match q,hl with
    |[x,y],_=>exact⟨x,y,rfl⟩
   obtain⟨g,cap,hvv,hg,hgl⟩:=hO.form (by simp);subst hvv;have hg':w.heap.size<g:=by simp at hg;omega
   have d0:w2.cell? ⟨g,0,none⟩=some (.int .u32 ((min x 65536:Nat):Int)):=by have:=hO.cellAt 0 (by simp);simpa[zId] using this
   have d1:w2.cell? ⟨g,1,none⟩=some (.int .u32 ((min y 65536:Nat):Int)):=by have:=hO.cellAt 1 (by simp);simpa[zId] using this
   rw[hq] at HV;obtain⟨x',hx'⟩:∃x':Nat,min x 65536=x':=⟨_,rfl⟩;obtain⟨y',hy'⟩:∃y':Nat,min y 65536=y':=⟨_,rfl⟩;rw[hx'] at d0;rw[hy'] at d1;have HX:=hid hx';have HY:=hid hy';clear h1 h2 hq hO hl hx' hy' hg
   by_cases hb:65535<(y':Int)
   ·have HE:Hid (zAI s=(5,[])):=show zAI s=(5,[]) by
     rw[HV.out]
     show(if y<=65535/\x<=y then(0,[x,y]) else(5,[]))=_
     rw[if_neg];have:=HY.out;omega
    go_upto_region 7 with fail
    go_quiet (fail);go_wp2_with fail;refine bodyPost_ret (v:= .tuple #[.agg #[.int .u16 0,.int .u16 0],.iface 22 (.int .i64 5)]) (by simp[results,Tryz.results191,go_sem,c0,c1]) rfl ⟨zBb.bad HE.out (by decide) rfl,?_⟩
    repeat (with_reducible first|exact HB2.out|refine below_drewN ?_ _|refine Below.drew ?_|refine Below.setCell ?_ (by first|(simp;done)|(simp;omega)) _)
   have hb':(y':Int)<=65535:=by omega
   clear hb
   by_cases hc:(y':Int)<(x':Int)
   ·have HE:Hid (zAI s=(5,[])):=show zAI s=(5,[]) by
     rw[HV.out]
     show(if y<=65535/\x<=y then(0,[x,y]) else(5,[]))=_
     rw[if_neg];have:=HY.out;have:=HX.out;omega
    go_upto_region 7 with fail
    go_quiet (fail);go_wp2_with fail;refine bodyPost_ret (v:= .tuple #[.agg #[.int .u16 0,.int .u16 0],.iface 22 (.int .i64 5)]) (by simp[results,Tryz.results191,go_sem,c0,c1]) rfl ⟨zBb.bad HE.out (by decide) rfl,?_⟩
    repeat (with_reducible first|exact HB2.out|refine below_drewN ?_ _|refine Below.drew ?_|refine Below.setCell ?_ (by first|(simp;done)|(simp;omega)) _)
   have hc':(x':Int)<=(y':Int):=by omega
   clear hc;have ex:x'=x:=by have:=HX.out;have:=HY.out;omega
   have ey:y'=y:=by have:=HX.out;have:=HY.out;omega
   subst ex ey;have HE:Hid (zAI s=(0,[x',y'])):=show zAI s=(0,[x',y']) by
    rw[HV.out]
    show(if y'<=65535/\x'<=y' then(0,[x',y']) else(5,[]))=_
    rw[if_pos ⟨by omega,by omega⟩]
   go_upto_region 7 with fail
   go_quiet (fail);go_upto_region 9 with fail
   go_region
   all_goals
    go_wp2_with fail;refine bodyPost_ret (v:= .tuple #[.agg #[.int .u16 (x':Int),.int .u16 (y':Int)],.nilIface]) (by simp[results,Tryz.results191,go_sem,c0,c1]) rfl ⟨zBb.fine HE.out rfl,?_⟩
    repeat (with_reducible first|exact HB2.out|refine below_drewN ?_ _|refine Below.drew ?_|refine Below.setCell ?_ (by first|(simp;done)|(simp;omega)) _)
theorem zIk (a b:Nat) (ha:a<4294967296) (hb:b<4294967296):a&&& (4294967295-b)=0↔a&&& b=a:=by
 have e:4294967295-b=2 ^ 32-(b+1):=by omega
 rw[e]
 constructor
 ·intro h
  apply Nat.eq_of_testBit_eq
  intro i;have hi:=congrArg (fun n=>Nat.testBit n i) h;simp only[Nat.testBit_and,Nat.zero_testBit,Nat.testBit_two_pow_sub_succ (show b<2 ^ 32 by omega)] at hi;rw[Nat.testBit_and]
  by_cases h32:i<32
  ·simp only[h32,decide_true,Bool.true_and] at hi
   cases ha':a.testBit i<;>cases hb':b.testBit i<;>simp_all
  ·have:a.testBit i=false:=Nat.testBit_lt_two_pow (Nat.lt_of_lt_of_le (show a<2 ^ 32 by omega) (Nat.pow_le_pow_right (by decide) (by omega)))
   rw[this];rfl
 ·intro h
  apply Nat.eq_of_testBit_eq
  intro i;have hi:=congrArg (fun n=>Nat.testBit n i) h;simp only[Nat.testBit_and] at hi;simp only[Nat.testBit_and,Nat.zero_testBit,Nat.testBit_two_pow_sub_succ (show b<2 ^ 32 by omega)];cases ha':a.testBit i<;>cases hb':b.testBit i<;>simp_all
def zRA (q:Option (List Nat)):Nat×List Nat:=match q with
 |some [m,s]=>if m<=63/\s&&& m=s then(0,[m,s]) else(5,[])
 |_=>(3,[])
theorem zLy {s a z:ByteArray} {f:Bool} (h:zGb 47 s a z f):zAk s=zRA (zBJ [a,z]):=by
 rcases h.two (by decide) with⟨_,e⟩|⟨hn,hl⟩
 ·unfold zAk
  rw[e];rfl
 ·have hz:zBJ [a,z]=none:=zCj _ z (by simp) hn
  rw[hz];unfold zAk;cases hq:zBJ (zAj 47 s) with
  |none=>rfl
  |some q=>
   have:=zBL _ _ hq
   match q,this with
   |[],_=>rfl
   |[x],_=>rfl
   |[x,y],h'=>exact absurd h'.symm (by simpa using hl)
   |x::y::u::r,_=>rfl
theorem zHQ (a b:Nat) (h:a&&& b=a):a<=b:=by rw[<-h];exact Nat.and_le_right
theorem zGf (s:ByteArray) (w:World) (hs:s.size<=2000) (hm:zBx w):
 Calls Tryz.prog 192 #[.string s] w fun e w'=>zBA (zAk s) zES e/\Below w.heap.size w w':=by
 have HC:=hid (zIj s 47 _ hs hm);clear hm;go_enter Tryz.func192,Tryz.ntmps192;go_wp2_with (go_at_call 212;refine HC.out.mono ?_;rintro e w1 ⟨a,z,f,rfl,hcut,hb1⟩);have ha:=hcut.sza;have hz:=hcut.szz;have HB1:=hid hb1;have HV:=hid (zLy hcut);have HR:=zBi [a,z] w1.heap.size 0 2 (w1.alloc (.cells #[.string a,.string z] 9)) (by simp) (by simp;omega) (by simp) (zB2.made w1 [a,z] _);clear hcut hb1 HC;refine HR.mono ?_;rintro e w2 ⟨h1,h2,hb2⟩;have HB2:=hid ((HB1.out.alloc HB1.out.size _).trans (hb2.mono (by have:=HB1.out.size;simp;omega)));clear hb2 HR HB1;cases hq:zBJ [a,z] with
 |none=>
  obtain rfl:=h2 hq;rw[hq] at HV;clear h1 h2 hq;go_wp2_with fail;go_ret2;exact⟨zBA.bad HV.out (by decide) rfl,HB2.out⟩
 |some q=>
  obtain⟨v,rfl,hO⟩:=h1 q hq;have hl:=zBL _ _ hq;obtain⟨x,y,rfl⟩:∃x y,q=[x,y]:=by
   match q,hl with
   |[x,y],_=>exact⟨x,y,rfl⟩
  obtain⟨g,cap,hvv,hg,hgl⟩:=hO.form (by simp);subst hvv;have d0:w2.cell? ⟨g,0,none⟩=some (.int .u32 ((min x 65536:Nat):Int)):=by have:=hO.cellAt 0 (by simp);simpa[zId] using this
  have d1:w2.cell? ⟨g,1,none⟩=some (.int .u32 ((min y 65536:Nat):Int)):=by have:=hO.cellAt 1 (by simp);simpa[zId] using this
  rw[hq] at HV;obtain⟨x',hx'⟩:∃x':Nat,min x 65536=x':=⟨_,rfl⟩;obtain⟨y',hy'⟩:∃y':Nat,min y 65536=y':=⟨_,rfl⟩;rw[hx'] at d0;rw[hy'] at d1;have HX:=hid hx';have HY:=hid hy';have hyb:y'<=65536:=by omega
  clear h1 h2 hq hO hl hx' hy' hg
  by_cases hb:63<(x':Int)
  ·have HE:Hid (zAk s=(5,[])):=show zAk s=(5,[]) by
    rw[HV.out]
    show(if x<=63/\y&&& x=y then(0,[x,y]) else(5,[]))=_
    rw[if_neg];have:=HX.out;omega
   go_upto_region 5 with fail
   go_quiet (fail);go_wp2_with fail;go_ret2;exact⟨zBA.bad HE.out (by decide) rfl,below_drewN HB2.out _⟩
  have hb':(x':Int)<=63:=by omega
  have ex:x'=x:=by have:=HX.out;omega
  subst ex;clear hb;obtain⟨d,hd⟩:∃d:Int,bits .andNot .u32 (y':Int) (x':Int)=d:=⟨_,rfl⟩;have hd':=hd;rw[u32_andNot_nat y' x' (by omega) (by omega)] at hd';have hz:=zIk y' x' (by omega) (by omega)
  by_cases hc:(d == 0)=true
  ·have h0:d=0:=by simpa using hc
   have hye:y'&&& x'=y':=hz.1 (by omega);have ey:y'=y:=by have:=HY.out;have:=zHQ _ _ hye;omega
   have HE:Hid (zAk s=(0,[x',y'])):=show zAk s=(0,[x',y']) by
    rw[HV.out,<-ey]
    show(if x'<=63/\y'&&& x'=y' then(0,[x',y']) else(5,[]))=_
    rw[if_pos ⟨by omega,hye⟩]
   have hy63:(y':Int)<=63:=by have:=zHQ _ _ hye;omega
   have hc':(d !=0)=false:=by simpa using h0
   clear hz hd' hye ey h0 hc;go_upto_region 5 with fail
   go_quiet (fail);go_upto_region 7 with fail
   go_quiet (fail);go_wp2_with fail;go_ret2;exact⟨zBA.fine HE.out rfl,below_drewN (below_drewN HB2.out _) _⟩
  ·have h0:d≠0:=by simpa using hc
   have hne:¬(y&&& x'=y):=by
    intro hye;have hle:=zHQ _ _ hye;have ey:y'=y:=by have:=HY.out;omega
    subst ey;have:=hz.2 hye;omega
   have HE:Hid (zAk s=(5,[])):=show zAk s=(5,[]) by
    rw[HV.out]
    show(if x'<=63/\y&&& x'=y then(0,[x',y]) else(5,[]))=_
    rw[if_neg (fun q=>hne q.2)]
   have hc':(d !=0)=true:=by simpa using h0
   clear hz hd' hne h0 hc;go_upto_region 5 with fail
   go_quiet (fail);go_wp2_with fail;go_ret2;exact⟨zBA.bad HE.out (by decide) rfl,below_drewN HB2.out _⟩
theorem zFm (w:World):Calls Tryz.prog 215 #[] w fun e w'=>e= .returned (.slice (some ⟨w.heap.size,0,none⟩) 3 3)/\w'=w.alloc (.cells (sws.map Value.string).toArray 9):=by
 go_enter Tryz.func215,Tryz.ntmps215;go_wp2;go_ret;exact⟨rfl,rfl⟩
theorem zCu (w:World):Calls Tryz.prog 65 #[] w fun e w'=>e= .returned (.slice (some ⟨w.heap.size,0,none⟩) 3 3)/\w'=w.alloc (.cells (vws.map Value.string).toArray 9):=by
 go_enter Tryz.func65,Tryz.ntmps65;go_wp2;go_ret;exact⟨rfl,rfl⟩
theorem zLz (w:World):Calls Tryz.prog 97 #[] w fun e w'=>e= .returned (.slice (some ⟨w.heap.size,0,none⟩) 8 8)/\w'=w.alloc (.cells (nws.map Value.string).toArray 9):=by
 go_enter Tryz.func97,Tryz.ntmps97;go_wp2;go_ret;exact⟨rfl,rfl⟩
theorem zDW (ws:List ByteArray) (b off cap:Nat) (x:ByteArray) (w:World) (hn:ws.length<=100) (hc:zB2 w b off ws):
 Calls Tryz.prog 163 #[.slice (some ⟨b,off,none⟩) ws.length cap,.string x] w fun e w'=>e= .returned (.int .i64 (plc ws x))/\Below w.heap.size w w':=
 (zLs ws b off cap x w hn hc).mono fun e w' ⟨he,hw⟩=>⟨he,hw▸Below.refl _ _⟩
structure zFn (w:World) (g:Nat) (l:List Bool):Prop where
 c:∀i,i<3->w.cell? ⟨g,i,none⟩=some (.bool (l.getD i false))
 f:∀i,w.frozen? ⟨g,i,none⟩=false
 len:l.length=3
 lt:g<w.heap.size
theorem zFn.below {w w':World} {g B:Nat} {l:List Bool} (h:zFn w g l) (hw:Below B w w') (hg:g<B):zFn w' g l:=
 ⟨fun i hi=>(hw.cell (p:=⟨g,i,none⟩) hg).trans (h.c i hi),fun i=>(hw.frozen (p:=⟨g,i,none⟩) hg).trans (h.f i),h.len,Nat.lt_of_lt_of_le h.lt hw.size⟩
theorem zFn.set {w:World} {g:Nat} {l:List Bool} (h:zFn w g l) (k:Nat) (hk:k<3) (b:Bool):zFn (w.setCell ⟨g,k,none⟩ (.bool b)) g (l.set k b):=by
 refine⟨fun i hi=> ?_,fun i=>by simp[h.f],by rw[List.length_set];exact h.len,by simp[World.setCell];exact h.lt⟩
 by_cases e:k=i
 ·subst e
  rw[World.cell?_setCell_same _ _ _ (h.c k hk)];simp[List.getD_eq_getElem?_getD,h.len,hk]
 ·rw[World.cell?_setCell_other _ _ _ _ (by intro q;apply e;cases q;rfl),h.c i hi]
  simp[List.getD_eq_getElem?_getD,List.getElem?_set_ne e]
theorem zET {l:List ByteArray} {p:ByteArray} {r:List ByteArray} {b:List Bool} {t:Bool} (h:l=p::r):zAz l b t=zAz r (b.set (plc sws p).toNat true) (t||b.getD (plc sws p).toNat false):=by rw[h,zAz]
theorem zFo (s:ByteArray) (w:World) (hs:s.size<=2000) (hm:zBx w):
 Calls Tryz.prog 193 #[.string s] w fun e w'=>zBA (zAc s) zDR e/\Below w.heap.size w w':=by
 have HC:Hid (Calls _ _ _ (w.alloc (.cells #[.bool false,.bool false,.bool false] 358)) _):=zDk s 44 _ hs (hm.alloc (.cells #[.bool false,.bool false,.bool false] 358));have hcl:=zBq 44 s;obtain⟨cs,hcs⟩:∃cs,zAj 44 s=cs:=⟨_,rfl⟩;rw[hcs] at HC hcl;have HV:Hid (zAc s=if cs.any (fun q=>decide (plc sws q<0)) then(3,[]) else if(zAz cs [false,false,false] false).2 then(5,[]) else(0,(zAz cs [false,false,false] false).1.map bn)):=show zAc s=_ by unfold zAc;rw[hcs]
 clear hcs hm;go_enter Tryz.func193,Tryz.ntmps193;go_wp2_with (go_at_call 92;refine HC.out.mono ?_;rintro e w1 ⟨rfl,rfl⟩);go_loopw [5,12] (fun tv i wr=>∃(j:Nat) (l:List Bool) (t:Bool),j<=cs.length/\i= .int .i64 j/\tv= .bool t/\(∀p ∈ cs.take j,0<=plc sws p)/\zAz cs [false,false,false] false=zAz (cs.drop j) l t/\zFn wr w.heap.size l/\Tch w.heap.size ((w.alloc (.cells #[.bool false,.bool false,.bool false] 358)).alloc (.cells (cs.map Value.string).toArray 9)) wr) (fun _ i _=>cs.length-(intOf i).toNat)
 case atStart=>
  refine⟨0,[false,false,false],false,Nat.zero_le _,rfl,rfl,fun p hp=>by simp at hp,by simp,?_,Tch.refl _ _⟩;refine zFn.below (B:=w.heap.size+1) (w:=w.alloc (.cells #[.bool false,.bool false,.bool false] 358)) ⟨fun i hi=> ?_,fun i=>World.frozen?_alloc_at _ _ _ _ rfl,rfl,by simp⟩ ((Below.refl _ _).alloc (by simp) _) (Nat.lt_succ_self _);rw[World.cell?_alloc_at _ _ _ _ rfl];rcases i with _|_|_|i
  ·rfl
  ·rfl
  ·rfl
  ·omega
 case round=>
  obtain⟨j,l,t,hj,rfl,rfl,hpre,hin,hT3,hT⟩:=hrel;have HPRE:=hid hpre;have HIN:=hid hin;have HT3:=hid hT3;have HT:=hid hT;have hwl:w.heap.size+2<=wr.heap.size:=by have:=hT.size;simp at this;omega
  have HBw:Hid (Below w.heap.size w wr):=(((Below.refl _ w).alloc (Nat.le_refl _) _).alloc (by simp) _).trans (hT.below (Nat.le_refl _) (by simp;omega));clear hpre hin hT3 hT
  by_cases hlt:j<cs.length
  ·have c:wr.cell? ⟨w.heap.size+1,j,none⟩=some (.string (cs.getD j ByteArray.empty)):=by
    rw[HT.out.cell (p:=⟨w.heap.size+1,j,none⟩) (by simp) (by simp)];have:=zB2.made (w.alloc (.cells #[.bool false,.bool false,.bool false] 358)) cs 9 j hlt;rw[Nat.zero_add] at this
    simpa using this
   obtain⟨p,hp⟩:∃p,cs.getD j ByteArray.empty=p:=⟨_,rfl⟩;rw[hp] at c;have hd:cs.drop j=p::cs.drop (j+1):=by
    rw[List.drop_eq_getElem_cons hlt,<-hp,List.getD_eq_getElem?_getD,List.getElem?_eq_getElem hlt];rfl
   have hpm:p ∈ cs:=by
    rw[<-hp,List.getD_eq_getElem?_getD,List.getElem?_eq_getElem hlt];exact List.getElem_mem hlt
   have htk:cs.take (j+1)=cs.take j++[p]:=by
    rw[List.take_add_one,<-hp,List.getD_eq_getElem?_getD,List.getElem?_eq_getElem hlt];rfl
   have HD:=hid hd;have HPM:Hid (p ∈ cs):=hpm;have HTK:=hid htk;have HI:=zDW sws wr.heap.size 0 3 p (wr.alloc (.cells (sws.map Value.string).toArray 9)) (by decide) (zB2.made wr sws _);have hlt3:=zCy sws p;have e3:sws.length=3:=rfl;rw[e3] at HI hlt3;have HII:=hid HI;clear hp hd hpm htk HI e3;go_upto_region 7 with(first|(go_at_call 215;refine(zFm _).mono ?_;rintro e w' ⟨rfl,rfl⟩)|(go_at_call 163;refine HII.out.mono ?_;rintro e w2 ⟨rfl,hb2⟩))
   have HB2:Hid (Below wr.heap.size wr w2):=((Below.refl _ wr).alloc (Nat.le_refl _) _).trans (hb2.mono (by simp));have HT2:Hid (zFn w2 w.heap.size l):=HT3.out.below HB2.out (by omega);clear hb2 HII HC
   by_cases hneg:plc sws p<0
   ·have HE:Hid (zAc s=(3,[])):=show zAc s=(3,[]) by
     rw[HV.out,if_pos];rw[List.any_eq_true];exact⟨p,HPM.out,by simpa using hneg⟩
    go_wp2_with fail;go_ret2;exact⟨zBA.bad HE.out (by decide) rfl,HBw.out.trans (HB2.out.mono HBw.out.size)⟩
   obtain⟨k,hk⟩:∃k:Nat,plc sws p=k:=⟨(plc sws p).toNat,by omega⟩;have HK:=hid hk;have hk3:k<3:=by omega
   rw[hk];clear hneg hk hlt3;have ck:=HT2.out.c k hk3;have fk:=HT2.out.f k;obtain⟨b,hb⟩:∃b,l.getD k false=b:=⟨_,rfl⟩;rw[hb] at ck;have HBB:=hid hb;clear hb;have HNX:Hid (zAz cs [false,false,false] false=zAz (cs.drop (j+1)) (l.set k true) (t||b)):=show _=_ by
    rw[HIN.out,zET HD.out,HK.out,Int.toNat_natCast,HBB.out]
   have HPX:Hid (∀q ∈ cs.take (j+1),0<=plc sws q):=fun q hq=>by
    rw[HTK.out] at hq;rcases List.mem_append.1 hq with hq|hq
    ·exact HPRE.out q hq
    ·rw[List.mem_singleton] at hq;subst hq;rw[HK.out];omega
   have HTX:Hid (Tch w.heap.size ((w.alloc (.cells #[.bool false,.bool false,.bool false] 358)).alloc (.cells (cs.map Value.string).toArray 9)) (w2.setCell ⟨w.heap.size,k,none⟩ (.bool true))):=(HT.out.trans (Tch.of HB2.out)).set _ _;have H3X:Hid (zFn (w2.setCell ⟨w.heap.size,k,none⟩ (.bool true)) w.heap.size (l.set k true)):=HT2.out.set k hk3 true;cases t with
   |true=>
    go_wp2_with fail;go_roundw
    case rel=>exact⟨j+1,l.set k true,true,by omega,by go_num,rfl,HPX.out,HNX.out,H3X.out,HTX.out⟩
    case measure=>simp[intOf];omega
   |false=>
    go_wp2_with fail;go_roundw
    case rel=>exact⟨j+1,l.set k true,b,by omega,by go_num,rfl,HPX.out,HNX.out,H3X.out,HTX.out⟩
    case measure=>simp[intOf];omega
  ·have e:j=cs.length:=by omega
   subst e;rw[List.take_length] at HPRE;rw[List.drop_length] at HIN;have hany:cs.any (fun q=>decide (plc sws q<0))=false:=by
    rw[List.any_eq_false];intro q hq;have:=HPRE.out q hq
    simpa using this
   rw[hany,HIN.out] at HV;have c0:=HT3.out.c 0 (by omega);have c1:=HT3.out.c 1 (by omega);have c2:=HT3.out.c 2 (by omega);have hlen:=HT3.out.len;obtain⟨b0,b1,b2,rfl⟩:∃b0 b1 b2,l=[b0,b1,b2]:=by
    match l,hlen with
    |[b0,b1,b2],_=>exact⟨b0,b1,b2,rfl⟩
   replace c0:wr.cell? ⟨w.heap.size,0,none⟩=some (.bool b0):=c0
   replace c1:wr.cell? ⟨w.heap.size,1,none⟩=some (.bool b1):=c1
   replace c2:wr.cell? ⟨w.heap.size,2,none⟩=some (.bool b2):=c2
   clear hany hlen;cases t with
   |true=>
    go_wp2_with fail;go_ret2;exact⟨zBA.bad HV.out (by decide) rfl,HBw.out⟩
   |false=>
    go_wp2_with fail;go_ret2;refine⟨zBA.fine HV.out ?_,HBw.out⟩;cases b0<;>cases b1<;>cases b2<;>rfl
theorem zDm {w:World} {B B':Nat} {e:TypeId} {sz:Nat} {v:Value} {n:Nat} {xs:List Value} (h:w.ownsRow B e sz v n xs) (hb:B'<=B):w.ownsRow B' e sz v n xs:=by
 refine⟨h.1,?_⟩;rcases h.2 with h'|⟨g,cap,cur,e,hg,r⟩
 ·exact .inl h'
 ·exact .inr ⟨g,cap,cur,e,Nat.le_trans hb hg,r⟩
theorem zHR (s:ByteArray) (cs:List ByteArray) (h:zAj 32 s=cs):zAh s=cs.filter fun p=>p.size !=0:=by unfold zAh;rw[h]
theorem zHS (s:ByteArray) (w:World) (hs:s.size<=2000) (hm:zBx w):
 Calls Tryz.prog 93 #[.string s] w fun e w'=>∃v,e= .returned v/\w'.ownsRow w.heap.size 9 1 v (zAh s).length ((zAh s).map Value.string)/\Below w.heap.size w w':=by
 obtain⟨i0,hi0,hz0,hz1,hz2⟩:=zAi Tryz.infoStr;have HC:=hid (zDk s 32 _ hs hm);have hcl:=zBq 32 s;obtain⟨cs,hcs⟩:∃cs,zAj 32 s=cs:=⟨_,rfl⟩;rw[hcs] at HC hcl;have HV:=hid (zHR s cs hcs);clear hcs hm;go_enter Tryz.func93,Tryz.ntmps93;go_wp2_with (go_at_call 92;refine HC.out.mono ?_;rintro e w1 ⟨rfl,rfl⟩);go_loopw [3,9] (fun v i wr=>∃(j:Nat) (q:List ByteArray),j<=cs.length/\i= .int .i64 j/\q=(cs.take j).filter (fun p=>p.size !=0)/\q.length<=j/\wr.ownsRow (w.heap.size+1) 9 1 v q.length (q.map Value.string)/\Below (w.heap.size+1) (w.alloc (.cells (cs.map Value.string).toArray 9)) wr) (fun _ i _=>cs.length-(intOf i).toNat)
 case atStart=>exact⟨0,[],Nat.zero_le _,rfl,by simp,by simp,World.ownsRow_nil _ _ _ _,Below.refl _ _⟩
 case round=>
  obtain⟨j,q,hj,rfl,hq,hql,hO,hB⟩:=hrel;have HQ:=hid hq;have HO:=hid hO;have HB:=hid hB;have hz:w.heap.size+1<=wr.heap.size:=by have:=hB.size;simpa using this
  clear hq hO hB
  by_cases hlt:j<cs.length
  ·have c:wr.cell? ⟨w.heap.size,j,none⟩=some (.string (cs.getD j ByteArray.empty)):=by
    rw[HB.out.cell (p:=⟨w.heap.size,j,none⟩) (Nat.lt_succ_self _)];have:=zB2.made w cs 9 j hlt;rw[Nat.zero_add] at this;exact this
   obtain⟨p,hp⟩:∃p,cs.getD j ByteArray.empty=p:=⟨_,rfl⟩;rw[hp] at c;have htk:cs.take (j+1)=cs.take j++[p]:=by
    rw[List.take_add_one,<-hp,List.getD_eq_getElem?_getD,List.getElem?_eq_getElem hlt];rfl
   have HTK:=hid htk;clear hp htk
   by_cases h0:p.size=0
   ·have he:=zDi p h0
    have HQ':Hid (q=(cs.take (j+1)).filter (fun p=>p.size !=0)):=show q=_ by
     rw[HTK.out,List.filter_append,<-HQ.out];simp[h0]
    go_wp2_with fail;go_roundw
    case rel=>exact⟨j+1,q,by omega,by go_num,HQ'.out,by omega,HO.out,HB.out⟩
    case measure=>simp[intOf];omega
   ·have he:=zDj p h0
    have HQ':Hid (q++[p]=(cs.take (j+1)).filter (fun p=>p.size !=0)):=show q++[p]=_ by
     rw[HTK.out,List.filter_append,<-HQ.out];simp[h0]
    go_upto_region 6 with fail
    go_wp2_with (at_builtin;refine wpList_append_lies _ rfl _ _ 57 rfl (w.heap.size+1) 9 i0 _ 1 16 Tryz.underlying57 hi0 hz0 hz1 hz2 rfl (by decide) u3 q.length (q.map Value.string) rfl (HO.out.alloc _) ⟨wr.heap.size,0,none⟩ 1 1 [.string p] rfl rfl (zBh wr _ _) (by simp[Value.oneCell']) (by decide) (by unfold maxLen;omega) (by omega) (by simp;omega) (wr.heap.size+1) (by simp) ?_;intro gg cap' w1 hown1 hgrow hat hlt1);have HO1:Hid (w1.ownsRow (w.heap.size+1) 9 1 (.slice (some ⟨gg,0,none⟩) (q.length+1) cap') (q++[p]).length ((q++[p]).map Value.string)):=show World.ownsRow _ _ _ _ _ _ _ by
     rw[List.map_append,List.length_append];exact hown1
    have HB1:=hid (Below.grown (w:=wr.alloc (.cells #[.string p] 9)) (HB.out.alloc hz _) hgrow (by simp;omega) (zAE HO.out));clear hown1 hgrow hat hlt1;go_wp2_with fail;go_roundw
    case rel=>exact⟨j+1,q++[p],by omega,by go_num,HQ'.out,by simp;omega,HO1.out,HB1.out⟩
    case measure=>simp[intOf];omega
  ·have e:j=cs.length:=by omega
   subst e;go_wp2_with fail;go_ret;rw[HV.out];have e:q=cs.filter fun p=>p.size !=0:=by rw[HQ.out,List.take_length]
   rw[<-e];exact⟨_,rfl,zDm HO.out (Nat.le_succ _),((Below.refl _ w).alloc (Nat.le_refl _) _).trans (HB.out.mono (Nat.le_succ _))⟩
end Go.Proofs.YtclpnafiiobfhaaGreatDoor

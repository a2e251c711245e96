import Derived.Test.YtclpnafiiobfhaaGreatDoorQ09
set_option linter.unusedVariables false
set_option linter.unusedSimpArgs false
set_option maxHeartbeats 3200000
namespace Go.Proofs.YtclpnafiiobfhaaGreatDoor
open Go.RowKit
def zC5 (c:Cod):List Bool->Nat->Cod
 |[],_=>c
 |b::r,i=>zC5 (if b then c else c.unless ⟨8,0,0,0,(i:Int)⟩) r (i+1)
def zSK (c:Cod) (a:Nat) (v:List Nat):Cod:=(((c.sure (a+4)).add ⟨3,0,0,0,(a:Int)⟩).add ⟨6,0,0,0,(zAb (v.getD 1 0):Int)⟩).leave ⟨8,0,0,0,n0 v 0⟩
def zRT (c:Cod) (a:Nat) (v:List Nat):Cod:=(((c.sure (a+2)).add ⟨2,0,0,0,(a:Int)⟩).leave ⟨9,0,0,0,n0 v 0⟩).unless ⟨9,0,0,0,n0 v 1+1⟩
def zFq (i:Nat) (v:List Nat) (c:Cod):Cod:=
 if i=0 then(c.add ⟨4,0,0,0,0⟩).leave ⟨8,0,0,0,n0 v 0⟩
 else if i=1 then zSK c 26 v
 else if i=2 then zSK c 30 v
 else if i=3 then((c.sure 24).add ⟨1,0,0,0,23⟩).leave ⟨8,0,0,0,n0 v 0⟩
 else if i=4 then zRT c 34 v
 else if i=5 then zRT c 36 v
 else if i=6 then(((c.sure 48).add ⟨1,0,0,0,47⟩).add ⟨6,0,0,0,n0 v 0⟩).leave ⟨8,0,0,0,n0 v 1⟩
 else zC5 ((c.add ⟨4,0,0,0,1⟩).unless ⟨9,0,0,0,3⟩) [v.getD 0 0 == 1,v.getD 1 0 == 1,v.getD 2 0 == 1] 0
theorem zRU (B Q:Nat) (c:Cod) (n:Nat) (hn:n<=255) (hs:c.Sm 3700):zCD 305 #[.agg #[.int .u8 (n:Int)],.pointer (some ⟨Q,0,none⟩)] B Q c ((c.add ⟨4,0,0,0,0⟩).leave ⟨8,0,0,0,(n:Int)⟩):=by
 intro w hC;have hQ:=hC.lt;have hn':(n:Int)<=255:=by omega
 obtain⟨W0,hW0⟩:∃W0,w.alloc (.cells #[.int .u8 (n:Int)] 350)=W0:=⟨_,rfl⟩;have HG0:=hid (show zBj Q w W0 by rw[<-hW0];exact zA2 w Q _ hQ);have HX0:=hid (show Bx W0 Q w.heap.size _ by rw[<-hW0];exact Bx.made hC _ _);have HC0:=hid (show zAg W0 B Q c by rw[<-hW0];exact hC.below (bal _ _));have HW0:=hid hW0;clear hW0 hC;go_enter Tryz.func305,Tryz.ntmps305;go_upto_region 1 with fail
 rw[HW0.out];clear HW0;have r0:W0.cell? ⟨w.heap.size,0,none⟩=some (.int .u8 (n:Int)):=HX0.out.c 0;have HS0:=hid (zPg B Q c 0 (hs.mono (by decide)) W0 HC0.out);go_upto_region 2 with(go_at_call 307;refine HS0.out.mono ?_;rintro e' W1 ⟨rfl,hC1,hG1⟩)
 have HG1:=hid (HG0.out.trans hG1);have HX1:=hid (HX0.out.chgO hG1);have HC1:=hid hC1;clear hG1 hC1 HS0 r0;have r0:W1.cell? ⟨w.heap.size,0,none⟩=some (.int .u8 (n:Int)):=HX1.out.c 0;have HS1:=hid (zFB B Q (c.add ⟨4,0,0,0,0⟩) 8 (n:Int) ((hs.add _).mono (by decide)) W1 HC1.out);go_wp2_with (go_at_call 292;refine HS1.out.mono ?_;rintro e' W2 ⟨rfl,hC2,hG2⟩);go_end0;exact⟨rfl,hC2,HG1.out.trans hG2⟩
theorem zMQ (B Q:Nat) (c:Cod) (wd:ByteArray) (n:Nat) (hn:n<=255) (hs:c.Sm 3700):zCD 303 #[.agg #[.string wd,.int .u8 (n:Int)],.pointer (some ⟨Q,0,none⟩)] B Q c (((c.sure 24).add ⟨1,0,0,0,23⟩).leave ⟨8,0,0,0,(n:Int)⟩):=by
 intro w hC;have hQ:=hC.lt;have hn':(n:Int)<=255:=by omega
 obtain⟨W0,hW0⟩:∃W0,w.alloc (.cells #[.string wd,.int .u8 (n:Int)] 329)=W0:=⟨_,rfl⟩;have HG0:=hid (show zBj Q w W0 by rw[<-hW0];exact zA2 w Q _ hQ);have HX0:=hid (show Bx W0 Q w.heap.size _ by rw[<-hW0];exact Bx.made hC _ _);have HC0:=hid (show zAg W0 B Q c by rw[<-hW0];exact hC.below (bal _ _));have HW0:=hid hW0;clear hW0 hC;go_enter Tryz.func303,Tryz.ntmps303;go_upto_region 1 with fail
 rw[HW0.out];clear HW0;have r0:W0.cell? ⟨w.heap.size,0,none⟩=some (.string wd):=HX0.out.c 0;have r1:W0.cell? ⟨w.heap.size,1,none⟩=some (.int .u8 (n:Int)):=HX0.out.c 1;have HS0:=hid (zGo B Q c 1 23 24 (Or.inl rfl) (by decide) rfl (hs.mono (by decide)) W0 HC0.out);go_upto_region 2 with(go_at_call 291;refine HS0.out.mono ?_;rintro e' W1 ⟨rfl,hC1,hG1⟩)
 have HG1:=hid (HG0.out.trans hG1);have HX1:=hid (HX0.out.chgO hG1);have HC1:=hid hC1;clear hG1 hC1 HS0 r0 r1;have r0:W1.cell? ⟨w.heap.size,0,none⟩=some (.string wd):=HX1.out.c 0;have r1:W1.cell? ⟨w.heap.size,1,none⟩=some (.int .u8 (n:Int)):=HX1.out.c 1;have HS1:=hid (zFB B Q ((c.sure 24).add ⟨1,0,0,0,23⟩) 8 (n:Int) (((hs.sure _).add _).mono (by decide)) W1 HC1.out);go_wp2_with (go_at_call 292;refine HS1.out.mono ?_;rintro e' W2 ⟨rfl,hC2,hG2⟩);go_end0;exact⟨rfl,hC2,HG1.out.trans hG2⟩
theorem zRV (B Q:Nat) (c:Cod) (m s:Nat) (hm:m<=255) (hs2:s<=255) (hs:c.Sm 3700):zCD 296 #[.agg #[.int .u8 (m:Int),.int .u8 (s:Int)],.pointer (some ⟨Q,0,none⟩)] B Q c ((((c.sure 48).add ⟨1,0,0,0,47⟩).add ⟨6,0,0,0,(m:Int)⟩).leave ⟨8,0,0,0,(s:Int)⟩):=by
 intro w hC;have hQ:=hC.lt;have hm':(m:Int)<=255:=by omega
 have hs':(s:Int)<=255:=by omega
 obtain⟨W0,hW0⟩:∃W0,w.alloc (.cells #[.int .u8 (m:Int),.int .u8 (s:Int)] 298)=W0:=⟨_,rfl⟩;have HG0:=hid (show zBj Q w W0 by rw[<-hW0];exact zA2 w Q _ hQ);have HX0:=hid (show Bx W0 Q w.heap.size _ by rw[<-hW0];exact Bx.made hC _ _);have HC0:=hid (show zAg W0 B Q c by rw[<-hW0];exact hC.below (bal _ _));have HW0:=hid hW0;clear hW0 hC;go_enter Tryz.func296,Tryz.ntmps296;go_upto_region 1 with fail
 rw[HW0.out];clear HW0;have r0:W0.cell? ⟨w.heap.size,0,none⟩=some (.int .u8 (m:Int)):=HX0.out.c 0;have r1:W0.cell? ⟨w.heap.size,1,none⟩=some (.int .u8 (s:Int)):=HX0.out.c 1;have HS0:=hid (zGo B Q c 1 47 48 (Or.inl rfl) (by decide) rfl (hs.mono (by decide)) W0 HC0.out);go_upto_region 2 with(go_at_call 291;refine HS0.out.mono ?_;rintro e' W1 ⟨rfl,hC1,hG1⟩)
 have HG1:=hid (HG0.out.trans hG1);have HX1:=hid (HX0.out.chgO hG1);have HC1:=hid hC1;clear hG1 hC1 HS0 r0 r1;have r0:W1.cell? ⟨w.heap.size,0,none⟩=some (.int .u8 (m:Int)):=HX1.out.c 0;have r1:W1.cell? ⟨w.heap.size,1,none⟩=some (.int .u8 (s:Int)):=HX1.out.c 1;have HS1:=hid (zMP B Q ((c.sure 48).add ⟨1,0,0,0,47⟩) (m:Int) (((hs.sure _).add _).mono (by decide)) W1 HC1.out);go_upto_region 3 with(go_at_call 298;refine HS1.out.mono ?_;rintro e' W2 ⟨rfl,hC2,hG2⟩)
 have HG2:=hid (HG1.out.trans hG2);have HX2:=hid (HX1.out.chgO hG2);have HC2:=hid hC2;clear hG2 hC2 HS1 r0 r1;have r0:W2.cell? ⟨w.heap.size,0,none⟩=some (.int .u8 (m:Int)):=HX2.out.c 0;have r1:W2.cell? ⟨w.heap.size,1,none⟩=some (.int .u8 (s:Int)):=HX2.out.c 1;have HS2:=hid (zFB B Q (((c.sure 48).add ⟨1,0,0,0,47⟩).add ⟨6,0,0,0,(m:Int)⟩) 8 (s:Int) ((((hs.sure _).add _).add _).mono (by decide)) W2 HC2.out);go_wp2_with (go_at_call 292;refine HS2.out.mono ?_;rintro e' W3 ⟨rfl,hC3,hG3⟩);go_end0;exact⟨rfl,hC3,HG2.out.trans hG3⟩
theorem zJx (B Q:Nat) (c:Cod) (lo hi a:Nat) (hlo:lo<=65535) (hhi:hi<=65535) (ha:a<=100) (hs:c.Sm 3700):zCD 290 #[.agg #[.int .u16 (lo:Int),.int .u16 (hi:Int)],.pointer (some ⟨Q,0,none⟩),.int .u32 (a:Int)] B Q c ((((c.sure (a+2)).add ⟨2,0,0,0,(a:Int)⟩).leave ⟨9,0,0,0,(lo:Int)⟩).unless ⟨9,0,0,0,(hi:Int)+1⟩):=by
 intro w hC;have hQ:=hC.lt;have hlo':(lo:Int)<=65535:=by omega
 have hhi':(hi:Int)<=65535:=by omega
 obtain⟨W0,hW0⟩:∃W0,w.alloc (.cells #[.int .u16 (lo:Int),.int .u16 (hi:Int)] 293)=W0:=⟨_,rfl⟩;have HG0:=hid (show zBj Q w W0 by rw[<-hW0];exact zA2 w Q _ hQ);have HX0:=hid (show Bx W0 Q w.heap.size _ by rw[<-hW0];exact Bx.made hC _ _);have HC0:=hid (show zAg W0 B Q c by rw[<-hW0];exact hC.below (bal _ _));have HW0:=hid hW0;clear hW0 hC;go_enter Tryz.func290,Tryz.ntmps290;go_upto_region 1 with fail
 rw[HW0.out];clear HW0;have r0:W0.cell? ⟨w.heap.size,0,none⟩=some (.int .u16 (lo:Int)):=HX0.out.c 0;have r1:W0.cell? ⟨w.heap.size,1,none⟩=some (.int .u16 (hi:Int)):=HX0.out.c 1;have HS0:=hid (zGo B Q c 2 a (a+2) (Or.inr (Or.inl rfl)) ha rfl (hs.mono (by decide)) W0 HC0.out);go_upto_region 2 with(go_at_call 291;refine HS0.out.mono ?_;rintro e' W1 ⟨rfl,hC1,hG1⟩)
 have HG1:=hid (HG0.out.trans hG1);have HX1:=hid (HX0.out.chgO hG1);have HC1:=hid hC1;clear hG1 hC1 HS0 r0 r1;have r0:W1.cell? ⟨w.heap.size,0,none⟩=some (.int .u16 (lo:Int)):=HX1.out.c 0;have r1:W1.cell? ⟨w.heap.size,1,none⟩=some (.int .u16 (hi:Int)):=HX1.out.c 1;have HS1:=hid (zFB B Q ((c.sure (a+2)).add ⟨2,0,0,0,(a:Int)⟩) 9 (lo:Int) (((hs.sure _).add _).mono (by decide)) W1 HC1.out);go_upto_region 3 with(go_at_call 292;refine HS1.out.mono ?_;rintro e' W2 ⟨rfl,hC2,hG2⟩)
 have HG2:=hid (HG1.out.trans hG2);have HX2:=hid (HX1.out.chgO hG2);have HC2:=hid hC2;clear hG2 hC2 HS1 r0 r1;have r0:W2.cell? ⟨w.heap.size,0,none⟩=some (.int .u16 (lo:Int)):=HX2.out.c 0;have r1:W2.cell? ⟨w.heap.size,1,none⟩=some (.int .u16 (hi:Int)):=HX2.out.c 1;have HS2:=hid (zCY B Q (((c.sure (a+2)).add ⟨2,0,0,0,(a:Int)⟩).leave ⟨9,0,0,0,(lo:Int)⟩) 9 ((hi:Int)+1) ((((hs.sure _).add _).leave _).mono (by decide)) W2 HC2.out);go_wp2_with (go_at_call 293;refine HS2.out.mono ?_;rintro e' W3 ⟨rfl,hC3,hG3⟩);go_end0;exact⟨rfl,hC3,HG2.out.trans hG3⟩
theorem zRW (B Q:Nat) (c:Cod) (lo hi:Nat) (hlo:lo<=65535) (hhi:hi<=65535) (hs:c.Sm 3700):zCD 289 #[.agg #[.int .u16 (lo:Int),.int .u16 (hi:Int)],.pointer (some ⟨Q,0,none⟩)] B Q c ((((c.sure (34+2)).add ⟨2,0,0,0,((34:Nat):Int)⟩).leave ⟨9,0,0,0,(lo:Int)⟩).unless ⟨9,0,0,0,(hi:Int)+1⟩):=by
 intro w hC;have hQ:=hC.lt;obtain⟨W0,hW0⟩:∃W0,w.alloc (.cells #[.int .u16 (lo:Int),.int .u16 (hi:Int)] 295)=W0:=⟨_,rfl⟩;have HG0:=hid (show zBj Q w W0 by rw[<-hW0];exact zA2 w Q _ hQ);have HX0:=hid (show Bx W0 Q w.heap.size _ by rw[<-hW0];exact Bx.made hC _ _);have HC0:=hid (show zAg W0 B Q c by rw[<-hW0];exact hC.below (bal _ _));have HW0:=hid hW0;clear hW0 hC;go_enter Tryz.func289,Tryz.ntmps289;go_upto_region 1 with fail
 rw[HW0.out];clear HW0;have r0:W0.cell? ⟨w.heap.size,0,none⟩=some (.int .u16 (lo:Int)):=HX0.out.c 0;have r1:W0.cell? ⟨w.heap.size,1,none⟩=some (.int .u16 (hi:Int)):=HX0.out.c 1;have HS0:=hid (zJx B Q c lo hi 34 hlo hhi (by decide) hs W0 HC0.out);go_wp2_with (go_at_call 290;refine HS0.out.mono ?_;rintro e' W1 ⟨rfl,hC1,hG1⟩);go_end0;exact⟨rfl,hC1,HG0.out.trans hG1⟩
theorem zRX (B Q:Nat) (c:Cod) (lo hi:Nat) (hlo:lo<=65535) (hhi:hi<=65535) (hs:c.Sm 3700):zCD 295 #[.agg #[.int .u16 (lo:Int),.int .u16 (hi:Int)],.pointer (some ⟨Q,0,none⟩)] B Q c ((((c.sure (36+2)).add ⟨2,0,0,0,((36:Nat):Int)⟩).leave ⟨9,0,0,0,(lo:Int)⟩).unless ⟨9,0,0,0,(hi:Int)+1⟩):=by
 intro w hC;have hQ:=hC.lt;obtain⟨W0,hW0⟩:∃W0,w.alloc (.cells #[.int .u16 (lo:Int),.int .u16 (hi:Int)] 296)=W0:=⟨_,rfl⟩;have HG0:=hid (show zBj Q w W0 by rw[<-hW0];exact zA2 w Q _ hQ);have HX0:=hid (show Bx W0 Q w.heap.size _ by rw[<-hW0];exact Bx.made hC _ _);have HC0:=hid (show zAg W0 B Q c by rw[<-hW0];exact hC.below (bal _ _));have HW0:=hid hW0;clear hW0 hC;go_enter Tryz.func295,Tryz.ntmps295;go_upto_region 1 with fail
 rw[HW0.out];clear HW0;have r0:W0.cell? ⟨w.heap.size,0,none⟩=some (.int .u16 (lo:Int)):=HX0.out.c 0;have r1:W0.cell? ⟨w.heap.size,1,none⟩=some (.int .u16 (hi:Int)):=HX0.out.c 1;have HS0:=hid (zJx B Q c lo hi 36 hlo hhi (by decide) hs W0 HC0.out);go_wp2_with (go_at_call 290;refine HS0.out.mono ?_;rintro e' W1 ⟨rfl,hC1,hG1⟩);go_end0;exact⟨rfl,hC1,HG0.out.trans hG1⟩
theorem zPh (B Q:Nat) (c:Cod) (ad n a:Nat) (hn:n<=32) (ha:a<=90) (hs:c.Sm 3700):zCD 301 #[.agg #[.int .u32 (ad:Int),.int .u32 (n:Int)],.pointer (some ⟨Q,0,none⟩),.int .u32 (a:Int)] B Q c ((((c.sure (a+4)).add ⟨3,0,0,0,(a:Int)⟩).add ⟨6,0,0,0,(zAb n:Int)⟩).leave ⟨8,0,0,0,(ad:Int)⟩):=by
 intro w hC;have hQ:=hC.lt;obtain⟨W0,hW0⟩:∃W0,w.alloc (.cells #[.int .u32 (ad:Int),.int .u32 (n:Int)] 320)=W0:=⟨_,rfl⟩;have HG0:=hid (show zBj Q w W0 by rw[<-hW0];exact zA2 w Q _ hQ);have HX0:=hid (show Bx W0 Q w.heap.size _ by rw[<-hW0];exact Bx.made hC _ _);have HC0:=hid (show zAg W0 B Q c by rw[<-hW0];exact hC.below (bal _ _));have HW0:=hid hW0;clear hW0 hC;go_enter Tryz.func301,Tryz.ntmps301;go_upto_region 1 with fail
 rw[HW0.out];clear HW0;have HS0:=hid (zGo B Q c 3 a (a+4) (Or.inr (Or.inr rfl)) (by omega) rfl (hs.mono (by decide)) W0 HC0.out);go_upto_region 2 with(go_at_call 291;refine HS0.out.mono ?_;rintro e' W1 ⟨rfl,hC1,hG1⟩)
 have HG1:=hid (HG0.out.trans hG1);have HX1:=hid (HX0.out.chgO hG1);have HC1:=hid hC1;have r0:W1.cell? ⟨w.heap.size,0,none⟩=some (.int .u32 (ad:Int)):=HX1.out.c 0;have r1:W1.cell? ⟨w.heap.size,1,none⟩=some (.int .u32 (n:Int)):=HX1.out.c 1;have HMk:=hid (zJs (ad:Int) n W1 hn);have hQ1:=hC1.lt;clear hG1 hC1 HS0;go_upto_region 3 with(first|(go_at_call 214;refine HMk.out.mono ?_;rintro e' W2 ⟨rfl,hb2⟩;have HG2:=hid (HG1.out.trans (zBj.of hb2 hQ1));have HX2:=hid (HX1.out.chgO (zBj.of hb2 hQ1));have HS2:=hid (zMP B Q ((c.sure (a+4)).add ⟨3,0,0,0,(a:Int)⟩) (zAb n:Int) (((hs.sure _).add _).mono (by decide)) W2 (HC1.out.below hb2));clear hb2 r0 r1)|(go_at_call 298;refine HS2.out.mono ?_;rintro e' W3 ⟨rfl,hC3,hG3⟩))
 have HG3:=hid (HG2.out.trans hG3);have HX3:=hid (HX2.out.chgO hG3);have r0:W3.cell? ⟨w.heap.size,0,none⟩=some (.int .u32 (ad:Int)):=HX3.out.c 0;have HS3:=hid (zFB B Q (((c.sure (a+4)).add ⟨3,0,0,0,(a:Int)⟩).add ⟨6,0,0,0,(zAb n:Int)⟩) 8 (ad:Int) ((((hs.sure _).add _).add _).mono (by decide)) W3 hC3);clear hG3 hC3;go_wp2_with (go_at_call 292;refine HS3.out.mono ?_;rintro e' W4 ⟨rfl,hC4,hG4⟩);go_end0;exact⟨rfl,hC4,HG3.out.trans hG4⟩
theorem zRY (B Q:Nat) (c:Cod) (ad n:Nat) (hn:n<=32) (hs:c.Sm 3700):zCD 300 #[.agg #[.int .u32 (ad:Int),.int .u32 (n:Int)],.pointer (some ⟨Q,0,none⟩)] B Q c ((((c.sure (26+4)).add ⟨3,0,0,0,((26:Nat):Int)⟩).add ⟨6,0,0,0,(zAb n:Int)⟩).leave ⟨8,0,0,0,(ad:Int)⟩):=by
 intro w hC;have hQ:=hC.lt;obtain⟨W0,hW0⟩:∃W0,w.alloc (.cells #[.int .u32 (ad:Int),.int .u32 (n:Int)] 324)=W0:=⟨_,rfl⟩;have HG0:=hid (show zBj Q w W0 by rw[<-hW0];exact zA2 w Q _ hQ);have HX0:=hid (show Bx W0 Q w.heap.size _ by rw[<-hW0];exact Bx.made hC _ _);have HC0:=hid (show zAg W0 B Q c by rw[<-hW0];exact hC.below (bal _ _));have HW0:=hid hW0;clear hW0 hC;go_enter Tryz.func300,Tryz.ntmps300;go_upto_region 1 with fail
 rw[HW0.out];clear HW0;have r0:W0.cell? ⟨w.heap.size,0,none⟩=some (.int .u32 (ad:Int)):=HX0.out.c 0;have r1:W0.cell? ⟨w.heap.size,1,none⟩=some (.int .u32 (n:Int)):=HX0.out.c 1;have HS0:=hid (zPh B Q c ad n 26 hn (by decide) hs W0 HC0.out);go_wp2_with (go_at_call 301;refine HS0.out.mono ?_;rintro e' W1 ⟨rfl,hC1,hG1⟩);go_end0;exact⟨rfl,hC1,HG0.out.trans hG1⟩
theorem zRZ (B Q:Nat) (c:Cod) (ad n:Nat) (hn:n<=32) (hs:c.Sm 3700):zCD 302 #[.agg #[.int .u32 (ad:Int),.int .u32 (n:Int)],.pointer (some ⟨Q,0,none⟩)] B Q c ((((c.sure (30+4)).add ⟨3,0,0,0,((30:Nat):Int)⟩).add ⟨6,0,0,0,(zAb n:Int)⟩).leave ⟨8,0,0,0,(ad:Int)⟩):=by
 intro w hC;have hQ:=hC.lt;obtain⟨W0,hW0⟩:∃W0,w.alloc (.cells #[.int .u32 (ad:Int),.int .u32 (n:Int)] 325)=W0:=⟨_,rfl⟩;have HG0:=hid (show zBj Q w W0 by rw[<-hW0];exact zA2 w Q _ hQ);have HX0:=hid (show Bx W0 Q w.heap.size _ by rw[<-hW0];exact Bx.made hC _ _);have HC0:=hid (show zAg W0 B Q c by rw[<-hW0];exact hC.below (bal _ _));have HW0:=hid hW0;clear hW0 hC;go_enter Tryz.func302,Tryz.ntmps302;go_upto_region 1 with fail
 rw[HW0.out];clear HW0;have r0:W0.cell? ⟨w.heap.size,0,none⟩=some (.int .u32 (ad:Int)):=HX0.out.c 0;have r1:W0.cell? ⟨w.heap.size,1,none⟩=some (.int .u32 (n:Int)):=HX0.out.c 1;have HS0:=hid (zPh B Q c ad n 30 hn (by decide) hs W0 HC0.out);go_wp2_with (go_at_call 301;refine HS0.out.mono ?_;rintro e' W1 ⟨rfl,hC1,hG1⟩);go_end0;exact⟨rfl,hC1,HG0.out.trans hG1⟩
theorem zRa (B Q:Nat) (c:Cod) (b0 b1 b2:Bool) (hs:c.Sm 3700):zCD 308 #[.agg #[.bool b0,.bool b1,.bool b2],.pointer (some ⟨Q,0,none⟩)] B Q c (zC5 ((c.add ⟨4,0,0,0,1⟩).unless ⟨9,0,0,0,3⟩) [b0,b1,b2] 0):=by
 intro w hC;have hQ:=hC.lt;obtain⟨W0,hW0⟩:∃W0,w.alloc (.cells #[.bool b0,.bool b1,.bool b2] 358)=W0:=⟨_,rfl⟩;have HG0:=hid (show zBj Q w W0 by rw[<-hW0];exact zA2 w Q _ hQ);have HX0:=hid (show Bx W0 Q w.heap.size _ by rw[<-hW0];exact Bx.made hC _ _);have HC0:=hid (show zAg W0 B Q c by rw[<-hW0];exact hC.below (bal _ _));have HW0:=hid hW0;have i0:∀W,(Instr.index 63 (.agg #[.bool b0,.bool b1,.bool b2]) (.int .i64 0)).run Tryz.prog W= .ok (.bool b0) W:=fun W=>by kernel_rfl
 have i1:∀W,(Instr.index 63 (.agg #[.bool b0,.bool b1,.bool b2]) (.int .i64 1)).run Tryz.prog W= .ok (.bool b1) W:=fun W=>by kernel_rfl
 have i2:∀W,(Instr.index 63 (.agg #[.bool b0,.bool b1,.bool b2]) (.int .i64 2)).run Tryz.prog W= .ok (.bool b2) W:=fun W=>by kernel_rfl
 clear hW0 hC;go_enter Tryz.func308,Tryz.ntmps308;go_upto_region 1 with fail
 rw[HW0.out];clear HW0;have HS0:=hid (zPg B Q c 1 (hs.mono (by decide)) W0 HC0.out);go_upto_region 2 with(go_at_call 307;refine HS0.out.mono ?_;rintro e' W1 ⟨rfl,hC1,hG1⟩)
 have HG1:=hid (HG0.out.trans hG1);have HX1:=hid (HX0.out.chgO hG1);have HS1:=hid (zCY B Q (c.add ⟨4,0,0,0,1⟩) 9 3 ((hs.add _).mono (by decide)) W1 hC1);clear hG1 hC1 HS0;go_upto_region 3 with(go_at_call 293;refine HS1.out.mono ?_;rintro e' W2 ⟨rfl,hC2,hG2⟩)
 have HG2:=hid (HG1.out.trans hG2);have HX2:=hid (HX1.out.chgO hG2);have HC2:=hid hC2;have hs2:((c.add ⟨4,0,0,0,1⟩).unless ⟨9,0,0,0,3⟩).Sm 3702:=(hs.add _).unless _;obtain⟨d,hd⟩:∃d,(c.add ⟨4,0,0,0,1⟩).unless ⟨9,0,0,0,3⟩=d:=⟨_,rfl⟩;have HD:=hid hd;rw[hd] at HC2 hs2;clear hd;have r0:W2.cell? ⟨w.heap.size,0,none⟩=some (.bool b0):=HX2.out.c 0;have r1:W2.cell? ⟨w.heap.size,1,none⟩=some (.bool b1):=HX2.out.c 1;have r2:W2.cell? ⟨w.heap.size,2,none⟩=some (.bool b2):=HX2.out.c 2;clear hG2 hC2 HS1;go_wp2_with fail;go_loopw [12] (fun i wr=>∃(j:Nat) (d':Cod),j<=3/\i= .int .i64 j/\zC5 d [b0,b1,b2] 0=zC5 d' ([b0,b1,b2].drop j) j/\d'.Sm (3702+j)/\zAg wr B Q d'/\zBj Q w wr) (fun i _=>3-(intOf i).toNat)
 case atStart=>exact⟨0,d,by decide,rfl,rfl,hs2,HC2.out,HG2.out⟩
 case round=>
  obtain⟨j,d',hj,rfl,hst,hsm,hCr,hGr⟩:=hrel;have HST:=hid hst;have HCr:=hid hCr;have HGr:=hid hGr;clear hst hCr hGr r0 r1 r2
  by_cases hlt:j<3
  ·rcases j with _|_|_|j
   ·cases b0 with
    |true=>
     go_wp2_with fail;go_roundw
     case rel=>exact⟨1,d',by decide,rfl,HST.out,hsm.mono (by omega),HCr.out,HGr.out⟩
     case measure=>simp[intOf]
    |false=>
     have HS:=hid (zCY B Q d' 8 0 (hsm.mono (by omega)) wr HCr.out);go_wp2_with (go_at_call 293;refine HS.out.mono ?_;rintro e' W3 ⟨rfl,hC3,hG3⟩);go_roundw
     case rel=>exact⟨1,_,by decide,rfl,HST.out,(hsm.unless _).mono (by omega),hC3,HGr.out.trans hG3⟩
     case measure=>simp[intOf]
   ·cases b1 with
    |true=>
     go_wp2_with fail;go_roundw
     case rel=>exact⟨2,d',by decide,rfl,HST.out,hsm.mono (by omega),HCr.out,HGr.out⟩
     case measure=>simp[intOf]
    |false=>
     have HS:=hid (zCY B Q d' 8 1 (hsm.mono (by omega)) wr HCr.out);go_wp2_with (go_at_call 293;refine HS.out.mono ?_;rintro e' W3 ⟨rfl,hC3,hG3⟩);go_roundw
     case rel=>exact⟨2,_,by decide,rfl,HST.out,(hsm.unless _).mono (by omega),hC3,HGr.out.trans hG3⟩
     case measure=>simp[intOf]
   ·cases b2 with
    |true=>
     go_wp2_with fail;go_roundw
     case rel=>exact⟨3,d',by decide,rfl,HST.out,hsm.mono (by omega),HCr.out,HGr.out⟩
     case measure=>simp[intOf]
    |false=>
     have HS:=hid (zCY B Q d' 8 2 (hsm.mono (by omega)) wr HCr.out);go_wp2_with (go_at_call 293;refine HS.out.mono ?_;rintro e' W3 ⟨rfl,hC3,hG3⟩);go_roundw
     case rel=>exact⟨3,_,by decide,rfl,HST.out,(hsm.unless _).mono (by omega),hC3,HGr.out.trans hG3⟩
     case measure=>simp[intOf]
   ·omega
  ·have e:j=3:=by omega
   subst e;go_wp2_with fail;go_end0;rw[HD.out,HST.out];exact⟨rfl,HCr.out,HGr.out⟩
def zHg (i:Nat):Nat:=[305,300,302,303,289,295,296,308].getD i 0
theorem zOR (B Q i:Nat) (hi:i<8) (v:List Nat) (hg:zJj i v) (c:Cod) (hs:c.Sm 3700):∃T x,zF9 i v= .iface T x/\(∀w,(Go.method 518 T x "firewall/rules.test").run Tryz.prog w= .ok (zHg i,x) w)/\zCD (zHg i) #[x,.pointer (some ⟨Q,0,none⟩)] B Q c (zFq i v c):=by
 rcases i with _|_|_|_|_|_|_|_|i
 ·obtain⟨n,rfl,hn⟩:=hg
  exact⟨_,_,rfl,fun w=>by kernel_rfl,zRU B Q c n hn hs⟩
 ·obtain⟨a,n,rfl,ha,hn,_⟩:=hg
  exact⟨_,_,rfl,fun w=>by kernel_rfl,zRY B Q c a n hn hs⟩
 ·obtain⟨a,n,rfl,ha,hn,_⟩:=hg
  exact⟨_,_,rfl,fun w=>by kernel_rfl,zRZ B Q c a n hn hs⟩
 ·rcases hg with rfl|rfl|rfl
  ·exact⟨_,_,rfl,fun w=>by kernel_rfl,zMQ B Q c _ 1 (by decide) hs⟩
  ·exact⟨_,_,rfl,fun w=>by kernel_rfl,zMQ B Q c _ 6 (by decide) hs⟩
  ·exact⟨_,_,rfl,fun w=>by kernel_rfl,zMQ B Q c _ 17 (by decide) hs⟩
 ·obtain⟨a,b,rfl,hab,hb⟩:=hg
  exact⟨_,_,rfl,fun w=>by kernel_rfl,zRW B Q c a b (by omega) hb hs⟩
 ·obtain⟨a,b,rfl,hab,hb⟩:=hg
  exact⟨_,_,rfl,fun w=>by kernel_rfl,zRX B Q c a b (by omega) hb hs⟩
 ·obtain⟨m,s,rfl,hm,hsm⟩:=hg
  exact⟨_,_,rfl,fun w=>by kernel_rfl,zRV B Q c m s (by omega) (by have:=zHQ _ _ hsm;omega) hs⟩
 ·obtain⟨x,y,z,rfl⟩:=hg
  have hb:∀b:Bool,(bn b == 1)=b:=fun b=>by cases b<;>rfl
  refine⟨358,.agg #[.bool x,.bool y,.bool z],?_,fun w=>by kernel_rfl,?_⟩
  ·show zDR [bn x,bn y,bn z]=_
   unfold zDR;simp[hb]
  ·have:=zRa B Q c x y z hs
   show zCD _ _ _ _ _ (zC5 _ [bn x == 1,bn y == 1,bn z == 1] 0)
   rw[hb,hb,hb];exact this
 ·omega
def Ins.atT (x:Ins) (n:Nat):Ins:=⟨x.op,x.r,(n:Int),x.f,x.k⟩
def Ins.atF (x:Ins) (n:Nat):Ins:=⟨x.op,x.r,x.t,(n:Int),x.k⟩
def zLX:Ins:=⟨0,0,0,0,0⟩
def zDM (L:List Ins):List Nat->List Ins
 |[]=>L
 |a::r=>zDM (L.set a ((L.getD a zLX).atT (L.length-a-1))) r
def zDY (L:List Ins):List Nat->List Ins
 |[]=>L
 |a::r=>zDY (L.set a ((L.getD a zLX).atF (L.length-a-1))) r
theorem zFC:∀(T:List Nat) (L:List Ins),(zDM L T).length=L.length
 |[],_=>rfl
 |a::r,L=>by rw[zDM,zFC r];simp
theorem zHh:∀(T:List Nat) (L:List Ins),(zDY L T).length=L.length
 |[],_=>rfl
 |a::r,L=>by rw[zDY,zHh r];simp
theorem zC6:∀(L:List Ins),(zAU L).length=L.length*5
 |[]=>rfl
 |x::l=>by simp[zAU,zJu,zC6 l];omega
theorem zDp:∀(L:List Ins) (a n:Nat),a<L.length->(zAU L).set (a*5+2) (.int .u8 (n:Int))=zAU (L.set a ((L.getD a zLX).atT n))
 |[],a,n,h=>by simp at h
 |x::l,0,n,h=>by
  obtain⟨op,r,t,f,k⟩:=x;simp[zAU,zJu,Ins.atT]
 |x::l,a+1,n,h=>by
  have ih:=zDp l a n (by simpa using h);rw[List.set_cons_succ,zAU,zAU,List.getD_cons_succ,<-ih];rw[show(a+1)*5+2=(zJu x).length+(a*5+2) by simp[zJu];omega,List.set_append_right _ _ (by omega)]
  congr 2
  omega
theorem zDq:∀(L:List Ins) (a n:Nat),a<L.length->(zAU L).set (a*5+3) (.int .u8 (n:Int))=zAU (L.set a ((L.getD a zLX).atF n))
 |[],a,n,h=>by simp at h
 |x::l,0,n,h=>by
  obtain⟨op,r,t,f,k⟩:=x;simp[zAU,zJu,Ins.atF]
 |x::l,a+1,n,h=>by
  have ih:=zDq l a n (by simpa using h);rw[List.set_cons_succ,zAU,zAU,List.getD_cons_succ,<-ih];rw[show(a+1)*5+3=(zJu x).length+(a*5+3) by simp[zJu];omega,List.set_append_right _ _ (by omega)]
  congr 2
  omega
theorem zJy (B Q:Nat) (c:Cod) (lv tv fv:Value) (a:Nat) (w:World) (h:zAP w B Q c lv tv fv) (ha:a<c.L.length) (hl:c.L.length<=4000) (ho:c.L.length-a-1<=255):
 Calls Tryz.prog 142 #[.pointer (some ⟨Q,0,none⟩),.int .i64 (a:Int)] w fun e w'=>e= .returned (.int .u8 ((c.L.length-a-1:Nat):Int))/\w'=w:=by
 obtain⟨lp,lc,hlv⟩:=zA7 h.o0;have k0:=h.c0;rw[hlv] at k0;have e1:((c.L.length-a-1:Nat):Int)=(c.L.length:Int)-(a:Int)-1:=by omega
 rw[e1];have b1:0<=(c.L.length:Int)-(a:Int)-1:=by omega
 have b2:(c.L.length:Int)-(a:Int)-1<=255:=by omega
 have b3:(c.L.length:Int)<=4000:=by omega
 have b4:(a:Int)<=4000:=by omega
 clear h hlv e1 ha hl ho;go_enter Tryz.func142,Tryz.ntmps142;go_wp2;go_ret;exact⟨rfl,rfl⟩
end Go.Proofs.YtclpnafiiobfhaaGreatDoor

import Derived.Test.YtclpnafiiobfhaaGreatDoorQ21
set_option linter.unusedVariables false
set_option linter.unusedSimpArgs false
set_option maxHeartbeats 3200000
namespace Go.Proofs.YtclpnafiiobfhaaGreatDoor
open Go.RowKit
def zG2 (k:Int):Value:=if k=0 then .nilIface else .iface 22 (.int .i64 k)
theorem zG3:zG2 0= .nilIface:=rfl
theorem zOx:zG2 21= .iface 22 (.int .i64 21):=rfl
theorem zOy:zG2 22= .iface 22 (.int .i64 22):=rfl
theorem zOz (x:Ins) (m:Nat) (d:ByteArray) (sp:Option Addr) (sc:Nat) (q:Int×Int) (a:St) (w:World) (hb:x.Bd) (hr:x.r<4) (hd:d.size<=4294967295) (hM:Mc w m (.slice sp d.size sc) q a):
 Calls Tryz.prog 178 #[.pointer (some ⟨m,0,none⟩),zCL x] w fun e w'=>e= .returned (zG2 (a.trap d x))/\Below w.heap.size w w':=by
 cases hu:x.uses with
 |true=>
  have hl:x.load=false:=by
   unfold Ins.uses Ins.branch at hu;unfold Ins.load;have:x.op=6\/x.op=7\/x.op=8\/x.op=9\/x.op=10:=by simpa[or_assoc] using hu
   rcases this with h|h|h|h|h<;>simp[h]
  have hw:x.wide=0:=by
   unfold Ins.load at hl;unfold Ins.wide;simp only[Bool.or_eq_false_iff,beq_eq_false_iff_ne] at hl;simp[hl]
  cases hh:a.set.getD x.r.toNat false with
  |false=>
   have e:a.trap d x=21:=by unfold St.trap;rw[hu,hh];rfl
   rw[e,zOx];exact zKt x m sp d.size sc q a w hb hr hM hu hh
  |true=>
   have e:a.trap d x=0:=by
    unfold St.trap;rw[hu,hh,hw];rw[if_neg (by decide),if_neg (by omega)]
   rw[e,zG3];exact zOg x m sp d.size sc q a w hb hr hM hu hl hh
 |false=>
  have e1:a.trap d x=if(d.size:Int)<x.wide then 22 else 0:=by
   unfold St.trap;rw[hu,Bool.false_and,if_neg (by decide)]
  cases hl:x.load with
  |true=>
   refine(zM6 x m sp d.size sc q a w hb hr hM hu hl hd).mono ?_;rintro e w' ⟨rfl,h⟩;refine⟨?_,h⟩;rw[e1]
   by_cases c:(d.size:Int)<x.wide
   ·rw[if_pos c,zOy];simp[c]
   ·rw[if_neg c,zG3];simp[c]
  |false=>
   have hw:x.wide=0:=by
    unfold Ins.load at hl;unfold Ins.wide;simp only[Bool.or_eq_false_iff,beq_eq_false_iff_ne] at hl;simp[hl]
   rw[hw,if_neg (by omega)] at e1;rw[e1,zG3];exact zM5 x m sp d.size sc q a w hb hr hM hu hl
structure Dat (w:World) (m db doff dc:Nat) (d:ByteArray):Prop where
 row:Row w db doff d
 lt:db<w.heap.size
 ne:db≠m
 cap:d.size<=dc
 most:dc<=maxLen
 size:d.size<=4294967295
theorem Dat.tch {w w':World} {m db doff dc:Nat} {d:ByteArray} (h:Dat w m db doff dc d) (ht:Tch m w w'):Dat w' m db doff dc d:=
 ⟨fun i hi=>(ht.cell (p:=⟨db,doff+i,none⟩) h.lt h.ne).trans (h.row i hi),Nat.lt_of_lt_of_le h.lt ht.size,h.ne,h.cap,h.most,h.size⟩
theorem zRs (x:Ins) (m db doff dc:Nat) (d:ByteArray) (q:Int×Int) (a:St) (w:World) (hb:x.Bd) (hf:x.fits=true) (h0:x.op≠0) (ht:a.trap d x=0) (ha:a.Ok) (hD:Dat w m db doff dc d) (hM:Mc w m (.slice (some ⟨db,doff,none⟩) d.size dc) q a):
 Calls Tryz.prog 179 #[.pointer (some ⟨m,0,none⟩),zCL x] w fun e w'=>e= .returned (.int .u32 (a.over x))/\Mc w' m (.slice (some ⟨db,doff,none⟩) d.size dc) q (a.does d q x)/\Tch m w w':=by
 have bo:=hb.op;have br:=hb.r;have bt:=hb.t;have bf:=hb.f;have bk:=hb.k;have hcap:=hD.cap;have hd:=hD.size;have hf':=hf;unfold Ins.fits at hf';simp only[Bool.and_eq_true,decide_eq_true_eq] at hf';obtain⟨⟨⟨ho,hr⟩,_⟩,hk⟩:=hf';have hw:x.load=true->x.wide<=d.size:=by
  intro hl;have hu:x.uses=false:=by
   unfold Ins.load at hl;unfold Ins.uses Ins.branch;have:x.op=1\/x.op=2\/x.op=3:=by simpa[or_assoc] using hl
   rcases this with h|h|h<;>simp[h]
  unfold St.trap at ht;rw[hu,Bool.false_and,if_neg (by decide)] at ht;rcases Int.lt_or_le (d.size:Int) x.wide with g|g
  ·rw[if_pos g] at ht;omega
  ·exact g
 obtain⟨op,r,t,f,k⟩:=x;dsimp only at*;obtain⟨kn,rfl⟩:=Int.eq_ofNat_of_zero_le bk.1;have hmx:=hD.most;have hc:op=1\/op=2\/op=3\/op=4\/op=5\/op=6\/op=7\/op=8\/op=9\/op=10\/op=11:=by omega
 rcases hc with rfl|rfl|rfl|rfl|rfl|rfl|rfl|rfl|rfl|rfl|rfl
 ·have:=hw rfl
  unfold Ins.wide at this;exact zST r t f kn m db doff dc d q a w ⟨br.1,hr⟩ bt bf bk ha hM hD.row hD.lt hD.ne (by simpa using this) hcap hmx
 ·have:=hw rfl
  unfold Ins.wide at this;exact zSU r t f kn m db doff dc d q a w ⟨br.1,hr⟩ bt bf bk ha hM hD.row hD.lt hD.ne (by simpa using this) hcap hmx
 ·have:=hw rfl
  unfold Ins.wide at this;exact zSV r t f kn m db doff dc d q a w ⟨br.1,hr⟩ bt bf bk ha hM hD.row hD.lt hD.ne (by simpa using this) hcap hmx
 ·have hk2:(kn:Int)<2:=by simpa using hk
  have hk3:kn=0\/kn=1:=by omega
  rcases hk3 with rfl|rfl
  ·exact zRn r t f m _ d.size dc q a w ⟨br.1,hr⟩ ha hM
  ·exact zRo r t f m _ d.size dc q a w ⟨br.1,hr⟩ ha hM
 ·exact zSW r t f kn m _ d.size dc q a w ⟨br.1,hr⟩ bk ha hM hd
 ·exact zSX r t f kn m _ d.size dc q a w ⟨br.1,hr⟩ bk ha hM
 ·exact zSY r t f kn m _ d.size dc q a w ⟨br.1,hr⟩ bk ha hM (by simpa using hk)
 ·exact zSZ r t f kn m _ d.size dc q a w ⟨br.1,hr⟩ bt bf bk ha hM
 ·exact zSa r t f kn m _ d.size dc q a w ⟨br.1,hr⟩ bt bf bk ha hM
 ·exact zSA r t f kn m _ d.size dc q a w ⟨br.1,hr⟩ bt bf bk ha hM
 ·exact zSB r t f kn m _ d.size dc q a w ⟨br.1,hr⟩ bk ha hM
structure Cd (w:World) (g:Nat) (s:ByteArray) (n:Nat):Prop where
 op:∀j,j<n->w.cell? ⟨g,j*5,none⟩=some (.int .u8 (zAG s j).op)
 r:∀j,j<n->w.cell? ⟨g,j*5+1,none⟩=some (.int .u8 (zAG s j).r)
 t:∀j,j<n->w.cell? ⟨g,j*5+2,none⟩=some (.int .u8 (zAG s j).t)
 f:∀j,j<n->w.cell? ⟨g,j*5+3,none⟩=some (.int .u8 (zAG s j).f)
 k:∀j,j<n->w.cell? ⟨g,j*5+4,none⟩=some (.int .u32 (zAG s j).k)
 lt:g<w.heap.size
theorem Lst.cd {w:World} {g n:Nat} {s:ByteArray} (h:Lst w g ((List.range n).map (zAG s))):Cd w g s n:=by
 have e:∀j,j<n->((List.range n).map (zAG s)).getD j ⟨0,0,0,0,0⟩=zAG s j:=fun j hj=>by
  simp[List.getD_eq_getElem?_getD,hj]
 have l:((List.range n).map (zAG s)).length=n:=by simp
 exact⟨fun j hj=>by rw[<-e j hj];exact h.op j (by omega),fun j hj=>by rw[<-e j hj];exact h.r j (by omega),fun j hj=>by rw[<-e j hj];exact h.t j (by omega),fun j hj=>by rw[<-e j hj];exact h.f j (by omega),fun j hj=>by rw[<-e j hj];exact h.k j (by omega),h.lt⟩
theorem Cd.below {w w':World} {g n:Nat} {s:ByteArray} (h:Cd w g s n) (hw:Below w.heap.size w w'):Cd w' g s n:=by
 have lt:=h.lt;have hc:∀i,w'.cell? ⟨g,i,none⟩=w.cell? ⟨g,i,none⟩:=fun i=>hw.cell (p:=⟨g,i,none⟩) lt
 exact⟨fun j hj=>(hc _).trans (h.op j hj),fun j hj=>(hc _).trans (h.r j hj),fun j hj=>(hc _).trans (h.t j hj),fun j hj=>(hc _).trans (h.f j hj),fun j hj=>(hc _).trans (h.k j hj),Nat.lt_of_lt_of_le lt hw.size⟩
theorem zNP (p dsl:Value) (q:Int×Int) (i:Int) (w:World) (hL:zBU w)
 (hR:∀w',Below w.heap.size w w'->Calls Tryz.prog 177 #[p] w' fun e w''=>∃c,e= .returned (.tuple #[.slice none 0 0,.iface 96 (.pointer (some ⟨c,0,none⟩))])/\Below w'.heap.size w' w''/\w'.heap.size<=c/\c<w''.heap.size/\w''.cell? ⟨c,0,none⟩=some (.int .i64 i)/\w''.cell? ⟨c,1,none⟩=some (.int .i64 10)):
 Calls Tryz.prog 152 #[p,dsl,.agg #[.int .u32 q.1,.int .u32 q.2]] w fun e w'=>e= .returned (.tuple #[.int .u8 0,.int .i64 0,zG2 10])/\Below w.heap.size w w':=by
 have HL:Hid (zBU w):=hL;have HR:=hid hR;clear hL hR;go_enter Tryz.func152,Tryz.ntmps152;go_wp2_with fail;refine(HR.out _ (bal _ _)).mono ?_;rintro e w1 ⟨c,rfl,hb1,hc0,hc1,hc2,hc3⟩;have HB1:=hid ((bal _ _).trans (hb1.mono (by simp)));have HL1:Hid (zBU w1):=HL.out.below HB1.out;clear hb1;go_wp2_with fail;refine(zQF ⟨c,0,none⟩ _ _ ?_ (.pointer none) ?_ ?_).mono ?_
 ·exact HL1.out.alloc _
 ·rw[World.cell?_alloc_at _ _ _ _ rfl];rfl
 ·exact World.frozen?_alloc_at _ _ _ _ rfl
 rintro e w2 ⟨rfl,hw2⟩;have HB2:Hid (Below w1.heap.size w1 w2):=by
  show Below w1.heap.size w1 w2
  rw[hw2]
  repeat (with_reducible first|exact Below.refl _ _|refine below_drewN ?_ _|refine Below.drew ?_|refine Below.setCell ?_ (by first|(simp;done)|(simp;omega)) _|refine Below.alloc ?_ (by first|(simp;done)|(simp;omega)) _)
 have hc:w2.cell? ⟨w1.heap.size,0,none⟩=some (.pointer (some ⟨c,0,none⟩)):=by
  rw[hw2];refine World.cell?_setCell_same _ _ _ (u:= .pointer none) ?_;rw[Below.cell (B:=w1.heap.size+1) (w:=w1.alloc (.cells #[.pointer none] 96)) (p:=⟨w1.heap.size,0,none⟩) ?_ (by simp)]
  ·rw[World.cell?_alloc_at _ _ _ _ (by simp)];rfl
  ·repeat (with_reducible first|exact Below.refl _ _|refine below_drewN ?_ _|refine Below.drew ?_|refine Below.setCell ?_ (by first|(simp;done)|(simp;omega)) _|refine Below.alloc ?_ (by first|(simp;done)|(simp;omega)) _)
 have g1:w2.cell? ⟨c,1,none⟩=some (.int .i64 10):=by rw[HB2.out.cell (p:=⟨c,1,none⟩) hc1];exact hc3
 clear hw2 hc2 hc3;go_wp2_with fail;go_quiet (fail);go_wp2_with fail;go_ret3;exact⟨rfl,below_drewN (HB1.out.trans (HB2.out.mono HB1.out.size)) _⟩
theorem zKH {k:Int} (h:k≠0):zG2 k= .iface 22 (.int .i64 k):=by unfold zG2;rw[if_neg h]
structure Inv (w wr:World) (s:ByteArray) (n g m db doff dc:Nat) (d:ByteArray) (q:Int×Int) (i c:Nat) (a:St) (v:Int) (z:Nat) (k:Int):Prop where
 goes:zHV s n d q i c a v z k
 ok:a.Ok
 mc:Mc wr m (.slice (some ⟨db,doff,none⟩) d.size dc) q a
 dat:Dat wr m db doff dc d
 cd:Cd wr g s n
 below:Below w.heap.size w wr
 gm:g≠m
 lo:w.heap.size<=m
 ib:i<=8589934592
 ci:c<=i
theorem Cd.tch {w w':World} {g n m:Nat} {s:ByteArray} (h:Cd w g s n) (hw:Tch m w w') (hn:g≠m):Cd w' g s n:=by
 have lt:=h.lt;have hc:∀i,w'.cell? ⟨g,i,none⟩=w.cell? ⟨g,i,none⟩:=fun i=>hw.cell (p:=⟨g,i,none⟩) lt hn
 exact⟨fun j hj=>(hc _).trans (h.op j hj),fun j hj=>(hc _).trans (h.r j hj),fun j hj=>(hc _).trans (h.t j hj),fun j hj=>(hc _).trans (h.f j hj),fun j hj=>(hc _).trans (h.k j hj),Nat.lt_of_lt_of_le lt hw.size⟩
theorem zO0 (s:ByteArray) (n:Nat) (p:Value) (db doff dc:Nat) (d:ByteArray) (q:Int×Int) (w:World) (hF:zJn s n) (v:Int) (z:Nat) (k:Int) (hG:zHV s n d q 0 0 st0 v z k)
 (hd:Row w db doff d) (hdb:db<w.heap.size) (hdc:d.size<=dc) (hdm:dc<=maxLen) (hdz:d.size<=4294967295) (q0:0<=q.1/\q.1<=4294967295) (q1:0<=q.2/\q.2<=4294967295)
 (hR:∀w',Below w.heap.size w w'->Calls Tryz.prog 177 #[p] w' fun e w''=>e= .returned (.tuple #[.slice (some ⟨w'.heap.size,0,none⟩) n n,.nilIface])/\Below w'.heap.size w' w''/\Lst w'' w'.heap.size ((List.range n).map (zAG s))):
 Calls Tryz.prog 152 #[p,.slice (some ⟨db,doff,none⟩) d.size dc,.agg #[.int .u32 q.1,.int .u32 q.2]] w fun e w'=>e= .returned (.tuple #[.int .u8 v,.int .i64 z,zG2 k])/\Below w.heap.size w w':=by
 have HR:=hid hR;have HF:=hid hF;have HD:=hid hd;have HG:=hid hG;have hn1:=hF.pos;have hn2:=hF.most;clear hR hF hd hG;go_enter Tryz.func152,Tryz.ntmps152;go_wp2_with fail;refine(HR.out _ (bal _ _)).mono ?_;rintro e w1 ⟨rfl,hb1,hL⟩;have HB1:Hid (Below w.heap.size w w1):=(bal _ _).trans (hb1.mono (by simp));have HC1:Hid (Cd w1 (w.heap.size+1) s n):=by
  show Cd w1 (w.heap.size+1) s n
  have:=hL.cd
  simpa using this
 have e0:w1.cell? ⟨w.heap.size,0,none⟩=some (.int .u32 q.1):=by rw[hb1.cell (p:=⟨w.heap.size,0,none⟩) (by simp),World.cell?_alloc_at _ _ _ _ rfl];rfl
 have e1:w1.cell? ⟨w.heap.size,1,none⟩=some (.int .u32 q.2):=by rw[hb1.cell (p:=⟨w.heap.size,1,none⟩) (by simp),World.cell?_alloc_at _ _ _ _ rfl];rfl
 have hs1:w.heap.size+1<w1.heap.size:=HC1.out.lt;have hs0:w.heap.size<w1.heap.size:=by omega
 clear hb1 hL HR;go_wp2_with (go_at_call 39;refine(zMR _ _).mono ?_;rintro e w' ⟨rfl,rfl⟩);go_loopw [13,14] (fun dn at_ wr=>∃(i c:Nat) (a:St),dn= .int .i64 c/\at_= .int .u64 i/\Inv w wr s n (w.heap.size+1) (w1.heap.size+1) db doff dc d q i c a v z k) (fun _ at_ _=>n-(intOf at_).toNat)
 case atStart=>
  have hA:Below w1.heap.size w1 ((w1.alloc (.cells #[.pointer none] 96)).alloc (.cells #[.slice (some ⟨db,doff,none⟩) d.size dc,.int .u32 q.1,.int .u32 q.2,.int .u32 0,.int .u32 0,.int .u32 0,.int .u32 0,.bool false,.bool false,.bool false,.bool false] 312)):=(bal _ _).alloc (by simp) _;refine⟨0,0,st0,rfl,rfl,HG.out,zPe,?_,⟨fun i hi=> ?_,?_,by omega,hdc,hdm,hdz⟩,HC1.out.below hA,HB1.out.trans (hA.mono HB1.out.size),by omega,by omega,by omega,by omega⟩
  ·refine⟨?_,?_,?_,fun i hi=> ?_,fun i hi=> ?_,fun i=>World.frozen?_alloc_at _ _ _ _ (by simp),by simp⟩
   ·rw[World.cell?_alloc_at _ _ _ _ (by simp)];rfl
   ·rw[World.cell?_alloc_at _ _ _ _ (by simp)];rfl
   ·rw[World.cell?_alloc_at _ _ _ _ (by simp)];rfl
   ·rw[World.cell?_alloc_at _ _ _ _ (by simp)]
    have:i=0\/i=1\/i=2\/i=3:=by omega
    rcases this with rfl|rfl|rfl|rfl<;>rfl
   ·rw[World.cell?_alloc_at _ _ _ _ (by simp)]
    have:i=0\/i=1\/i=2\/i=3:=by omega
    rcases this with rfl|rfl|rfl|rfl<;>rfl
  ·rw[hA.cell (p:=⟨db,doff+i,none⟩) (by show db<_;omega),HB1.out.cell (p:=⟨db,doff+i,none⟩) hdb];exact HD.out i hi
  ·exact Nat.lt_of_lt_of_le (by omega:db<w1.heap.size) hA.size
 case round=>
  obtain⟨i,c,a,rfl,rfl,hI⟩:=hrel;have HI:=hid hI;have ib:=hI.ib;have ci:=hI.ci;clear e0 e1 hI
  by_cases hlt:i<n
  ·obtain⟨x,hx⟩:∃x,zAG s i=x:=⟨_,rfl⟩
   have HX:=hid hx;have hbd:x.Bd:=by rw[<-hx];exact zDC s i
   have hfit:x.fits=true:=by rw[<-hx];exact HF.out.fits i hlt
   have hr4:x.r<4:=by
    have:=hfit;unfold Ins.fits at this;simp only[Bool.and_eq_true,decide_eq_true_eq] at this;exact this.1.1.2
   have c0:=HI.out.cd.op i hlt;have c1:=HI.out.cd.r i hlt;have c2:=HI.out.cd.t i hlt;have c3:=HI.out.cd.f i hlt;have c4:=HI.out.cd.k i hlt;rw[hx] at c0 c1 c2 c3 c4;have gl:w.heap.size+1<wr.heap.size:=HI.out.cd.lt;clear hx;have HFI:=hid hfit;clear hfit;cases hop:x.op == 0
   ·have HN0:Hid (x.op≠0):=by show x.op≠0;simpa using hop
    have HAl:Hid (Below wr.heap.size wr (wr.alloc (zEE x))):=bal _ _;have hT:=zOz x (w1.heap.size+1) d (some ⟨db,doff,none⟩) dc q a (wr.alloc (zEE x)) hbd hr4 (by omega) (HI.out.mc.below HAl.out);unfold zCL zEE at hT;have HT:=hid hT;clear hT
    by_cases htr:a.trap d x=0
    ·have HTR:=hid htr
     go_wp2_with fail;refine HT.out.mono ?_;rintro e w3 ⟨rfl,hb3⟩;rw[HTR.out,zG3];have HB3:Hid (Below wr.heap.size wr w3):=HAl.out.trans (hb3.mono (by simp));have i0:w3.cell? ⟨wr.heap.size,0,none⟩=some (.int .u8 x.op):=by rw[hb3.cell (p:=⟨wr.heap.size,0,none⟩) (by simp),World.cell?_alloc_at _ _ _ _ rfl];rfl
     have i1:w3.cell? ⟨wr.heap.size,1,none⟩=some (.int .u8 x.r):=by rw[hb3.cell (p:=⟨wr.heap.size,1,none⟩) (by simp),World.cell?_alloc_at _ _ _ _ rfl];rfl
     have i2:w3.cell? ⟨wr.heap.size,2,none⟩=some (.int .u8 x.t):=by rw[hb3.cell (p:=⟨wr.heap.size,2,none⟩) (by simp),World.cell?_alloc_at _ _ _ _ rfl];rfl
     have i3:w3.cell? ⟨wr.heap.size,3,none⟩=some (.int .u8 x.f):=by rw[hb3.cell (p:=⟨wr.heap.size,3,none⟩) (by simp),World.cell?_alloc_at _ _ _ _ rfl];rfl
     have i4:w3.cell? ⟨wr.heap.size,4,none⟩=some (.int .u32 x.k):=by rw[hb3.cell (p:=⟨wr.heap.size,4,none⟩) (by simp),World.cell?_alloc_at _ _ _ _ rfl];rfl
     have HD3:Hid (Dat w3 (w1.heap.size+1) db doff dc d):=HI.out.dat.tch (Tch.of HB3.out);have hDo:=zRs x (w1.heap.size+1) db doff dc d q a w3 hbd HFI.out HN0.out HTR.out HI.out.ok HD3.out (HI.out.mc.below HB3.out);unfold zCL at hDo;have HDO:=hid hDo;have bov:=a.over_bd hbd;obtain⟨ov,hov⟩:∃ov:Nat,a.over x=ov:=⟨(a.over x).toNat,by omega⟩;have HOV:=hid hov;rw[hov] at bov;clear hb3 hDo hov c0 c1 c2 c3 c4;go_wp2_with fail;refine HDO.out.mono ?_;rintro e w4 ⟨rfl,hM4,hT4⟩;rw[HOV.out];have HM4:=hid hM4;have HT4:=hid hT4;clear hM4 hT4 i0 i1 i2 i3 i4;go_wp2_with fail;go_roundw
     case rel=>
      refine⟨i+1+ov,c+1,a.does d q x,by go_num,by go_num,?_,HI.out.ok.does (by omega) q0 q1 x,HM4.out,HD3.out.tch HT4.out,(HI.out.cd.below HB3.out).tch HT4.out HI.out.gm,?_,HI.out.gm,HI.out.lo,by omega,by omega⟩
      ·have hg:=HI.out.goes
       rcases hg.out with⟨h,rfl,rfl,rfl⟩|⟨h,ho,rfl,rfl,rfl⟩|⟨h,ho,ht,rfl,rfl,rfl⟩|⟨h,ho,ht,hg⟩
       ·omega
       ·exact absurd (by rw[<-HX.out];exact ho) HN0.out
       ·rw[HX.out] at ht;exact absurd HTR.out ht
       ·rw[HX.out,HOV.out,Int.toNat_natCast] at hg
        exact hg
      ·exact(HI.out.below.trans (HB3.out.mono HI.out.below.size)).trans (HT4.out.below HI.out.lo (Nat.le_trans HI.out.below.size HB3.out.size))
     case measure=>simp[intOf];omega
    ·have HTR:=hid htr
     obtain⟨tr,htr'⟩:∃tr,a.trap d x=tr:=⟨_,rfl⟩;have HTE:=hid htr';have HRes:Hid (v=0/\z=c+1/\k=tr):=by
      have hg:=HI.out.goes;rcases hg.out with⟨h,rfl,rfl,rfl⟩|⟨h,ho,rfl,rfl,rfl⟩|⟨h,ho,ht,rfl,rfl,rfl⟩|⟨h,ho,ht,hg⟩
      ·omega
      ·exact absurd (by rw[<-HX.out];exact ho) HN0.out
      ·exact⟨rfl,rfl,by rw[HX.out];exact HTE.out⟩
      ·rw[HX.out] at ht;exact absurd ht HTR.out
     clear htr htr';go_wp2_with fail;refine HT.out.mono ?_;rintro e w3 ⟨rfl,hb3⟩;rw[zKH HTR.out,HTE.out];have HB3:Hid (Below wr.heap.size wr w3):=HAl.out.trans (hb3.mono (by simp));clear hb3 c0 c1 c2 c3 c4;go_wp2_with fail;go_ret3;obtain⟨rfl,rfl,rfl⟩:=HRes.out;exact⟨by rw[<-zKH (by rw[<-HTE.out];exact HTR.out)];rfl,HI.out.below.trans (HB3.out.mono HI.out.below.size)⟩
   ·have n0:x.op=0:=by simpa using hop
    have bk2:x.k<3:=by
     have:=HFI.out;unfold Ins.fits at this;rw[if_pos n0] at this;simp only[Bool.and_eq_true,decide_eq_true_eq] at this;exact this.2.2
    have bk0:=hbd.k;have HRes:Hid (v=x.k/\z=c+1/\k=0):=by
     have hg:=HI.out.goes;rcases hg.out with⟨h,rfl,rfl,rfl⟩|⟨h,ho,rfl,rfl,rfl⟩|⟨h,ho,ht,rfl,rfl,rfl⟩|⟨h,ho,ht,hg⟩
     ·omega
     ·exact⟨by rw[HX.out],rfl,rfl⟩
     ·rw[HX.out] at ho;exact absurd n0 ho
     ·rw[HX.out] at ho;exact absurd n0 ho
    clear n0;go_wp2_with fail;go_ret3;obtain⟨rfl,rfl,rfl⟩:=HRes.out;exact⟨rfl,HI.out.below.alloc HI.out.below.size _⟩
  ·have HRes:Hid (v=0/\z=c/\k=23):=by
    have hg:=HI.out.goes;rcases hg.out with⟨h,rfl,rfl,rfl⟩|⟨h,ho,rfl,rfl,rfl⟩|⟨h,ho,ht,rfl,rfl,rfl⟩|⟨h,ho,ht,hg⟩
    ·exact⟨rfl,rfl,rfl⟩
    ·omega
    ·omega
    ·omega
   go_wp2_with fail;go_ret3;obtain⟨rfl,rfl,rfl⟩:=HRes.out;exact⟨rfl,HI.out.below⟩
def Ran (s d:ByteArray) (q:Int×Int) (v:Int) (z:Nat) (k:Int):Prop:=
 (∃i,zSO s i/\v=0/\z=0/\k=10)\/∃n,zJn s n/\zHV s n d q 0 0 st0 v z k
theorem zO1 (s d:ByteArray) (q:Int×Int) (v:Int) (z:Nat) (k:Int) (b off cap db doff dc:Nat) (w:World) (hL:zBU w) (h:Ran s d q v z k)
 (hc:s.size<=cap) (hm:cap<=maxLen) (hb:b<w.heap.size) (hr:Row w b off s)
 (hd:Row w db doff d) (hdb:db<w.heap.size) (hdc:d.size<=dc) (hdm:dc<=maxLen) (hdz:d.size<=4294967295) (q0:0<=q.1/\q.1<=4294967295) (q1:0<=q.2/\q.2<=4294967295):
 Calls Tryz.prog 152 #[.slice (some ⟨b,off,none⟩) s.size cap,.slice (some ⟨db,doff,none⟩) d.size dc,.agg #[.int .u32 q.1,.int .u32 q.2]] w fun e w'=>e= .returned (.tuple #[.int .u8 v,.int .i64 z,zG2 k])/\Below w.heap.size w w':=by
 have row:∀w',Below w.heap.size w w'->Row w' b off s:=fun w' h i hi=>(h.cell (p:=⟨b,off+i,none⟩) hb).trans (hr i hi)
 rcases h with⟨i,ht,rfl,rfl,rfl⟩|⟨n,hF,hG⟩
 ·refine zNP _ _ q i w hL (fun w' hw=> ?_)
  rcases ht with⟨hz,rfl⟩|⟨n,hz,hi,h1,h2⟩
  ·refine(zM3 s (some ⟨b,off,none⟩) cap w' (Nat.le_trans hc hm) hz).mono ?_
   rintro e w2 ⟨rfl,rfl⟩;refine⟨_,rfl,bal _ _,Nat.le_refl _,by simp,?_,?_⟩
   ·rw[World.cell?_alloc_at _ _ _ _ rfl];rfl
   ·rw[World.cell?_alloc_at _ _ _ _ rfl];rfl
  ·exact zOf s n i b off cap w' hc hm (Nat.lt_of_lt_of_le hb hw.size) (row w' hw) hz hi h1 h2
 ·exact zO0 s n _ db doff dc d q w hF v z k hG hd hdb hdc hdm hdz q0 q1 (fun w' hw=>zM4 s n b off cap w' hc hm (Nat.lt_of_lt_of_le hb hw.size) (row w' hw) hF)
end Go.Proofs.YtclpnafiiobfhaaGreatDoor

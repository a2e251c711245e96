import Derived.Test.YtclpnafiiobfhaaGreatDoorQ41
import Derived.Test.YtclpnafiiobfhaaGreatDoorQ51
import Derived.Test.YtclpnafiiobfhaaGreatDoorQ42
import Derived.Test.YtclpnafiiobfhaaGreatDoorQ46
set_option linter.unusedVariables false
set_option linter.unusedSimpArgs false
set_option maxRecDepth 20000
set_option maxHeartbeats 6400000
namespace Go.Proofs.YtclpnafiiobfhaaGreatDoor
open Go.RowKit
theorem gjudge_bad {Q K:Nat} {O:Nat->Prop} {lg cv:Value} {R:Option Bk} {room now births:Nat} {F:List Fl} {cA cD cR cM:Nat} (W:World) (hL:Laid W) (h:GateAt W Q K O lg cv R room now births F cA cD cR cM) (hbi:births+1<18446744073709551616) (d:ByteArray) (fb fc:Nat) (i:Int) (hd:Row W fb 0 d) (hfb:fb<W.heap.size) (hdz:d.size<=300000) (hfc:d.size<=fc) (hfm:fc<=maxLen) (hi:0<=i/\i<=255) (hc:cls d≠0):
 Calls Tryz.prog 109 #[.pointer (some ⟨Q,0,none⟩),.int .u8 i,.slice (some ⟨fb,0,none⟩) d.size fc] W fun e w'=>e= .returned (.agg (evG R room now F d i).1.l.toArray)/\(∃O' b',Kps w' O' K room now b' (evG R room now F d i).2/\Trn O W w'/\(∀y,O' y->O y\/W.heap.size<=y)/\b'<=births+1):=by
 have e0:evG R room now F d i=(⟨cls d,0,0,false,false⟩,F):=by unfold evG;rw[if_neg hc]
 rw[e0]
 dsimp only[Ev.l]
 have HK:Hid (Kps W O K room now births F):=h.keeps
 have HPA:Hid (Calls Tryz.prog 127 #[.slice (some ⟨fb,0,none⟩) d.size fc] (W.alloc (.cells #[.int .u8 0,.int .u8 0,.int .u8 0,.bool false,.bool false] 188)) fun e w'=>e= .returned (.tuple #[.agg #[.int .u32 0,.int .u32 0,.int .u8 0,.int .u16 0,.int .u16 0,.int .u8 0],.int .u8 (cls d)])/\Below (W.heap.size+1) (W.alloc (.cells #[.int .u8 0,.int .u8 0,.int .u8 0,.bool false,.bool false] 188)) w'):=by
  have z:=frParse_any d fb 0 fc (W.alloc (.cells #[.int .u8 0,.int .u8 0,.int .u8 0,.bool false,.bool false] 188)) (by unfold maxLen;omega) (hd.alloc hfb _) (by simp;omega)
  rw[show parsedAs d= .tuple #[.agg hdr0,.int .u8 (cls d)] from by simp[parsedAs,hc]] at z
  rw[show(W.alloc (.cells #[.int .u8 0,.int .u8 0,.int .u8 0,.bool false,.bool false] 188)).heap.size=W.heap.size+1 from by simp] at z
  exact z
 obtain⟨c,hcc⟩:∃c,cls d=c:=⟨_,rfl⟩
 rw[hcc] at HPA
 rw[hcc]
 have t1:(c !=0)=true:=by rw[<-hcc];simpa using hc
 clear e0 hc hcc hd hdz hfc hfm hfb h hL hbi
 go_enter Tryz.func109,Tryz.ntmps109
 go_wp2_with (go_at_call 127;refine HPA.out.mono ?_;rintro e w2 ⟨rfl,hb2⟩;have r0:=hb2.cell (p:=⟨W.heap.size,0,none⟩) (Nat.lt_succ_self _);have r1:=hb2.cell (p:=⟨W.heap.size,1,none⟩) (Nat.lt_succ_self _);have r2:=hb2.cell (p:=⟨W.heap.size,2,none⟩) (Nat.lt_succ_self _);have r3:=hb2.cell (p:=⟨W.heap.size,3,none⟩) (Nat.lt_succ_self _);have r4:=hb2.cell (p:=⟨W.heap.size,4,none⟩) (Nat.lt_succ_self _);have g0:=hb2.frozen (p:=⟨W.heap.size,0,none⟩) (Nat.lt_succ_self _);have g1:=hb2.frozen (p:=⟨W.heap.size,1,none⟩) (Nat.lt_succ_self _);have g2:=hb2.frozen (p:=⟨W.heap.size,2,none⟩) (Nat.lt_succ_self _);have g3:=hb2.frozen (p:=⟨W.heap.size,3,none⟩) (Nat.lt_succ_self _);have g4:=hb2.frozen (p:=⟨W.heap.size,4,none⟩) (Nat.lt_succ_self _);have hlt:W.heap.size<w2.heap.size:=(by have:=hb2.size;simp at this;omega);have hne:W.heap.size≠w2.heap.size:=Nat.ne_of_lt hlt;have HG:Hid (w2.heap[W.heap.size]? =some (.cells #[.int .u8 0,.int .u8 0,.int .u8 0,.bool false,.bool false] 188 (0,0))):=(hb2.block W.heap.size (Nat.lt_succ_self _)).trans (heap_alloc_new W _);have HB2:Hid (Below W.heap.size W w2):=((Below.refl _ W).alloc (Nat.le_refl _) _).trans (hb2.mono (Nat.le_succ _));clear hb2)
 have hb:=(blk_five (.int .u8 c) (.int .u8 0) (.int .u8 0) (.bool false) (.bool false) HG.out (list_one rfl)).alloc (.cells #[.int .u32 0,.int .u32 0,.int .u8 0,.int .u16 0,.int .u16 0,.int .u8 0] 38)
 have t5:=(trn_five (fun x=>x=W.heap.size) w2 W.heap.size (.int .u8 c) (.int .u8 0) (.int .u8 0) (.bool false) (.bool false) rfl).trans (Trn.alloc (fun x=>x=W.heap.size) _ (.cells #[.int .u32 0,.int .u32 0,.int .u8 0,.int .u16 0,.int .u16 0,.int .u8 0] 38)) (fun _ _ q=>q)
 exact bodyPost_ret (v:= .agg [.int .u8 c,.int .u8 0,.int .u8 0,.bool false,.bool false].toArray) (judge_results _ _ _ _ rfl hb rfl) rfl ⟨rfl,O,births,(HK.out.below HB2.out).trn t5 (fun x q e=>by have:=HK.out.lt x q;omega),(Trn.below HB2.out).trans t5 (fun m hm q=>by omega),fun y q=> .inl q,by omega⟩
theorem gframe_any {Q K:Nat} {O:Nat->Prop} {cv:Value} {R:Option Bk} {room now births:Nat} {F:List Fl} {cA cD cR cM:Nat} (W:World) (hL:Laid W) (h:GateAt W Q K O .nilFunc cv R room now births F cA cD cR cM) (hbi:births+1<18446744073709551616) (b1:cA+1<18446744073709551616) (b2:cD+1<18446744073709551616) (b3:cR+1<18446744073709551616) (b4:cM+1<18446744073709551616) (d:ByteArray) (fb fc:Nat) (i:Int) (hd:Row W fb 0 d) (hfb:fb<W.heap.size) (hdz:d.size<=300000) (hfc:d.size<=fc) (hfm:fc<=maxLen) (hi:0<=i/\i<=255):
 Calls Tryz.prog 84 #[.pointer (some ⟨Q,0,none⟩),.int .u8 i,.slice (some ⟨fb,0,none⟩) d.size fc] W fun e w'=>e= .returned (.int .u8 (evG R room now F d i).1.v)/\∃O' b',GateAt w' Q K O' .nilFunc cv R room now b' (evG R room now F d i).2 (cA+cntG (evG R room now F d i).1.c (evG R room now F d i).1.v 0) (cD+cntG (evG R room now F d i).1.c (evG R room now F d i).1.v 1) (cR+cntG (evG R room now F d i).1.c (evG R room now F d i).1.v 2) (cM+cntG (evG R room now F d i).1.c (evG R room now F d i).1.v 3)/\Trn (fun x=>x=Q\/O x) W w'/\(∀y,O' y->O y\/W.heap.size<=y)/\b'<=births+1:=by
 by_cases hc:cls d=0
 ·exact gframe_fine W hL h hbi b1 b2 b3 b4 d fb fc i hd hfb hdz hfc hfm hi hc
 ·exact gframe_of W h b1 b2 b3 b4 d fb fc i (gjudge_bad W hL h hbi d fb fc i hd hfb hdz hfc hfm hi hc)
theorem gnew_bad (c:Int) (hc:c<1\/64<c) (lg:Value) (W:World):
 Calls Tryz.prog 106 #[.int .i64 c,lg] W fun e w'=>e= .returned (.tuple #[.pointer none,.iface 22 (.int .i64 1)])/\w'=W:=by
 by_cases h1:c<1
 ·clear hc
  have d1:decide (c<1)=true:=by simpa using h1
  go_enter Tryz.func106,Tryz.ntmps106
  go_wp2_with fail
  go_ret2
  exact⟨rfl,rfl⟩
 ·have h2:64<c:=by omega
  have d1:decide (c<1)=false:=by simpa using h1
  have d2:decide (64<c)=true:=by simpa using h2
  clear hc
  go_enter Tryz.func106,Tryz.ntmps106
  go_wp2_with fail
  go_ret2
  exact⟨rfl,rfl⟩
theorem plNew_bad (c:Int) (hc:c<1\/64<c) (W:World) (hL:Laid W):
 Calls Tryz.prog 80 #[.int .i64 c] W fun e w'=>e= .returned (.tuple #[.pointer none,.int .i64 1])/\Below W.heap.size W w':=by
 have HM:Hid (∀V,Calls _ _ _ V _):=fun V=>gnew_bad c hc .nilFunc V
 have HL:Hid (Laid W):=hL
 clear hc hL
 go_enter Tryz.func80,Tryz.ntmps80
 go_wp2_with (first|(go_at_call 106;refine(HM.out _).mono ?_;rintro e w2 ⟨rfl,rfl⟩)|(go_at_call 19;refine(told_kind 1 _ HL.out).mono ?_;rintro e w3 ⟨rfl,hb3⟩;have HB3:Hid (Below _ _ w3):=hb3;clear hb3))
 go_ret2
 exact⟨rfl,HB3.out⟩
theorem lines_zero:∀(l:List ByteArray) (n:Nat) (b:Bk),(linesOf l n b).1=0->(linesOf l n b).2.1=0
 |[],n,b,h=>by
  unfold linesOf at h ⊢
  split
  ·rfl
  ·rfl
 |x::l,n,b,h=>by
  unfold linesOf at h ⊢
  split
  ·rename_i q;rw[if_pos q] at h;exact lines_zero l _ _ h
  ·rename_i q
   rw[if_neg q] at h
   split
   ·rename_i q2;rw[if_pos q2] at h;exact absurd h q2
   ·rename_i q2;rw[if_neg q2] at h;exact lines_zero l _ _ h
theorem read_zero (s:ByteArray) (h:(readT s).1=0):(readT s).2.1=0:=by
 unfold readT at h ⊢
 split
 ·rfl
 ·rename_i q;rw[if_neg q] at h;exact lines_zero _ _ _ h
theorem CodeIs.keep {W W':World} {A S:Nat->Prop} {cv:Value} {R:Option Bk} (h:CodeIs W A cv R) (ht:Trn S W W') (hs:∀x,cv.ownBlock=some x->¬S x):CodeIs W' A cv R:=by
 rcases h with q|⟨b,g,c,q1,q2,q3,q4,q5,q6,q7⟩
 ·exact .inl q
 ·subst q3
  exact .inr ⟨b,g,c,q1,q2,rfl,fun i hi=>(World.cell?_of_block (a:=⟨g,0+i,none⟩) (ht.block g q5 (hs g rfl))).trans (q4 i hi),Nat.lt_of_lt_of_le q5 ht.size,q6,q7⟩
section
variable {Q K D : Nat} {O : Nat → Prop} {lg cv rv fv : Value} {R : Option Bk} {room now b : Nat} {F : List Fl} {cA cD cR cM N : Nat}
theorem GateAt.trn {W W':World} {S:Nat->Prop} (h:GateAt W Q K O lg cv R room now b F cA cD cR cM) (ht:Trn S W W') (hs:∀x,(x=Q\/O x\/cv.ownBlock=some x)->¬S x):GateAt W' Q K O lg cv R room now b F cA cD cR cM:=
 ⟨h.blk.trn ht (hs Q (.inl rfl)),h.code.keep ht (fun x q=>hs x (.inr (.inr q))),h.keeps.trn ht (fun x q=>hs x (.inr (.inl q))),h.own,h.cap⟩
theorem GateAt.small {W:World} (h:GateAt W Q K O lg cv R room now b F cA cD cR cM):F.length<=room/\room<=64/\now<=topT:=by
 obtain⟨T,mb,v,n,f,G,h,_⟩:=h.keeps
 rw[h.rel.flen]
 exact⟨h.tab.le,h.tab.big,h.now⟩
theorem GateAt.lts {W:World} (h:GateAt W Q K O lg cv R room now b F cA cD cR cM) (x:Nat) (q:x=Q\/O x\/cv.ownBlock=some x):x<W.heap.size:=by
 rcases q with rfl|q|q
 ·exact h.blk.lt
 ·exact h.keeps.lt x q
 ·rcases h.code with⟨_,rfl⟩|⟨b,g,c,_,_,rfl,_,q5,_⟩
  ·cases q
  ·obtain rfl:g=x:=by simpa[Value.ownBlock] using q
   exact q5
def PairS (Q D:Nat) (O:Nat->Prop) (cv rv fv:Value) (x:Nat):Prop:=(x=Q\/O x\/cv.ownBlock=some x)\/(x=D\/rv.ownBlock=some x\/fv.ownBlock=some x)
structure PairAt (W:World) (Q K D:Nat) (O:Nat->Prop) (lg cv rv fv:Value) (R:Option Bk) (room now b:Nat) (F:List Fl) (cA cD cR cM N:Nat):Prop where
 gate:GateAt W Q K O lg cv R room now b F cA cD cR cM
 doc:DocAt W D rv fv R room now F cA cD cR cM
 le:b<=N/\cA<=N/\cD<=N/\cR<=N/\cM<=N
 apart:∀x,(x=Q\/O x\/cv.ownBlock=some x)->¬(x=D\/rv.ownBlock=some x\/fv.ownBlock=some x)
def Pair (W:World) (S:Nat->Prop) (Q D:Nat) (lg:Value) (N:Nat):Prop:=∃K O cv rv fv R room now b F cA cD cR cM,PairAt W Q K D O lg cv rv fv R room now b F cA cD cR cM N/\S=PairS Q D O cv rv fv
def PairTo (W:World) (S:Nat->Prop) (Q D:Nat) (lg:Value) (N:Nat) (w':World):Prop:=∃S',Pair w' S' Q D lg N/\Trn S W w'/\∀x,S' x->S x\/W.heap.size<=x
theorem Pair.trn {W W':World} {S S':Nat->Prop} (h:Pair W S Q D lg N) (ht:Trn S' W W') (hs:∀x,S x->¬S' x):Pair W' S Q D lg N:=by
 obtain⟨K,O,cv,rv,fv,R,room,now,b,F,cA,cD,cR,cM,h,rfl⟩:=h
 exact⟨K,O,cv,rv,fv,R,room,now,b,F,cA,cD,cR,cM,⟨h.gate.trn ht (fun x q=>hs x (.inl q)),h.doc.keep ht (fun x q=>hs x (.inr q)),h.le,h.apart⟩,rfl⟩
theorem Pair.below {W W':World} {S:Nat->Prop} (h:Pair W S Q D lg N) (hb:Below W.heap.size W W'):Pair W' S Q D lg N:=h.trn (Trn.below (S:=fun _=>False) hb) (fun _ _ q=>q)
theorem Pair.lt {W:World} {S:Nat->Prop} (h:Pair W S Q D lg N) (x:Nat) (q:S x):x<W.heap.size:=by
 obtain⟨K,O,cv,rv,fv,R,room,now,b,F,cA,cD,cR,cM,h,rfl⟩:=h
 rcases q with q|q
 ·exact h.gate.lts x q
 ·exact h.doc.lts x q
theorem Pair.le {W:World} {S:Nat->Prop} {N':Nat} (h:Pair W S Q D lg N) (hn:N<=N'):Pair W S Q D lg N':=by
 obtain⟨K,O,cv,rv,fv,R,room,now,b,F,cA,cD,cR,cM,h,e⟩:=h
 have:=h.le
 exact⟨K,O,cv,rv,fv,R,room,now,b,F,cA,cD,cR,cM,⟨h.gate,h.doc,by omega,h.apart⟩,e⟩
theorem Pair.to {W W':World} {S:Nat->Prop} (h:Pair W S Q D lg N) (hb:Below W.heap.size W W'):PairTo W S Q D lg N W':=⟨S,h.below hb,Trn.below hb,fun _ q=> .inl q⟩
theorem pair_load {W:World} {S:Nat->Prop} (h:Pair W S Q D lg N) (hL:Laid W) (hm:MaxL W) (s:ByteArray) (hs:s.size<=maxLen):
 Calls Tryz.prog 54 #[.pointer (some ⟨Q,0,none⟩),.string s] W fun e w1=>e= .returned (.tuple #[.int .i64 ((readT s).1:Int),.int .i64 ((readT s).2.1:Int)])/\Trn S W w1/\∀w2,Below w1.heap.size w1 w2->Calls Tryz.prog 55 #[.pointer (some ⟨D,0,none⟩),.string s] w2 fun e w3=>e= .returned (.tuple #[.int .i64 ((readT s).1:Int),.int .i64 ((readT s).2.1:Int)])/\PairTo W S Q D lg N w3:=by
 by_cases hk:(readT s).1=0
 ·obtain⟨K,O,cv,rv,fv,R,room,now,b,F,cA,cD,cR,cM,h,rfl⟩:=h
  have hr:readT s=(0,(readT s).2.1,(readT s).2.2):=by rw[<-hk]
  have hz:=read_zero s hk
  refine(plLoad_ok W hL hm h.gate s _ _ hs hr).mono fun e w1 z=> ?_
  obtain⟨e1,cv',g1,t1,n1⟩:=z
  have hQ:∀x,x=Q->PairS Q D O cv rv fv x:=fun x q=> .inl (.inl q)
  refine⟨by rw[e1,hk,hz];rfl,t1.mono (fun x _ q=>hQ x q),fun w2 hb2=> ?_⟩
  have d1:DocAt w1 D rv fv R room now F cA cD cR cM:=h.doc.keep t1 (fun x q e=>h.apart x (.inl e) q)
  have s1:=t1.size
  refine(dload_ok w2 (d1.below hb2) s hs hk (read_good s)).mono fun e w3 z=> ?_
  obtain⟨e2,rv',d2,t2,n2⟩:=z
  have s2:=hb2.size
  have hDl:=h.doc.lts D (.inl rfl)
  refine⟨by rw[e2,hk];rfl,PairS Q D O cv' rv' fv,⟨K,O,cv',rv',fv,_,room,now,b,F,cA,cD,cR,cM,⟨(g1.below hb2).trn t2 (fun x q e=> ?_),d2,h.le,fun x q r=> ?_⟩,rfl⟩,?_,fun x q=> ?_⟩
  ·subst e
   rcases q with q|q|q
   ·exact h.apart _ (.inl q) (.inl rfl)
   ·exact h.apart _ (.inr (.inl q)) (.inl rfl)
   ·have:=n1 _ q;omega
  ·have lt:∀y,(y=Q\/O y\/cv.ownBlock=some y)->y<W.heap.size:=fun y q=>h.gate.lts y q
   have ld:∀y,(y=D\/rv.ownBlock=some y\/fv.ownBlock=some y)->y<W.heap.size:=fun y q=>h.doc.lts y q
   have l1:∀y,cv'.ownBlock=some y->y<w1.heap.size:=fun y q=>g1.lts y (.inr (.inr q))
   rcases r with r|r|r
   ·rcases q with q|q|q
    ·exact h.apart x (.inl q) (.inl r)
    ·exact h.apart x (.inr (.inl q)) (.inl r)
    ·have:=n1 x q;have:=ld x (.inl r);omega
   ·have r2:=n2 x r
    rcases q with q|q|q
    ·have:=lt x (.inl q);omega
    ·have:=lt x (.inr (.inl q));omega
    ·have:=l1 x q;omega
   ·rcases q with q|q|q
    ·exact h.apart x (.inl q) (.inr (.inr r))
    ·exact h.apart x (.inr (.inl q)) (.inr (.inr r))
    ·have:=n1 x q;have:=ld x (.inr (.inr r));omega
  ·exact((t1.mono (fun x _ q=>hQ x q)).trans (Trn.below hb2) (fun _ _ q=>q)).trans (t2.mono (fun x _ q=> .inr (.inl q))) (fun _ _ q=>q)
  ·rcases q with(q|q|q)|(q|q|q)
   ·exact .inl (.inl (.inl q))
   ·exact .inl (.inl (.inr (.inl q)))
   ·exact .inr (n1 x q)
   ·exact .inl (.inr (.inl q))
   ·exact .inr (by have:=n2 x q;omega)
   ·exact .inl (.inr (.inr (.inr q)))
 ·refine(plLoad_bad Q W hL hm s _ _ _ hs rfl hk).mono fun e w1 z=> ?_
  refine⟨z.1,Trn.below z.2,fun w2 hb2=> ?_⟩
  refine(dload_bad D s w2 hs hk).mono fun e w3 y=>⟨y.1,h.to ?_⟩
  have s1:=z.2.size
  exact(z.2.trans (hb2.mono s1)).trans (y.2.mono (by have:=hb2.size;omega))
theorem pair_tick {W:World} {S:Nat->Prop} (h:Pair W S Q D lg N) (m:Nat) (hm:m<=topT):
 Calls Tryz.prog 57 #[.pointer (some ⟨Q,0,none⟩),.int .u64 (m:Int)] W fun e w1=>e= .returned (.tuple #[])/\Trn S W w1/\∀w2,Below w1.heap.size w1 w2->Calls Tryz.prog 58 #[.pointer (some ⟨D,0,none⟩),.int .u64 (m:Int)] w2 fun e w3=>e= .returned (.tuple #[])/\PairTo W S Q D lg N w3:=by
 obtain⟨K,O,cv,rv,fv,R,room,now,b,F,cA,cD,cR,cM,h,rfl⟩:=h
 refine(gtick_any W h.gate m hm).mono fun e w1 z=> ?_
 obtain⟨e1,O',g1,t1,n1⟩:=z
 have hG:∀x,(x=Q\/O x)->PairS Q D O cv rv fv x:=fun x q=> .inl (q.imp id .inl)
 have hG2:∀x,(x=Q\/O x)->(x=Q\/O x\/cv.ownBlock=some x):=fun x q=>q.imp id .inl
 have hO2:∀x,(x=Q\/O' x\/cv.ownBlock=some x)->(x=Q\/O x\/cv.ownBlock=some x):=fun x q=>q.imp id (Or.imp (n1 x) id)
 refine⟨e1,t1.mono (fun x _ q=>hG x q),fun w2 hb2=> ?_⟩
 have d1:DocAt w1 D rv fv R room now F cA cD cR cM:=h.doc.keep t1 (fun x q e=>h.apart x (hG2 x e) q)
 obtain⟨sm1,sm2,sm3⟩:=h.gate.small
 refine(dtick_any w2 (d1.below hb2) (by omega) sm3 m hm).mono fun e w3 z=> ?_
 obtain⟨e2,fv',d2,t2,n2⟩:=z
 have s1:=t1.size
 have s2:=hb2.size
 refine⟨e2,PairS Q D O' cv rv fv',⟨K,O',cv,rv,fv',R,room,_,b,_,cA,cD,cR,cM,⟨(g1.below hb2).trn t2 (fun x q e=>h.apart x (hO2 x q) (.inl e)),d2,h.le,fun x q r=> ?_⟩,rfl⟩,?_,fun x q=> ?_⟩
 ·have q':=hO2 x q
  rcases r with r|r|r
  ·exact h.apart x q' (.inl r)
  ·exact h.apart x q' (.inr (.inl r))
  ·have:=n2 x r;have:=h.gate.lts x q';omega
 ·exact((t1.mono (fun x _ q=>hG x q)).trans (Trn.below hb2) (fun _ _ q=>q)).trans (t2.mono (fun x _ q=> .inr (.inl q))) (fun _ _ q=>q)
 ·rcases q with q|q|q|q
  ·exact .inl (.inl (hO2 x q))
  ·exact .inl (.inr (.inl q))
  ·exact .inl (.inr (.inr (.inl q)))
  ·exact .inr (by have:=n2 x q;omega)
theorem pair_frame {W:World} {S:Nat->Prop} (h:Pair W S Q D .nilFunc N) (hL:Laid W) (hN:N<18446744073709551614) (s:ByteArray) (fb fc:Nat) (i:Int) (hd:Row W fb 0 s) (hfb:fb<W.heap.size) (hdz:s.size<=300000) (hfc:s.size<=fc) (hfm:fc<=maxLen) (hi:0<=i/\i<=255):
 ∃ev:Ev,Calls Tryz.prog 84 #[.pointer (some ⟨Q,0,none⟩),.int .u8 i,.slice (some ⟨fb,0,none⟩) s.size fc] W fun e w1=>e= .returned (.int .u8 ev.v)/\Trn S W w1/\∀w2,Below w1.heap.size w1 w2->Calls Tryz.prog 85 #[.pointer (some ⟨D,0,none⟩),.int .u8 i,.string s] w2 fun e w3=>e= .returned (.agg ev.l.toArray)/\PairTo W S Q D .nilFunc (N+1) w3:=by
 obtain⟨K,O,cv,rv,fv,R,room,now,b,F,cA,cD,cR,cM,h,rfl⟩:=h
 obtain⟨l0,l1,l2,l3,l4⟩:=h.le
 obtain⟨sm1,sm2,sm3⟩:=h.gate.small
 refine⟨(evG R room now F s i).1,(gframe_any W hL h.gate (by omega) (by omega) (by omega) (by omega) (by omega) s fb fc i hd hfb hdz hfc hfm hi).mono fun e w1 z=> ?_⟩
 obtain⟨e1,O',b',g1,t1,n1,nb⟩:=z
 have hG:∀x,(x=Q\/O x)->PairS Q D O cv rv fv x:=fun x q=> .inl (q.imp id .inl)
 have hG2:∀x,(x=Q\/O x)->(x=Q\/O x\/cv.ownBlock=some x):=fun x q=>q.imp id .inl
 refine⟨e1,t1.mono (fun x _ q=>hG x q),fun w2 hb2=> ?_⟩
 have d1:DocAt w1 D rv fv R room now F cA cD cR cM:=h.doc.keep t1 (fun x q e=>h.apart x (hG2 x e) q)
 refine(dframe_any w2 (d1.below hb2) sm3 sm1 h.gate.cap sm2 (by omega) (by omega) (by omega) (by omega) s (by unfold maxLen;omega) i hi (hdOf_wf s)).mono fun e w3 z=> ?_
 obtain⟨e2,fv',d2,t2,n2⟩:=z
 have s1:=t1.size
 have s2:=hb2.size
 have hO2:∀x,(x=Q\/O' x\/cv.ownBlock=some x)->(x=Q\/O x\/cv.ownBlock=some x)\/W.heap.size<=x/\x<w1.heap.size:=fun x q=>by
  rcases q with q|q|q
  ·exact .inl (.inl q)
  ·rcases n1 x q with z|z
   ·exact .inl (.inr (.inl z))
   ·exact .inr ⟨z,g1.keeps.lt x q⟩
  ·exact .inl (.inr (.inr q))
 have hDl:∀x,(x=D\/rv.ownBlock=some x\/fv.ownBlock=some x)->x<W.heap.size:=fun x q=>h.doc.lts x q
 have c1:∀c v k,cntG c v k<=1:=fun c v k=>by unfold cntG;(repeat' split)<;>omega
 refine⟨e2,PairS Q D O' cv rv fv',⟨K,O',cv,rv,fv',R,room,now,b',_,_,_,_,_,⟨(g1.below hb2).trn t2 (fun x q e=> ?_),d2,?_,fun x q r=> ?_⟩,rfl⟩,?_,fun x q=> ?_⟩
 ·have he:x=D\/rv.ownBlock=some x\/fv.ownBlock=some x:=e.imp id .inr
  rcases hO2 x q with z|z
  ·exact h.apart x z he
  ·have:=hDl x he;omega
 ·have:=c1 (evG R room now F s i).1.c (evG R room now F s i).1.v 0
  have:=c1 (evG R room now F s i).1.c (evG R room now F s i).1.v 1
  have:=c1 (evG R room now F s i).1.c (evG R room now F s i).1.v 2
  have:=c1 (evG R room now F s i).1.c (evG R room now F s i).1.v 3
  exact⟨by omega,by omega,by omega,by omega,by omega⟩
 ·rcases r with r|r|r
  ·rcases hO2 x q with z|z
   ·exact h.apart x z (.inl r)
   ·have:=hDl x (.inl r);omega
  ·rcases hO2 x q with z|z
   ·exact h.apart x z (.inr (.inl r))
   ·have:=hDl x (.inr (.inl r));omega
  ·rcases n2 x r with y|y
   ·rcases hO2 x q with z|z
    ·exact h.apart x z (.inr (.inr y))
    ·have:=hDl x (.inr (.inr y));omega
   ·rcases hO2 x q with z|z
    ·have:=h.gate.lts x z;omega
    ·omega
 ·exact((t1.mono (fun x _ q=>hG x q)).trans (Trn.below hb2) (fun _ _ q=>q)).trans (t2.mono (fun x _ q=> .inr (q.imp id .inr))) (fun _ _ q=>q)
 ·rcases q with q|q|q|q
  ·rcases hO2 x q with z|z
   ·exact .inl (.inl z)
   ·exact .inr z.1
  ·exact .inl (.inr (.inl q))
  ·exact .inl (.inr (.inr (.inl q)))
  ·rcases n2 x q with y|y
   ·exact .inl (.inr (.inr (.inr y)))
   ·exact .inr (by omega)
end
def lpk (c n:Int):Int:=(if c<0 then-(c+1) else c) % n
theorem lpk_bd (c n:Int) (h:0<n):0<=lpk c n/\lpk c n<n:=⟨Int.emod_nonneg _ (by omega),Int.emod_lt_of_pos _ h⟩
theorem lpick_any (c n:Int) (w:World) (hc: -9223372036854775808<=c/\c<=9223372036854775807) (hn:1<=n/\n<=1000000):
 Calls Tryz.prog 13 #[.int .i64 c,.int .i64 n] w fun e w'=>e= .returned (.int .i64 (lpk c n))/\w'=w:=by
 have h0:¬n=0:=by omega
 by_cases h:c<0
 ·have e:lpk c n=(-(c+1)) % n:=by simp[lpk,h]
  rw[e]
  go_enter Tryz.func13,Tryz.ntmps13
  go_wp2
  go_ret
  exact⟨ret_int (by rw[<-Int.neg_tmod,Int.tmod_eq_emod_of_nonneg (by omega)]),rfl⟩
 ·have e:lpk c n=c % n:=by simp[lpk,h]
  rw[e]
  go_enter Tryz.func13,Tryz.ntmps13
  go_wp2
  go_ret
  exact⟨rfl,rfl⟩
def gatL:List (Nat×Nat)->List Value
 |[]=>[]
 |q::L=> .pointer (some ⟨q.1,0,none⟩):: .pointer (some ⟨q.2,0,none⟩):: .pointer none::gatL L
theorem gatL_app:∀(A B:List (Nat×Nat)),gatL (A++B)=gatL A++gatL B
 |[],_=>rfl
 |q::A,B=>by simp[gatL,gatL_app A B]
theorem gatL_at:∀(L:List (Nat×Nat)) (i:Nat) (q:Nat×Nat),L[i]? =some q->(gatL L)[i*3]? =some (.pointer (some ⟨q.1,0,none⟩))/\(gatL L)[i*3+1]? =some (.pointer (some ⟨q.2,0,none⟩))/\(gatL L)[i*3+2]? =some (.pointer none)
 |[],i,q,h=>by simp at h
 |p::L,0,q,h=>by
  simp only[List.getElem?_cons_zero,Option.some.injEq] at h
  subst h
  exact⟨rfl,rfl,rfl⟩
 |p::L,i+1,q,h=>by
  simp only[List.getElem?_cons_succ] at h
  obtain⟨a,b,c⟩:=gatL_at L i q h
  refine⟨?_,?_,?_⟩
  ·rw[show(i+1)*3=i*3+3 by omega];exact a
  ·rw[show(i+1)*3+1=i*3+1+3 by omega];exact b
  ·rw[show(i+1)*3+2=i*3+2+3 by omega];exact c
structure Gates (W:World) (B V:Nat) (gv:Value) (L:List (Nat×Nat)) (N:Nat):Prop where
 blk:Blk 89 W V [gv,.bool true]
 row:W.ownsRow B 122 3 gv L.length (gatL L)
 at_:∃Sf:Nat->Nat->Prop,(∀i q,L[i]? =some q->Pair W (Sf i) q.1 q.2 .nilFunc N)/\(∀i j,i<L.length->j<L.length->i≠j->∀x,Sf i x->¬Sf j x)/\∀i x,i<L.length->Sf i x->B<=x/\x≠V/\gv.ownBlock≠some x
 len:L.length<=N
 base:B<=V
theorem Gates.below {W W':World} {B V N:Nat} {gv:Value} {L:List (Nat×Nat)} (h:Gates W B V gv L N) (hb:Below W.heap.size W W'):Gates W' B V gv L N:=by
 obtain⟨Sf,h1,h2,h3⟩:=h.at_
 exact⟨h.blk.below hb h.blk.lt,owns_below h.row hb,⟨Sf,fun i q e=>(h1 i q e).below hb,h2,h3⟩,h.len,h.base⟩
theorem Gates.le {W:World} {B V N N':Nat} {gv:Value} {L:List (Nat×Nat)} (h:Gates W B V gv L N) (hn:N<=N'):Gates W B V gv L N':=by
 obtain⟨Sf,h1,h2,h3⟩:=h.at_
 exact⟨h.blk,h.row,⟨Sf,fun i q e=>(h1 i q e).le hn,h2,h3⟩,Nat.le_trans h.len hn,h.base⟩
theorem Gates.one {W:World} {B V N i:Nat} {gv:Value} {L:List (Nat×Nat)} {q:Nat×Nat} (h:Gates W B V gv L N) (hi:L[i]? =some q):∃S,Pair W S q.1 q.2 .nilFunc N/\(∀x,S x->B<=x)/\∀w' N',N<=N'->PairTo W S q.1 q.2 .nilFunc N' w'->Gates w' B V gv L N'/\Below B W w':=by
 obtain⟨Sf,h1,h2,h3⟩:=h.at_
 have hil:i<L.length:=(List.getElem?_eq_some_iff.1 hi).1
 refine⟨Sf i,h1 i q hi,fun x z=>(h3 i x hil z).1,fun w' N' hn ht=> ?_⟩
 obtain⟨S',p',t',n'⟩:=ht
 have hV:=h.blk.lt
 have hBW:B<=W.heap.size:=Nat.le_trans h.base (Nat.le_of_lt hV)
 refine⟨⟨h.blk.trn t' (fun z=>(h3 i V hil z).2.1 rfl),owns_trn h.row t' (fun x e z=>(h3 i x hil z).2.2 e),⟨fun j=>if j=i then S' else Sf j,fun j r hj=> ?_,fun j k hj hk hne x hx hy=> ?_,fun j x hj hx=> ?_⟩,Nat.le_trans h.len hn,h.base⟩,t'.to_below hBW (fun m hm z=>by have:=(h3 i m hil z).1;omega)⟩
 ·by_cases e:j=i
  ·subst e
   rw[hi] at hj
   cases hj
   simpa using p'
  ·have hjl:j<L.length:=(List.getElem?_eq_some_iff.1 hj).1
   simp only[if_neg e]
   exact((h1 j r hj).trn t' (fun x z y=>h2 j i hjl hil e x z y)).le hn
 ·by_cases e:j=i
  ·subst e
   have e2:k≠j:=fun z=>hne z.symm
   simp only[if_true] at hx
   simp only[if_neg e2] at hy
   rcases n' x hx with z|z
   ·exact h2 j k hj hk hne x z hy
   ·obtain⟨r,hr⟩:∃r,L[k]? =some r:=⟨_,List.getElem?_eq_getElem hk⟩
    have:=(h1 k r hr).lt x hy;omega
  ·simp only[if_neg e] at hx
   by_cases e2:k=i
   ·subst e2
    simp only[if_true] at hy
    rcases n' x hy with z|z
    ·exact h2 j k hj hk hne x hx z
    ·obtain⟨r,hr⟩:∃r,L[j]? =some r:=⟨_,List.getElem?_eq_getElem hj⟩
     have:=(h1 j r hr).lt x hx;omega
   ·simp only[if_neg e2] at hy
    exact h2 j k hj hk hne x hx hy
 ·by_cases e:j=i
  ·subst e
   simp only[if_true] at hx
   rcases n' x hx with z|z
   ·exact h3 j x hj z
   ·refine⟨by omega,by omega,fun q=> ?_⟩
    have:=(h.row.lt x q).2;omega
  ·simp only[if_neg e] at hx
   exact h3 j x hj hx
theorem Gates.more {W W1 w2:World} {B V N Q D g c:Nat} {S:Nat->Prop} {gv:Value} {L:List (Nat×Nat)} (h:Gates W B V gv L N) (hb:Below W.heap.size W W1) (hp:Pair W1 S Q D .nilFunc N) (hS:∀x,S x->W.heap.size<=x) (hg:W1.grownBy w2 gv.ownBlock) (ho:w2.ownsRow B 122 3 (.slice (some ⟨g,0,none⟩) (L.length+1) c) (L.length+1) (gatL (L++[(Q,D)]))) (hat:gv.ownBlock=some g\/W1.heap.size<=g):
 Gates (w2.setCell ⟨V,0,none⟩ (.slice (some ⟨g,0,none⟩) (L.length+1) c)) B V (.slice (some ⟨g,0,none⟩) (L.length+1) c) (L++[(Q,D)]) (N+1)/\Below B W (w2.setCell ⟨V,0,none⟩ (.slice (some ⟨g,0,none⟩) (L.length+1) c)):=by
 obtain⟨Sf,h1,h2,h3⟩:=h.at_
 have hV:=h.blk.lt
 have hBW:B<=W.heap.size:=Nat.le_trans h.base (Nat.le_of_lt hV)
 have hz:=hb.size
 have gl:∀x,gv.ownBlock=some x->B<=x/\x<W.heap.size:=fun x q=>h.row.lt x q
 have gV:gv.ownBlock≠some V:=owns_ne h.row h.blk (by decide)
 have ln:∀i x,i<L.length->Sf i x->x<W.heap.size:=fun i x hi q=>by
  obtain⟨r,hr⟩:∃r,L[i]? =some r:=⟨_,List.getElem?_eq_getElem hi⟩
  exact(h1 i r hr).lt x q
 have t2:Trn (fun x=>gv.ownBlock=some x\/x=V) W1 w2:=Trn.grown' hg (fun b q=> .inl q)
 have t3:Trn (fun x=>gv.ownBlock=some x\/x=V) W1 (w2.setCell ⟨V,0,none⟩ (.slice (some ⟨g,0,none⟩) (L.length+1) c)):=t2.trans (Trn.setCell (S:=fun x=>gv.ownBlock=some x\/x=V) w2 V 0 _ (.inr rfl)) (fun _ _ q=>q)
 have b2:Blk 89 w2 V [gv,.bool true]:=⟨(hg.block V (by omega) (fun q=>gV q.symm)).trans (h.blk.below hb hV).1,h.blk.2⟩
 have gneV:g≠V:=by
  rcases hat with q|q
  ·exact fun e=>gV (e▸q)
  ·omega
 refine⟨⟨b2.set 0 _,owns_trn (by rw[List.length_append];exact ho) (Trn.setCell (S:=fun x=>x=V) w2 V 0 _ rfl) (fun x q e=> ?_),⟨fun j=>if j<L.length then Sf j else S,fun j r hj=> ?_,fun j k hj hk hne x hx hy=> ?_,fun j x hj hx=> ?_⟩,by rw[List.length_append];have:=h.len;simp;omega,h.base⟩,?_⟩
 ·obtain rfl:g=x:=by simpa[Value.ownBlock] using q
  exact gneV e
 ·by_cases e:j<L.length
  ·rw[List.getElem?_append_left e] at hj
   simp only[if_pos e]
   exact(((h1 j r hj).below hb).trn t3 (fun x q z=>by
    rcases z with z|z
    ·exact(h3 j x e q).2.2 z
    ·exact(h3 j x e q).2.1 z)).le (Nat.le_succ _)
  ·have hjl:j<L.length+1:=by have:=(List.getElem?_eq_some_iff.1 hj).1;simpa using this
   obtain rfl:j=L.length:=by omega
   simp at hj
   subst hj
   simp only[if_neg e]
   exact(hp.trn t3 (fun x q z=>by
    have:=hS x q
    rcases z with z|z
    ·have:=(gl x z).2;omega
    ·omega)).le (Nat.le_succ _)
 ·rw[List.length_append] at hj hk
  simp only[List.length_cons,List.length_nil] at hj hk
  by_cases e:j<L.length
  ·simp only[if_pos e] at hx
   by_cases e2:k<L.length
   ·simp only[if_pos e2] at hy
    exact h2 j k e e2 hne x hx hy
   ·simp only[if_neg e2] at hy
    have:=ln j x e hx;have:=hS x hy;omega
  ·simp only[if_neg e] at hx
   by_cases e2:k<L.length
   ·simp only[if_pos e2] at hy
    have:=ln k x e2 hy;have:=hS x hx;omega
   ·omega
 ·by_cases e:j<L.length
  ·simp only[if_pos e] at hx
   obtain⟨a,b,c'⟩:=h3 j x e hx
   refine⟨a,b,fun q=> ?_⟩
   obtain rfl:g=x:=by simpa[Value.ownBlock] using q
   rcases hat with z|z
   ·exact c' z
   ·have:=ln j g e hx;omega
  ·simp only[if_neg e] at hx
   have hx2:=hS x hx
   refine⟨by omega,by omega,fun q=> ?_⟩
   obtain rfl:g=x:=by simpa[Value.ownBlock] using q
   rcases hat with z|z
   ·have:=(gl g z).2;omega
   ·have:=hp.lt g hx;omega
 ·exact(hb.mono hBW).trans (t3.to_below (by omega) (fun m hm q=>by
   rcases q with q|q
   ·have:=(gl m q).1;omega
   ·have:=h.base;omega))
structure Loc (n:Nat) (A B:World):Prop where
 size:A.heap.size<=B.heap.size
 block:∀m,n<=m->m<A.heap.size->B.heap[m]? =A.heap[m]?
theorem Loc.cell {n:Nat} {A B:World} (h:Loc n A B) {p:Addr} {v:Value} (hn:n<=p.block) (hv:A.cell? p=some v):B.cell? p=some v:=
 (World.cell?_of_block (h.block p.block hn (World.block_lt_of_cell? A p hv))).trans hv
theorem Loc.trn {n:Nat} {A B:World} {S:Nat->Prop} (t:Trn S A B) (h:∀x,S x->x<n):Loc n A B:=⟨t.size,fun m h1 h2=>t.block m h2 (fun q=>by have:=h m q;omega)⟩
section
variable {W V0 : World} {B V N i : Nat} {gv : Value} {L : List (Nat × Nat)} {q : Nat × Nat}
theorem Gates.two (h:Gates W B V gv L N) (hi:L[i]? =some q) (hb:Below W.heap.size W V0):∃S,Pair V0 S q.1 q.2 .nilFunc N/\(∀x,S x->x<W.heap.size)/\∀w' N',N<=N'->PairTo V0 S q.1 q.2 .nilFunc N' w'->Gates w' B V gv L N'/\Below B W w':=by
 obtain⟨Sf,h1,h2,h3⟩:=h.at_
 obtain⟨S,p1,p2,p3⟩:=h.one hi
 obtain⟨S',r1,r2,r3⟩:=(h.below hb).one hi
 have hz:=hb.size
 refine⟨S,p1.below hb,fun x z=>p1.lt x z,fun w' N' hn ht=> ?_⟩
 obtain⟨T,a,b,c⟩:=ht
 refine p3 w' N' hn ⟨T,a,(Trn.below hb).trans b (fun _ _ z=>z),fun x z=> ?_⟩
 rcases c x z with y|y
 ·exact .inl y
 ·exact .inr (by omega)
theorem gates_load (h:Gates W B V gv L N) (hi:L[i]? =some q) (hb:Below W.heap.size W V0) (hL:Laid W) (hm:MaxL W) (s:ByteArray) (hs:s.size<=maxLen):
 Calls Tryz.prog 54 #[.pointer (some ⟨q.1,0,none⟩),.string s] V0 fun e w1=>e= .returned (.tuple #[.int .i64 ((readT s).1:Int),.int .i64 ((readT s).2.1:Int)])/\Loc W.heap.size V0 w1/\∀w2,Below w1.heap.size w1 w2->Calls Tryz.prog 55 #[.pointer (some ⟨q.2,0,none⟩),.string s] w2 fun e w3=>e= .returned (.tuple #[.int .i64 ((readT s).1:Int),.int .i64 ((readT s).2.1:Int)])/\Gates w3 B V gv L N/\Below B W w3:=by
 obtain⟨S,p1,p2,p3⟩:=h.two hi hb
 refine(pair_load p1 (hL.below hb) (hm.below hb) s hs).mono fun e w1 z=>⟨z.1,Loc.trn z.2.1 p2,fun w2 hb2=>(z.2.2 w2 hb2).mono fun e w3 y=>⟨y.1,p3 w3 N (Nat.le_refl _) y.2⟩⟩
theorem gates_tick (h:Gates W B V gv L N) (hi:L[i]? =some q) (hb:Below W.heap.size W V0) (m:Nat) (hm:m<=topT):
 Calls Tryz.prog 57 #[.pointer (some ⟨q.1,0,none⟩),.int .u64 (m:Int)] V0 fun e w1=>e= .returned (.tuple #[])/\Loc W.heap.size V0 w1/\∀w2,Below w1.heap.size w1 w2->Calls Tryz.prog 58 #[.pointer (some ⟨q.2,0,none⟩),.int .u64 (m:Int)] w2 fun e w3=>e= .returned (.tuple #[])/\Gates w3 B V gv L N/\Below B W w3:=by
 obtain⟨S,p1,p2,p3⟩:=h.two hi hb
 refine(pair_tick p1 m hm).mono fun e w1 z=>⟨z.1,Loc.trn z.2.1 p2,fun w2 hb2=>(z.2.2 w2 hb2).mono fun e w3 y=>⟨y.1,p3 w3 N (Nat.le_refl _) y.2⟩⟩
theorem gates_now (h:Gates W B V gv L N) (hi:L[i]? =some q) (hb:Below W.heap.size W V0):∃now:Nat,(Calls Tryz.prog 59 #[.pointer (some ⟨q.1,0,none⟩)] V0 fun e w1=>e= .returned (.int .u64 (now:Int))/\w1=V0)/\V0.cell? ⟨q.2,4,none⟩=some (.int .u64 (now:Int)):=by
 obtain⟨S,p1,p2,p3⟩:=h.two hi hb
 obtain⟨K,O,cv,rv,fv,R,room,now,b,F,cA,cD,cR,cM,h,rfl⟩:=p1
 exact⟨now,gnow_any V0 h.gate,h.doc.blk.cell 4 _ rfl⟩
theorem gates_counts (h:Gates W B V gv L N) (hi:L[i]? =some q) (hb:Below W.heap.size W V0):∃cA cD cR cM:Nat,(Calls Tryz.prog 62 #[.pointer (some ⟨q.1,0,none⟩)] V0 fun e w1=>e= .returned (.agg #[.int .u64 (cA:Int),.int .u64 (cD:Int),.int .u64 (cR:Int),.int .u64 (cM:Int)])/\Below V0.heap.size V0 w1)/\V0.cell? ⟨q.2,6,none⟩=some (.int .u64 (cA:Int))/\V0.cell? ⟨q.2,7,none⟩=some (.int .u64 (cD:Int))/\V0.cell? ⟨q.2,8,none⟩=some (.int .u64 (cR:Int))/\V0.cell? ⟨q.2,9,none⟩=some (.int .u64 (cM:Int))/\q.2<V0.heap.size:=by
 obtain⟨S,p1,p2,p3⟩:=h.two hi hb
 obtain⟨K,O,cv,rv,fv,R,room,now,b,F,cA,cD,cR,cM,h,rfl⟩:=p1
 exact⟨cA,cD,cR,cM,gcounts_any V0 h.gate,h.doc.blk.cell 6 _ rfl,h.doc.blk.cell 7 _ rfl,h.doc.blk.cell 8 _ rfl,h.doc.blk.cell 9 _ rfl,h.doc.blk.lt⟩
theorem gates_frame (h:Gates W B V gv L N) (hi:L[i]? =some q) (hb:Below W.heap.size W V0) (hL:Laid W) (hN:N<18446744073709551614) (s:ByteArray) (fb fc:Nat) (j:Int) (hd:Row V0 fb 0 s) (hfb:fb<V0.heap.size) (hdz:s.size<=300000) (hfc:s.size<=fc) (hfm:fc<=maxLen) (hj:0<=j/\j<=255):
 ∃ev:Ev,Calls Tryz.prog 84 #[.pointer (some ⟨q.1,0,none⟩),.int .u8 j,.slice (some ⟨fb,0,none⟩) s.size fc] V0 fun e w1=>e= .returned (.int .u8 ev.v)/\Loc W.heap.size V0 w1/\∀w2,Below w1.heap.size w1 w2->Calls Tryz.prog 85 #[.pointer (some ⟨q.2,0,none⟩),.int .u8 j,.string s] w2 fun e w3=>e= .returned (.agg ev.l.toArray)/\Loc W.heap.size V0 w3/\Gates w3 B V gv L (N+1)/\Below B W w3:=by
 obtain⟨S,p1,p2,p3⟩:=h.two hi hb
 obtain⟨ev,hc⟩:=pair_frame p1 (hL.below hb) hN s fb fc j hd hfb hdz hfc hfm hj
 refine⟨ev,hc.mono fun e w1 z=>⟨z.1,Loc.trn z.2.1 p2,fun w2 hb2=>(z.2.2 w2 hb2).mono fun e w3 y=>⟨y.1,?_,p3 w3 (N+1) (Nat.le_succ _) y.2⟩⟩⟩
 obtain⟨S',_,t,_⟩:=y.2
 exact Loc.trn t p2
theorem gates_pair (h:Gates W B V gv L N) (hi:L[i]? =some q) (hb:Below W.heap.size W V0):∃S,Pair V0 S q.1 q.2 .nilFunc N:=by
 obtain⟨S,p1,p2,p3⟩:=h.two hi hb
 exact⟨S,p1⟩
end
theorem flow_ne (a b p s d u:Int) (rep clo:Bool) (w:World):(binOp .neq 197 (.agg #[.int .u32 a,.int .u32 b,.int .u8 p,.int .u16 s,.int .u16 d,.bool rep,.bool clo,.int .u64 u]) (.agg #[.int .u32 a,.int .u32 b,.int .u8 p,.int .u16 s,.int .u16 d,.bool rep,.bool clo,.int .u64 u])).run Tryz.prog w= .ok (.bool false) w:=by
 have u1:=Tryz.underlying35
 have u2:=Tryz.underlying36
 have u3:=Tryz.underlying5
 have u4:=Tryz.underlying4
 have u5:=Tryz.underlying125
 have hS:Tryz.prog.underlying 197=some (.struct (Tryz.prog.fieldsOf 197)):=by kernel_rfl
 have hp:Tryz.prog.stoodInHeld 197=false:=by kernel_rfl
 rw[run_neq_struct,show(10000:Nat)=9999+1 from rfl,run_equalIn_agg w 9999 197 _ _ hS hp]
 simp only[Program.fieldsOf,Tryz.underlying197]
 go_simp
theorem counts_eq (a b c d:Int) (w:World):(binOp .eql 130 (.agg #[.int .u64 a,.int .u64 b,.int .u64 c,.int .u64 d]) (.agg #[.int .u64 a,.int .u64 b,.int .u64 c,.int .u64 d])).run Tryz.prog w= .ok (.bool true) w:=by
 have u5:=Tryz.underlying125
 have hS:Tryz.prog.underlying 130=some (.struct (Tryz.prog.fieldsOf 130)):=by kernel_rfl
 have hp:Tryz.prog.stoodInHeld 130=false:=by kernel_rfl
 rw[run_eql_struct,show(10000:Nat)=9999+1 from rfl,run_equalIn_agg w 9999 130 _ _ hS hp]
 simp only[Program.fieldsOf,Tryz.underlying130]
 go_simp
theorem flows_cap (p:Option Addr) (n c:Nat) (h:(p=none/\c=0)\/∃g,p=some ⟨g,0,none⟩) (W:World):(Instr.slice 128 (.slice p n c) none (some (.int .i64 (c:Int))) none).run Tryz.prog W= .ok (.slice p c c) W:=by
 rcases h with⟨rfl,rfl⟩|⟨g,rfl⟩
 ·have hs:∀w,(sizeOf (Tryz.prog.elem 128)).run Tryz.prog w= .ok 8 w:=fun w=>by kernel_rfl
  have e:(Tryz.prog.elem 128)=197:=by kernel_rfl
  rw[run_slice_h (P:=Tryz.prog) W 128 none n 0 (by rw[e];exact Tryz.underlying128) .i64 ((0:Nat):Int) (by omega) (by omega),hs]
  simp[Result.andThen,sliced]
 ·exact flows_to c g n c (Nat.le_refl _) W
def Spoil (B:Nat) (W:World) (p:Option Addr) (c:Nat):Prop:=(p=none/\c=0)\/∃g,p=some ⟨g,0,none⟩/\B<=g/\g<W.heap.size/\∀i,i<c->W.cell? ⟨g,i*8,none⟩=some (.int .u32 77)/\W.cell? ⟨g,i*8+7,none⟩=some (.int .u64 7)
theorem Spoil.below {B c:Nat} {W W':World} {p:Option Addr} (h:Spoil B W p c) (hb:Below W.heap.size W W'):Spoil B W' p c:=by
 rcases h with q|⟨g,q1,q2,q3,q4⟩
 ·exact .inl q
 ·exact .inr ⟨g,q1,q2,Nat.lt_of_lt_of_le q3 hb.size,fun i hi=>⟨(hb.cell (p:=⟨g,i*8,none⟩) q3).trans (q4 i hi).1,(hb.cell (p:=⟨g,i*8+7,none⟩) q3).trans (q4 i hi).2⟩⟩
theorem owns_cap {w:World} {B n:Nat} {v:Value} {xs:List Value} (h:w.ownsRow B 197 8 v n xs):∃p c ys,v= .slice p n c/\((p=none/\c=0)\/∃g,p=some ⟨g,0,none⟩)/\c<=maxLen/\w.ownsRow B 197 8 (.slice p c c) c ys:=by
 rcases h.2 with⟨q,e⟩|⟨g,cap,cur,q,q2,q3,q4,q5,q6,q7⟩
 ·exact⟨none,0,[],by rw[q,e],.inl ⟨rfl,rfl⟩,Nat.zero_le _,World.ownsRow_nil _ _ _ _⟩
 ·exact⟨_,cap,cur.toList,q,.inr ⟨g,rfl⟩,q5,by simpa using q6,.inr ⟨g,cap,cur,rfl,q2,q3,Nat.le_refl _,q5,q6,List.take_of_length_le (by simp;omega)⟩⟩
theorem spoil_set (xs:List Value) (q:Nat) (hx:q*8+7<xs.length) (v1 v2 v3 v4 v5 v6:Value) (h:∀i,i<q->xs[i*8]? =some (.int .u32 77)/\xs[i*8+7]? =some (.int .u64 7)):
 ∀i,i<q+1->((((((((xs.set (q*8) (.int .u32 77)).set (q*8+1) v1).set (q*8+2) v2).set (q*8+3) v3).set (q*8+4) v4).set (q*8+5) v5).set (q*8+6) v6).set (q*8+7) (.int .u64 7))[i*8]? =some (.int .u32 77)/\((((((((xs.set (q*8) (.int .u32 77)).set (q*8+1) v1).set (q*8+2) v2).set (q*8+3) v3).set (q*8+4) v4).set (q*8+5) v5).set (q*8+6) v6).set (q*8+7) (.int .u64 7))[i*8+7]? =some (.int .u64 7):=by
 intro i hi
 by_cases e:i=q
 ·subst e
  constructor
  ·rw[List.getElem?_set_ne (by omega),List.getElem?_set_ne (by omega),List.getElem?_set_ne (by omega),List.getElem?_set_ne (by omega),List.getElem?_set_ne (by omega),List.getElem?_set_ne (by omega),List.getElem?_set_ne (by omega),List.getElem?_set_self (by omega)]
  ·rw[List.getElem?_set_self (by simp;omega)]
 ·obtain⟨a,b⟩:=h i (by omega)
  constructor
  ·rw[List.getElem?_set_ne (by omega),List.getElem?_set_ne (by omega),List.getElem?_set_ne (by omega),List.getElem?_set_ne (by omega),List.getElem?_set_ne (by omega),List.getElem?_set_ne (by omega),List.getElem?_set_ne (by omega),List.getElem?_set_ne (by omega),a]
  ·rw[List.getElem?_set_ne (by omega),List.getElem?_set_ne (by omega),List.getElem?_set_ne (by omega),List.getElem?_set_ne (by omega),List.getElem?_set_ne (by omega),List.getElem?_set_ne (by omega),List.getElem?_set_ne (by omega),List.getElem?_set_ne (by omega),b]
theorem listed_any {Q D N:Nat} {lg:Value} {S:Nat->Prop} (W:World) (h:Pair W S Q D lg N):
 Calls Tryz.prog 60 #[.agg #[.pointer (some ⟨Q,0,none⟩),.pointer (some ⟨D,0,none⟩),.pointer none]] W fun e w'=>e= .returned (.bool true)/\Below W.heap.size W w':=by
 obtain⟨K,O,cv,rv,fv,R,room,now,b,F,cA,cD,cR,cM,h,rfl⟩:=h
 have HG:Hid (GateAt W Q K O lg cv R room now b F cA cD cR cM):=h.gate
 have HD:Hid (DocAt W D rv fv R room now F cA cD cR cM):=h.doc
 have hF:F.length<=64:=by have:=h.gate.small;omega
 obtain⟨pp,cc,hfv⟩:=owns_form h.doc.flows
 have hD:=h.doc.blk.lt
 clear h
 go_enter Tryz.func60,Tryz.ntmps60
 go_wp2_with fail
 obtain⟨W0,hW0⟩:∃W0,W.alloc (.cells #[.pointer (some ⟨Q,0,none⟩),.pointer (some ⟨D,0,none⟩),.pointer none] 122)=W0:=⟨_,rfl⟩
 rw[hW0]
 have B0:Below W.heap.size W W0:=by rw[<-hW0];exact(Below.refl _ _).alloc (Nat.le_refl _) _
 have z0:W0.heap.size=W.heap.size+1:=by rw[<-hW0];simp
 have HC:Hid (∀i x,(#[.pointer (some ⟨Q,0,none⟩),.pointer (some ⟨D,0,none⟩),.pointer none]:Array Value)[i]? =some x->W0.cell? ⟨W.heap.size,i,none⟩=some x):=fun i x hx=>by
  rw[<-hW0,World.cell?_alloc_at _ _ _ _ rfl];exact hx
 have HB0:Hid (Below W.heap.size W W0):=B0
 clear hW0 B0
 go_loopw [3,4] (fun f k wr=>∃(j:Nat) (p:Option Addr) (c:Nat),j<=2/\c<=9223372036854775807/\k= .int .i64 j/\f= .slice p c c/\Spoil W0.heap.size wr p c/\Below W0.heap.size W0 wr) (fun _ k _=>2-(intOf k).toNat)
 case atStart=>exact⟨0,none,0,by omega,by omega,rfl,rfl,.inl ⟨rfl,rfl⟩,Below.refl _ _⟩
 case round=>
  obtain⟨j,p,c,hj,hc9,rfl,rfl,hsp,hbr⟩:=hrel
  have HS:Hid (Spoil W0.heap.size wr p c):=hsp
  have HBr:Hid (Below W0.heap.size W0 wr):=hbr
  have hzr:=hbr.size
  clear hsp hbr
  by_cases hlt:j<2
  ·have i2:(j:Int)<2:=by omega
   have i3:IntKind.i64.wrap ((j:Int)+1)=(j:Int)+1:=by rw[IntKind.wrap_i64];omega
   have HLI:Hid (Calls _ _ _ wr _):=glist_any wr (HG.out.below (HB0.out.trans (HBr.out.mono (by omega))))
   have g0:=(HBr.out.cell (p:=⟨W.heap.size,0,none⟩) (by show W.heap.size<_;omega)).trans (HC.out 0 _ rfl)
   have i1:(0:Int)<=(j:Int):=by omega
   go_wp2_with (go_at_call 90;refine HLI.out.mono ?_;rintro e w2 ⟨v,rfl,ho2,hb2⟩;obtain⟨pl,cl,ys,hv,hpl,hcm,hcap⟩:=owns_cap ho2;subst hv;have HO2:Hid (w2.ownsRow wr.heap.size 197 8 (.slice pl F.length cl) F.length (flatF F)/\w2.ownsRow wr.heap.size 197 8 (.slice pl cl cl) cl ys):=⟨ho2,hcap⟩;have HPL:Hid ((pl=none/\cl=0)\/∃g,pl=some ⟨g,0,none⟩):=hpl;have HB2:Hid (Below wr.heap.size wr w2):=hb2;have hz2:=hb2.size;clear ho2 hcap hpl hb2)
   unfold maxLen at hcm
   have HSw:Hid (∀w',Below w2.heap.size w2 w'->Spoil W0.heap.size w' p c):=fun w' hb=>(HS.out.below HB2.out).below hb
   have HDw:Hid (∀w',Below w2.heap.size w2 w'->DocAt w' D rv (.slice pp F.length cc) R room now F cA cD cR cM/\w'.cell? ⟨W.heap.size,1,none⟩=some (.pointer (some ⟨D,0,none⟩))):=fun w' hb=>by
    have bw:Below W0.heap.size W0 w':=(HBr.out.trans (HB2.out.mono hzr)).trans (hb.mono (by omega))
    refine⟨?_,(bw.cell (p:=⟨W.heap.size,1,none⟩) (by show W.heap.size<_;omega)).trans (HC.out 1 _ rfl)⟩
    rw[<-hfv]
    exact HD.out.below (HB0.out.trans (bw.mono (by omega)))
   clear g0 HLI
   go_loopw [6] (fun i wi=>∃q:Nat,q<=c/\i= .int .i64 q/\Below w2.heap.size w2 wi) (fun i _=>c-(intOf i).toNat)
   case atStart=>exact⟨0,Nat.zero_le _,rfl,Below.refl _ _⟩
   case round=>
    rename World=>wi
    obtain⟨q,hq,rfl,hbi⟩:=hrel
    have HBi:Hid (Below w2.heap.size w2 wi):=hbi
    have HSi:Hid (Spoil W0.heap.size wi p c):=HSw.out wi hbi
    clear hbi
    by_cases hqc:q<c
    ·rcases HSi.out with⟨_,e⟩|⟨g,e,hg1,hg2,hcs⟩
     ·omega
     ·subst e
      obtain⟨s0,s7⟩:=hcs q hqc
      have m1:(0:Int)<=(q:Int):=by omega
      have m2:(q:Int)<(c:Int):=by omega
      have m3:IntKind.i64.wrap ((q:Int)+1)=(q:Int)+1:=by rw[IntKind.wrap_i64];omega
      clear hcs
      go_wp2_with fail
      go_roundw
      case measure=>simp[intOf];omega
      case rel=>exact⟨q+1,by omega,by simp,HBi.out⟩
    ·obtain rfl:q=c:=by omega
     have m2:¬(q:Int)<(q:Int):=by omega
     obtain⟨hdi,g1⟩:=HDw.out wi HBi.out
     have d5:=hdi.blk.cell 5 _ rfl
     clear hdi
     go_wp2_with fail
     clear d5 g1
     go_loopw [7] (fun i wx=>∃r:Nat,r<=F.length/\i= .int .i64 r/\Below w2.heap.size w2 wx) (fun i _=>F.length-(intOf i).toNat)
     case atStart=>exact⟨0,Nat.zero_le _,rfl,HBi.out⟩
     case round=>
      rename World=>wx
      obtain⟨r,hr,rfl,hbx⟩:=hrel
      have HBx:Hid (Below w2.heap.size w2 wx):=hbx
      clear hbx
      by_cases hrl:r<F.length
      ·obtain⟨x,hx⟩:∃x,F[r]? =some x:=⟨_,List.getElem?_eq_getElem hrl⟩
       obtain⟨hdx,g1⟩:=HDw.out wx HBx.out
       have d5:=hdx.blk.cell 5 _ rfl
       obtain⟨gd,c',e,_,hcd⟩:=hdx.flow hx
       cases e
       obtain⟨gl,rfl,hlc⟩:∃gl,pl=some ⟨gl,0,none⟩/\∀k v,x.l[k]? =some v->wx.cell? ⟨gl,r*8+k,none⟩=some v:=by
        rcases HO2.out.1.2 with⟨_,e⟩|⟨gl,cap,cur,e,h1,h2,_⟩
        ·omega
        ·cases e
         exact⟨gl,rfl,fun k v hv=>(HBx.out.cell (p:=⟨gl,r*8+k,none⟩) (Array.getElem?_eq_some_iff.1 h2).1).trans (flow_at HO2.out.1 rfl r x hx k v hv)⟩
       have HLc:Hid (∀k v,x.l[k]? =some v->wx.cell? ⟨gl,r*8+k,none⟩=some v):=hlc
       have HDc:Hid (∀k v,x.l[k]? =some v->wx.cell? ⟨gd,r*8+k,none⟩=some v):=hcd
       obtain⟨x1,x2,x3,x4,x5,x6,x7,x8⟩:=x
       have l0:=HLc.out 0 _ rfl
       have e0:=HDc.out 0 _ rfl
       have l1:=HLc.out 1 _ rfl
       have e1:=HDc.out 1 _ rfl
       have l2:=HLc.out 2 _ rfl
       have e2:=HDc.out 2 _ rfl
       have l3:=HLc.out 3 _ rfl
       have e3:=HDc.out 3 _ rfl
       have l4:=HLc.out 4 _ rfl
       have e4:=HDc.out 4 _ rfl
       have l5:=HLc.out 5 _ rfl
       have e5:=HDc.out 5 _ rfl
       have l6:=HLc.out 6 _ rfl
       have e6:=HDc.out 6 _ rfl
       have l7:=HLc.out 7 _ rfl
       have e7:=HDc.out 7 _ rfl
       dsimp only at l0 l1 l2 l3 l4 l5 l6 l7 e0 e1 e2 e3 e4 e5 e6 e7
       rw[Nat.add_zero] at l0 e0
       have fne:=flow_ne x1 x2 x3 x4 x5 (x8:Int) x6 x7
       have m1:(0:Int)<=(r:Int):=by omega
       have m2:(r:Int)<(F.length:Int):=by omega
       have m3:IntKind.i64.wrap ((r:Int)+1)=(r:Int)+1:=by rw[IntKind.wrap_i64];omega
       clear hdx hcd hlc hx HLc HDc
       go_upto_region 16 with fail
       go_big_region
       go_wp2_with fail
       go_roundw
       case measure=>simp[intOf];omega
       case rel=>exact⟨r+1,by omega,by simp,HBx.out.drew⟩
      ·obtain rfl:r=F.length:=by omega
       have m2:¬(F.length:Int)<(F.length:Int):=by omega
       have hsl:=flows_cap pl F.length cl HPL.out
       go_wp2_with fail
       clear hsl
       go_loopw [9] (fun i wy=>∃(q':Nat) (xs:List Value),q'<=cl/\i= .int .i64 q'/\wy.ownsRow wr.heap.size 197 8 (.slice pl cl cl) cl xs/\(∀k,k<q'->xs[k*8]? =some (.int .u32 77)/\xs[k*8+7]? =some (.int .u64 7))/\Below wr.heap.size wr wy) (fun i _=>cl-(intOf i).toNat)
       case atStart=>exact⟨0,ys,Nat.zero_le _,rfl,owns_below HO2.out.2 HBx.out,fun k hk=>absurd hk (by omega),HB2.out.trans (HBx.out.mono hz2)⟩
       case round=>
        rename World=>wy
        obtain⟨q',xs,hq',rfl,hown,hxs,hby⟩:=hrel
        by_cases hqc:q'<cl
        ·obtain⟨gl,rfl⟩:∃gl,pl=some ⟨gl,0,none⟩:=by
          rcases HPL.out with⟨_,e⟩|e
          ·omega
          ·exact e
         have hlen:xs.length=cl*8:=hown.1
         have hgl:wr.heap.size<=gl:=(hown.lt gl rfl).1
         have fz:∀k,wy.frozen? ⟨gl,k,none⟩=false:=fun k=>hown.frozenAt k
         have ex:∀k,k<cl*8->∃v,wy.cell? ⟨gl,k,none⟩=some v:=fun k hk=>⟨xs[k]'(by omega),by rw[hown.cellAt k hk];exact List.getElem?_eq_getElem _⟩
         obtain⟨v0,k0⟩:=ex (q'*8) (by omega)
         obtain⟨v1,k1⟩:=ex (q'*8+1) (by omega)
         obtain⟨v2,k2⟩:=ex (q'*8+2) (by omega)
         obtain⟨v3,k3⟩:=ex (q'*8+3) (by omega)
         obtain⟨v4,k4⟩:=ex (q'*8+4) (by omega)
         obtain⟨v5,k5⟩:=ex (q'*8+5) (by omega)
         obtain⟨v6,k6⟩:=ex (q'*8+6) (by omega)
         obtain⟨v7,k7⟩:=ex (q'*8+7) (by omega)
         have HST:Hid (_/\_):=⟨((((((((hown.stored (q'*8) (.int .u32 77)).1.stored (q'*8+1) (.int .u32 0)).1.stored (q'*8+2) (.int .u8 0)).1.stored (q'*8+3) (.int .u16 0)).1.stored (q'*8+4) (.int .u16 0)).1.stored (q'*8+5) (.bool false)).1.stored (q'*8+6) (.bool false)).1.stored (q'*8+7) (.int .u64 7)).1,((((((((hby.setCell (p:=⟨gl,q'*8,none⟩) hgl (.int .u32 77)).setCell (p:=⟨gl,q'*8+1,none⟩) hgl (.int .u32 0)).setCell (p:=⟨gl,q'*8+2,none⟩) hgl (.int .u8 0)).setCell (p:=⟨gl,q'*8+3,none⟩) hgl (.int .u16 0)).setCell (p:=⟨gl,q'*8+4,none⟩) hgl (.int .u16 0)).setCell (p:=⟨gl,q'*8+5,none⟩) hgl (.bool false)).setCell (p:=⟨gl,q'*8+6,none⟩) hgl (.bool false)).setCell (p:=⟨gl,q'*8+7,none⟩) hgl (.int .u64 7))⟩
         have HSP:Hid (∀i,i<q'+1->_):=spoil_set xs q' (by omega) (.int .u32 0) (.int .u8 0) (.int .u16 0) (.int .u16 0) (.bool false) (.bool false) hxs
         have m1:(0:Int)<=(q':Int):=by omega
         have m2:(q':Int)<(cl:Int):=by omega
         have m3:IntKind.i64.wrap ((q':Int)+1)=(q':Int)+1:=by rw[IntKind.wrap_i64];omega
         clear hown hxs hby ex hlen
         go_wp2_with fail
         go_roundw
         case measure=>simp[intOf];omega
         case rel=>exact⟨q'+1,_,by omega,by simp,HST.out.1,HSP.out,HST.out.2⟩
        ·obtain rfl:q'=cl:=by omega
         have m2:¬(q':Int)<(q':Int):=by omega
         have HW9:Hid (Spoil W0.heap.size wy pl q'/\Below W0.heap.size W0 wy):=by
          refine⟨?_,HBr.out.trans (hby.mono hzr)⟩
          rcases HPL.out with⟨e1,e2⟩|⟨gl,rfl⟩
          ·exact .inl ⟨e1,e2⟩
          ·have hgl:=hown.lt gl rfl
           exact .inr ⟨gl,rfl,by omega,hgl.2,fun k hk=>⟨(hown.cellAt (k*8) (by omega)).trans (hxs k hk).1,(hown.cellAt (k*8+7) (by omega)).trans (hxs k hk).2⟩⟩
         clear hown hxs hby
         go_wp2_with fail
         go_roundw
         case measure=>simp[intOf];omega
         case rel=>exact⟨j+1,pl,q',by omega,by omega,by simp,rfl,HW9.out.1,HW9.out.2⟩
  ·obtain rfl:j=2:=by omega
   go_wp2_with fail
   go_ret
   exact⟨rfl,HB0.out.trans (HBr.out.mono (by omega))⟩
section
variable {W V0 : World} {B V N i : Nat} {gv : Value} {L : List (Nat × Nat)} {q : Nat × Nat}
theorem framed_any (h:Gates W B V gv L N) (hi:L[i]? =some q) (hb:Below W.heap.size W V0) (hL:Laid W) (hN:N<18446744073709551614) (s:ByteArray) (hs:s.size<=262144) (j:Int):
 Calls Tryz.prog 56 #[.agg #[.pointer (some ⟨q.1,0,none⟩),.pointer (some ⟨q.2,0,none⟩),.pointer none],.int .i64 j,.string s] V0 fun e w'=>e= .returned (.bool true)/\Gates w' B V gv L (N+1)/\Below B W w':=by
 have HR:Hid (∀U:World,Calls Tryz.prog 83 #[.string s] U fun e w'=>e= .returned (.slice (some ⟨U.heap.size,0,none⟩) s.size (s.size+2))/\w'=U.alloc (.cells (roomC s 77 88) 5)):=fun U=>roomy_any s U hs
 have HS:Hid (∀(U:World) (g:Nat),Roomy U g s->Calls Tryz.prog 86 #[.slice (some ⟨g,0,none⟩) s.size (s.size+2),.string s] U fun e w'=>e= .returned (.bool true)/\w'=U):=fun U g hr=>still_any s g U hs hr
 obtain⟨k,hk⟩:∃k:Int,IntKind.u8.wrap j=k:=⟨_,rfl⟩
 have hk2:0<=k/\k<=255:=by rw[<-hk,IntKind.wrap_u8];omega
 have HF:Hid (∀(U:World) (fb:Nat),Below W.heap.size W U->Roomy U fb s->fb<U.heap.size->∃ev:Ev,_):=fun U fb hU hr hfb=>gates_frame h hi hU hL hN s fb (s.size+2) k (fun x hx=>hr.row x hx) hfb (by omega) (by omega) (by unfold maxLen;omega) hk2
 have HB0:Hid (Below W.heap.size W V0):=hb
 have hz0:=hb.size
 obtain⟨Q,D⟩:=q
 dsimp only at HF ⊢
 obtain⟨X2,hX2⟩:∃X2,(V0.alloc (.cells #[.pointer (some ⟨Q,0,none⟩),.pointer (some ⟨D,0,none⟩),.pointer none] 122)).alloc (.cells (roomC s 77 88) 5)=X2:=⟨_,rfl⟩
 have z2:X2.heap.size=V0.heap.size+2:=by rw[<-hX2];simp
 have BX:Below W.heap.size W X2:=by rw[<-hX2];exact(HB0.out.alloc hz0 _).alloc (by simp;omega) _
 have RX:Roomy X2 (V0.heap.size+1) s:=by
  have q:=Roomy.made (V0.alloc (.cells #[.pointer (some ⟨Q,0,none⟩),.pointer (some ⟨D,0,none⟩),.pointer none] 122)) s
  rw[hX2,show(V0.alloc (.cells #[.pointer (some ⟨Q,0,none⟩),.pointer (some ⟨D,0,none⟩),.pointer none] 122)).heap.size=V0.heap.size+1 by simp] at q
  exact q
 have GX:Blk 122 X2 V0.heap.size [.pointer (some ⟨Q,0,none⟩),.pointer (some ⟨D,0,none⟩),.pointer none]:=by rw[<-hX2];exact(Blk.made V0 _ [.pointer (some ⟨Q,0,none⟩),.pointer (some ⟨D,0,none⟩),.pointer none] (list_one rfl)).alloc _
 obtain⟨ev,hcf⟩:=HF.out X2 (V0.heap.size+1) BX RX (by omega)
 have HCF:Hid (Calls _ _ _ X2 _):=hcf
 have HX2:Hid ((V0.alloc (.cells #[.pointer (some ⟨Q,0,none⟩),.pointer (some ⟨D,0,none⟩),.pointer none] 122)).alloc (.cells (roomC s 77 88) 5)=X2):=hX2
 have HRX:Hid (Roomy X2 (V0.heap.size+1) s):=RX
 have HGX:Hid (Blk 122 X2 V0.heap.size [.pointer (some ⟨Q,0,none⟩),.pointer (some ⟨D,0,none⟩),.pointer none]):=GX
 obtain⟨e1,e2,e3,e4,e5⟩:=ev
 dsimp only[Ev.l] at HCF
 have ve:(e3 !=e3)=false:=by simp
 clear h hi hb hL hN hs hk2 HF hcf hX2 BX RX GX
 go_enter Tryz.func56,Tryz.ntmps56
 go_wp2_with (first|(go_at_call 83;refine(HR.out _).mono ?_;rintro e w1 ⟨rfl,h1⟩;subst h1)|(go_at_call 84;rw[HX2.out];refine HCF.out.mono ?_;rintro e w2 ⟨rfl,hl2,hn2⟩;have HL2:Hid (Loc W.heap.size X2 w2/\_):=⟨hl2,hn2⟩;have u1:=hl2.cell (p:=⟨V0.heap.size,1,none⟩) hz0 (HGX.out.cell 1 _ rfl);clear hl2 hn2)|(go_at_call 85;refine(HL2.out.2 _ (Below.refl _ _)).mono ?_;rintro e w3 ⟨rfl,hl3,hg3⟩;have HG3:Hid (Roomy w3 (V0.heap.size+1) s/\_):=⟨fun x v hv=>hl3.cell (p:=⟨V0.heap.size+1,x,none⟩) (Nat.le_trans hz0 (Nat.le_succ _)) (HRX.out x v hv),hg3⟩;have u2:=hl3.cell (p:=⟨V0.heap.size,2,none⟩) hz0 (HGX.out.cell 2 _ rfl);have hz3:=hl3.size;have hV3:V0.heap.size≠w3.heap.size:=(by omega);have hV4:V0.heap.size<w3.heap.size:=(by omega);clear hl3 hg3)|(go_at_call 86;refine(HS.out _ _ ?_).mono ?_;(first|exact HG3.out.1|exact HG3.out.1.alloc (by omega) _);rintro e w4 ⟨rfl,h4⟩;subst h4))
 go_ret
 have hg:=HG3.out.2.1
 have hb:=HG3.out.2.2
 exact⟨rfl,hg.below ((Below.refl _ _).alloc (Nat.le_refl _) _),hb.alloc (Nat.le_trans hg.base (Nat.le_of_lt hg.blk.lt)) _⟩
end
end Go.Proofs.YtclpnafiiobfhaaGreatDoor

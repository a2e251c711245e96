import Derived.Test.YtclpnafiiobfhaaGreatDoorQ42
import Derived.Laws.EntriesVeiled
import Derived.Test.YtclpnafiiobfhaaGreatDoorQ51
set_option linter.unusedVariables false
set_option linter.unusedSimpArgs false
set_option maxRecDepth 100000
set_option maxHeartbeats 6400000
namespace Go.Proofs.YtclpnafiiobfhaaGreatDoor
open Go.RowKit
theorem zLG {Q K:Nat} {O:Nat->Prop} {lg cv:Value} {R:Option Bk} {room now births:Nat} {F:List Fl} {cA cD cR cM:Nat} (W:World) (hL:zBU W) (h:zAa W Q K O lg cv R room now births F cA cD cR cM) (hbi:births+1<18446744073709551616) (d:ByteArray) (fb fc:Nat) (i:Int) (hd:Row W fb 0 d) (hfb:fb<W.heap.size) (hdz:d.size<=300000) (hfc:d.size<=fc) (hfm:fc<=maxLen) (hi:0<=i/\i<=255) (hc:cls d≠0):
 Calls Tryz.prog 109 #[.pointer (some ⟨Q,0,none⟩),.int .u8 i,.slice (some ⟨fb,0,none⟩) d.size fc] W fun e w'=>e= .returned (.agg (evG R room now F d i).1.l.toArray)/\(∃O' b',Kps w' O' K room now b' (evG R room now F d i).2/\Trn O W w'/\(∀y,O' y->O y\/W.heap.size<=y)/\b'<=births+1):=by
 have e0:evG R room now F d i=(⟨cls d,0,0,false,false⟩,F):=by unfold evG;rw[if_neg hc]
 rw[e0];dsimp only[Ev.l];have HK:=hid h.keeps;have HPA:Hid (Calls Tryz.prog 127 #[.slice (some ⟨fb,0,none⟩) d.size fc] (W.alloc (.cells #[.int .u8 0,.int .u8 0,.int .u8 0,.bool false,.bool false] 188)) fun e w'=>e= .returned (.tuple #[.agg #[.int .u32 0,.int .u32 0,.int .u8 0,.int .u16 0,.int .u16 0,.int .u8 0],.int .u8 (cls d)])/\Below (W.heap.size+1) (W.alloc (.cells #[.int .u8 0,.int .u8 0,.int .u8 0,.bool false,.bool false] 188)) w'):=by
  have z:=zFT d fb 0 fc (W.alloc (.cells #[.int .u8 0,.int .u8 0,.int .u8 0,.bool false,.bool false] 188)) (by unfold maxLen;omega) (hd.alloc hfb _) (by simp;omega);rw[show zA4 d= .tuple #[.agg zN8,.int .u8 (cls d)] from by simp[zA4,hc]] at z;rw[show(W.alloc (.cells #[.int .u8 0,.int .u8 0,.int .u8 0,.bool false,.bool false] 188)).heap.size=W.heap.size+1 from by simp] at z;exact z
 obtain⟨c,hcc⟩:∃c,cls d=c:=⟨_,rfl⟩;rw[hcc] at HPA;rw[hcc];have t1:(c !=0)=true:=by rw[<-hcc];simpa using hc
 clear e0 hc hcc hd hdz hfc hfm hfb h hL hbi;go_enter Tryz.func109,Tryz.ntmps109;go_wp2_with (go_at_call 127;refine HPA.out.mono ?_;rintro e w2 ⟨rfl,hb2⟩;have r0:=hb2.cell (p:=⟨W.heap.size,0,none⟩) (Nat.lt_succ_self _);have r1:=hb2.cell (p:=⟨W.heap.size,1,none⟩) (Nat.lt_succ_self _);have r2:=hb2.cell (p:=⟨W.heap.size,2,none⟩) (Nat.lt_succ_self _);have r3:=hb2.cell (p:=⟨W.heap.size,3,none⟩) (Nat.lt_succ_self _);have r4:=hb2.cell (p:=⟨W.heap.size,4,none⟩) (Nat.lt_succ_self _);have g0:=hb2.frozen (p:=⟨W.heap.size,0,none⟩) (Nat.lt_succ_self _);have g1:=hb2.frozen (p:=⟨W.heap.size,1,none⟩) (Nat.lt_succ_self _);have g2:=hb2.frozen (p:=⟨W.heap.size,2,none⟩) (Nat.lt_succ_self _);have g3:=hb2.frozen (p:=⟨W.heap.size,3,none⟩) (Nat.lt_succ_self _);have g4:=hb2.frozen (p:=⟨W.heap.size,4,none⟩) (Nat.lt_succ_self _);have hlt:W.heap.size<w2.heap.size:=(by have:=hb2.size;simp at this;omega);have hne:=Nat.ne_of_lt hlt;have HG:=hid ((hb2.block W.heap.size (Nat.lt_succ_self _)).trans (heap_alloc_new W _));have HB2:=hid (((Below.refl _ W).alloc (Nat.le_refl _) _).trans (hb2.mono (Nat.le_succ _)));clear hb2);have hb:=(zD2 (.int .u8 c) (.int .u8 0) (.int .u8 0) (.bool false) (.bool false) HG.out (zAF rfl)).alloc (.cells #[.int .u32 0,.int .u32 0,.int .u8 0,.int .u16 0,.int .u16 0,.int .u8 0] 38);have t5:=(zD3 (fun x=>x=W.heap.size) w2 W.heap.size (.int .u8 c) (.int .u8 0) (.int .u8 0) (.bool false) (.bool false) rfl).trans (Trn.alloc (fun x=>x=W.heap.size) _ (.cells #[.int .u32 0,.int .u32 0,.int .u8 0,.int .u16 0,.int .u16 0,.int .u8 0] 38)) (fun _ _ q=>q);exact bodyPost_ret (v:= .agg [.int .u8 c,.int .u8 0,.int .u8 0,.bool false,.bool false].toArray) (zCt _ _ _ _ rfl hb rfl) rfl ⟨rfl,O,births,(HK.out.below HB2.out).trn t5 (fun x q e=>by have:=HK.out.lt x q;omega),(Trn.below HB2.out).trans t5 (fun m hm q=>by omega),fun y q=> .inl q,by omega⟩
theorem zKS (c:Int) (hc:c<1\/64<c) (lg:Value) (W:World):
 Calls Tryz.prog 106 #[.int .i64 c,lg] W fun e w'=>e= .returned (.tuple #[.pointer none,.iface 22 (.int .i64 1)])/\w'=W:=by
 by_cases h1:c<1
 ·clear hc
  have d1:decide (c<1)=true:=by simpa using h1
  go_enter Tryz.func106,Tryz.ntmps106;go_wp2_with fail;go_ret2;exact⟨rfl,rfl⟩
 ·have h2:64<c:=by omega
  have d1:decide (c<1)=false:=by simpa using h1
  have d2:decide (64<c)=true:=by simpa using h2
  clear hc;go_enter Tryz.func106,Tryz.ntmps106;go_wp2_with fail;go_ret2;exact⟨rfl,rfl⟩
theorem zNo (c:Int) (hc:c<1\/64<c) (W:World) (hL:zBU W):
 Calls Tryz.prog 80 #[.int .i64 c] W fun e w'=>e= .returned (.tuple #[.pointer none,.int .i64 1])/\Below W.heap.size W w':=by
 have HM:Hid (∀V,Calls _ _ _ V _):=fun V=>zKS c hc .nilFunc V
 have HL:Hid (zBU W):=hL;clear hc hL;go_enter Tryz.func80,Tryz.ntmps80;go_wp2_with (first|(go_at_call 106;refine(HM.out _).mono ?_;rintro e w2 ⟨rfl,rfl⟩)|(go_at_call 19;refine(zHi 1 _ HL.out).mono ?_;rintro e w3 ⟨rfl,hb3⟩;have HB3:=hid hb3;clear hb3));go_ret2;exact⟨rfl,HB3.out⟩
theorem zEL:∀(l:List ByteArray) (n:Nat) (b:Bk),(zAO l n b).1=0->(zAO l n b).2.1=0
 |[],n,b,h=>by
  unfold zAO at h ⊢
  split
  ·rfl
  ·rfl
 |x::l,n,b,h=>by
  unfold zAO at h ⊢
  split
  ·rename_i q;rw[if_pos q] at h;exact zEL l _ _ h
  ·rename_i q
   rw[if_neg q] at h
   split
   ·rename_i q2;rw[if_pos q2] at h;exact absurd h q2
   ·rename_i q2;rw[if_neg q2] at h;exact zEL l _ _ h
theorem zNp (s:ByteArray) (h:(zAJ s).1=0):(zAJ s).2.1=0:=by
 unfold zAJ at h ⊢
 split
 ·rfl
 ·rename_i q;rw[if_neg q] at h;exact zEL _ _ _ h
theorem zCv.keep {W W':World} {A S:Nat->Prop} {cv:Value} {R:Option Bk} (h:zCv W A cv R) (ht:Trn S W W') (hs:∀x,cv.ownBlock=some x->¬S x):zCv W' A cv R:=by
 rcases h with q|⟨b,g,c,q1,q2,q3,q4,q5,q6,q7⟩
 ·exact .inl q
 ·subst q3
  exact .inr ⟨b,g,c,q1,q2,rfl,fun i hi=>(World.cell?_of_block (a:=⟨g,0+i,none⟩) (ht.block g q5 (hs g rfl))).trans (q4 i hi),Nat.lt_of_lt_of_le q5 ht.size,q6,q7⟩
section
variable {Q K D : Nat} {O : Nat → Prop} {lg cv rv fv : Value} {R : Option Bk} {room now b : Nat} {F : List Fl} {cA cD cR cM N : Nat}
theorem zAa.trn {W W':World} {S:Nat->Prop} (h:zAa W Q K O lg cv R room now b F cA cD cR cM) (ht:Trn S W W') (hs:∀x,(x=Q\/O x\/cv.ownBlock=some x)->¬S x):zAa W' Q K O lg cv R room now b F cA cD cR cM:=
 ⟨h.blk.trn ht (hs Q (.inl rfl)),h.code.keep ht (fun x q=>hs x (.inr (.inr q))),h.keeps.trn ht (fun x q=>hs x (.inr (.inl q))),h.own,h.cap⟩
theorem zAa.small {W:World} (h:zAa W Q K O lg cv R room now b F cA cD cR cM):F.length<=room/\room<=64/\now<=zCr:=by
 obtain⟨T,mb,v,n,f,G,h,_⟩:=h.keeps;rw[h.rel.flen];exact⟨h.tab.le,h.tab.big,h.now⟩
theorem zAa.lts {W:World} (h:zAa W Q K O lg cv R room now b F cA cD cR cM) (x:Nat) (q:x=Q\/O x\/cv.ownBlock=some x):x<W.heap.size:=by
 rcases q with rfl|q|q
 ·exact h.blk.lt
 ·exact h.keeps.lt x q
 ·rcases h.code with⟨_,rfl⟩|⟨b,g,c,_,_,rfl,_,q5,_⟩
  ·cases q
  ·obtain rfl:g=x:=by simpa[Value.ownBlock] using q
   exact q5
end
theorem zPO (room:Nat) (h1:1<=room) (h2:room<=64) (fn:Fn) (a c:Array Value) (W:World):
 Calls Tryz.prog 106 #[.int .i64 (room:Int),.func fn a c] W fun e w'=>∃Q K O,e= .returned (.tuple #[.pointer (some ⟨Q,0,none⟩),.nilIface])/\zAa w' Q K O (.func fn a c) (.slice none 0 0) none room 0 0 [] 0 0 0 0/\Below W.heap.size W w'/\∀x,(x=Q\/O x)->W.heap.size<=x:=by
 have HM:=hid (zEg room h2 W);have t1:¬((room:Int)<1):=by omega
 have t2:¬((64:Int)<(room:Int)):=by omega
 have HR:Hid (1<=room):=h1;clear h1 h2;go_enter Tryz.func106,Tryz.ntmps106;go_wp2_with (go_at_call 125;refine HM.out.mono ?_;rintro e w2 ⟨K,O,rfl,hk,hb,ho⟩;have HK:=hid (And.intro hk (And.intro hb ho));clear hk hb ho);go_ret2;obtain⟨hk,hb,ho⟩:=HK.out;have hz:=hb.size;refine⟨w2.heap.size,K,O,rfl,⟨Blk.made w2 _ (zG4 (.func fn a c) (.slice none 0 0) K 0 0 0 0) (zAF rfl),.inl ⟨rfl,rfl⟩,hk.below (bal _ _),fun q=>absurd (hk.lt _ q) (by omega),HR.out⟩,hb.alloc hz _,fun x q=> ?_⟩;rcases q with rfl|q
 ·exact hz
 ·exact ho x q
theorem zNq (v:Value) (older:List PanicEntry) (w:World):
 CallsD Tryz.prog 131 #[] (.panicking ({v:=v,recovered:=false}::older)) w fun e u' w'=>u'= .panicking ({v:=v,recovered:=true}::older)/\e= .returned (.tuple #[])/\w'=w:=by
 refine callsD_of_wpS Tryz.func131 rfl fun c₀ cs hu=> ?_
 apply wpS_region
 simp[wpOpsS,go_sem,recoverD,hu,Tryz.ntmps131,Exit.thenS,bodyPostS,results,Tryz.results131]
theorem zNr (w:World):
 CallsD Tryz.prog 131 #[] .returning w fun e u' w'=>u'= .returning/\e= .returned (.tuple #[])/\w'=w:=by
 refine callsD_of_wpS Tryz.func131 rfl fun c₀ cs hu=> ?_
 apply wpS_region
 simp[wpOpsS,go_sem,recoverD,hu,Tryz.ntmps131,Exit.thenS,bodyPostS,results,Tryz.results131];cases c₀;cases hu;rfl
theorem zHA (fn:Fn) (a c:Array Value) (w:World):(binOp .eql 192 (.func fn a c) .nilFunc).run Tryz.prog w= .ok (.bool false) w:=by kernel_rfl
theorem zLH {Q K:Nat} {lg cv:Value} {cA cD cR cM:Nat} (w:World) (h:Blk 194 w Q (zG4 lg cv K cA cD cR cM)):
 Calls Tryz.prog 62 #[.pointer (some ⟨Q,0,none⟩)] w fun e w'=>e= .returned (.agg #[.int .u64 (cA:Int),.int .u64 (cD:Int),.int .u64 (cR:Int),.int .u64 (cM:Int)])/\w'=w.alloc (.cells #[.int .u64 (cA:Int),.int .u64 (cD:Int),.int .u64 (cR:Int),.int .u64 (cM:Int)] 130):=by
 have c1:=h.cell 2 _ rfl;have c2:=h.cell 3 _ rfl;have c3:=h.cell 4 _ rfl;have c4:=h.cell 5 _ rfl;have hQ:=h.lt;clear h;go_enter Tryz.func62,Tryz.ntmps62;go_wp2_with fail;refine bodyPost_ret (v:= .agg #[.int .u64 (cA:Int),.int .u64 (cD:Int),.int .u64 (cR:Int),.int .u64 (cM:Int)]) (by simp[results,Tryz.results62,go_sem]) rfl ⟨rfl,?_⟩;rfl
end Go.Proofs.YtclpnafiiobfhaaGreatDoor
namespace Go.Proofs.YtclpnafiiobfhaaGreatDoor
open Go.RowKit Go.Shelf
attribute [local go_sem] Oper.semAt_some
theorem zJY {K room now births B d1 d2 d3:Nat} {O:Nat->Prop} {F:List Fl} (w:World) (h:Kps w O K room now births F) (hB:w.cell? ⟨B,0,none⟩=some (.pointer (some ⟨K,0,none⟩))) (hBl:B<w.heap.size) (J Jx:Nat->List Fl->World->Prop)
 (hs:∀b W2,w.heap.size<=b->b<=W2.heap.size->Below w.heap.size w W2->J b [] W2)
 (hJ:∀b pre A B,J b pre A->Trn (Btw w.heap.size b) A B->J b pre B)
 (hJx:∀b pre A B,Jx b pre A->Trn (Btw w.heap.size b) A B->Jx b pre B)
 (hY:∀b pre x A,w.heap.size<=b->b<=A.heap.size->J b pre A->pre++[x]<+:F->Calls Tryz.prog 117 #[.agg x.cells,.pointer (some ⟨d1,0,none⟩),.pointer (some ⟨d2,0,none⟩),.pointer (some ⟨d3,0,none⟩)] A fun e A'=>
   (e= .returned (.bool true)/\J b (pre++[x]) A'/\Kpt w.heap.size b A A')\/(e= .returned (.bool false)/\Jx b (pre++[x]) A'/\Kpt w.heap.size b A A')):
 Calls Tryz.prog 144 #[.func (.func 117) #[] #[.pointer (some ⟨d1,0,none⟩),.pointer (some ⟨d2,0,none⟩),.pointer (some ⟨d3,0,none⟩)],.pointer (some ⟨B,0,none⟩)] w fun e W'=>(∃v,e= .returned v)/\∃b,w.heap.size<=b/\b<=W'.heap.size/\(J b F W'\/∃pre,pre<+:F/\Jx b pre W'):=by
 obtain⟨T,mb,v,m,f,G,hk,_⟩:=h;have hK1:=hk.blk.cell 1 _ rfl;have hKl:=hk.blk.lt;have HK:=hid hk;clear hk;refine(callsIn_wide (n:=3)).1 ?_;refine callsIn_of_wp_marks Tryz.func144 rfl trivial ?_ rfl;simp only[Tryz.ntmps144,List.size_toArray,List.length_cons,List.length_nil,Nat.reduceAdd,Nat.reduceSub,Array.replicate_succ,Array.replicate_zero,List.push_toArray,List.append_toArray,List.nil_append,List.cons_append];gi_wp2_with (refine⟨trivial,?_⟩;gi_at_call 145;refine(callsIn_wide.2 (zGL _ _)).mono ?_;rintro e w2 ⟨rfl,rfl⟩);obtain⟨w2,hw2⟩:∃w2,(w.alloc (Obj.cells #[Value.func (.func 117) #[] #[.pointer (some ⟨d1,0,none⟩),.pointer (some ⟨d2,0,none⟩),.pointer (some ⟨d3,0,none⟩)]] 242)).alloc (Obj.cells #[Value.pointer (some {block:=T,off:=0})] 234)=w2:=⟨_,rfl⟩;rw[hw2];have hz:w2.heap.size=w.heap.size+2:=by rw[<-hw2];simp
 have b2:Below w.heap.size w w2:=by rw[<-hw2];exact((Below.refl _ w).alloc (Nat.le_refl _) _).alloc (by simp) _
 have y2:w2.heap[w.heap.size]? =some (.cells #[.func (.func 117) #[] #[.pointer (some ⟨d1,0,none⟩),.pointer (some ⟨d2,0,none⟩),.pointer (some ⟨d3,0,none⟩)]] 242):=by
  rw[<-hw2,Below.heap_alloc _ _ _ (by simp)];exact World.alloc_heap_new w _
 have t2:w2.heap[w.heap.size+1]? =some (.cells #[.pointer (some ⟨T,0,none⟩)] 234):=by
  rw[<-hw2];have:=World.alloc_heap_new (w.alloc (Obj.cells #[Value.func (.func 117) #[] #[.pointer (some ⟨d1,0,none⟩),.pointer (some ⟨d2,0,none⟩),.pointer (some ⟨d3,0,none⟩)]] 242)) (Obj.cells #[Value.pointer (some {block:=T,off:=0})] 234);rwa [World.size_alloc] at this
 have wid:∀{b:Nat} {A B:World},Trn (Btw w2.heap.size b) A B->Trn (Btw w.heap.size b) A B:=fun ht=>ht.mono fun m _ q=>⟨by have:=q.1;omega,q.2⟩
 refine zEu (P:=Tryz.prog) (gf:=167) (lb:= #[.pointer (some ⟨w.heap.size+1,0,none⟩)]) (encs:=fun x:Fl=> #[.agg x.cells]) (xs:=F) rfl (enters_of Tryz.func167 (by kernel_rfl) rfl)
  (fun W1 h1=>zGK W1 (HK.out.tab.below (b2.trans (h1.mono (by omega)))) HK.out.rel (zAd ((h1.block _ (by omega)).trans t2) _ rfl)) (fun _=>rfl)
  (fun b pre W=>J b pre W/\W.heap[w.heap.size]? =some (.cells #[.func (.func 117) #[] #[.pointer (some ⟨d1,0,none⟩),.pointer (some ⟨d2,0,none⟩),.pointer (some ⟨d3,0,none⟩)]] 242))
  (fun b c pre W=>c= .ret/\Jx b pre W)
  (fun b W2 h1 h2 h3=>⟨hs b W2 (by omega) h2 (b2.trans (h3.mono (by omega))),(h3.block _ (by omega)).trans y2⟩)
  (fun b pre A B h t=>⟨hJ b pre A B h.1 (wid t),t.keep (fun q=>by have:=q.1;omega) h.2⟩)
  (fun b c pre A B h t=>⟨h.1,hJx b pre A B h.2 (wid t)⟩)
  (fun b x a' W=>∃Bx,b<=Bx/\W.heap[Bx]? =some (.cells x.cells 241)/\a'={tmps:= #[.func (.func 117) #[] #[.pointer (some ⟨d1,0,none⟩),.pointer (some ⟨d2,0,none⟩),.pointer (some ⟨d3,0,none⟩)],.pointer (some ⟨B,0,none⟩),.pointer (some ⟨w.heap.size,0,none⟩),.pointer (some ⟨Bx,0,none⟩),.pointer (some ⟨K,0,none⟩),.pointer (some ⟨K,0,none⟩),.pointer (some ⟨K,1,none⟩),.pointer (some ⟨T,0,none⟩),.func (.func 167) #[] #[.pointer (some ⟨w.heap.size+1,0,none⟩)],.agg x.cells,undef,undef,undef,undef],defers:=[]})
  (fun b x a' A B h t=>by obtain⟨Bx,h1,h2,h3⟩:=h;exact⟨Bx,h1,t.keep (fun q=>by have:=q.2;omega) h2,h3⟩)
  ?assign ?body ?done ?stop
 case assign=>
  rintro l' b pre ⟨x1,x2,x3,x4,x5,x6,x7,x8⟩ W K' hb hbW _ hK;dsimp only[Fl.cells] at hK ⊢;have HKK:=hid hK;clear hK;gi_wp2;exact HKK.out _ _ ((Below.refl _ W).alloc (Nat.le_refl _) _) ⟨W.heap.size,hbW,World.alloc_heap_new W _,rfl⟩
 case body=>
  rintro l' b pre x a' W hb hbW ⟨hi,hy0⟩ ⟨Bx,hBx,hx,rfl⟩ hpre;obtain⟨x1,x2,x3,x4,x5,x6,x7,x8⟩:=x;have HR:=hid (hY b pre ⟨x1,x2,x3,x4,x5,x6,x7,x8⟩ W (by omega) hbW hi hpre);dsimp only[Fl.cells] at HR hx ⊢;have c:=zAd hy0 _ rfl (i:=0);have c0:=zAd hx _ rfl (i:=0);have c1:=zAd hx _ rfl (i:=1);have c2:=zAd hx _ rfl (i:=2);have c3:=zAd hx _ rfl (i:=3);have c4:=zAd hx _ rfl (i:=4);have c5:=zAd hx _ rfl (i:=5);have c6:=zAd hx _ rfl (i:=6);have c7:=zAd hx _ rfl (i:=7);have HY0:=hid hy0;clear hx hi hpre hy0 hY hw2 y2 t2;gi_wp2;refine⟨trivial,rfl,(CallsIn.inRound _ (callsIn_wide.2 HR.out)).mono ?_⟩;rintro e W3 (⟨rfl,hJ3,hk3⟩|⟨rfl,hJx3,hk3⟩)
  ·have H3:=hid (And.intro hJ3 hk3)
   clear hJ3 hk3;gi_wp2;exact⟨H3.out.2.mono (by omega) (Nat.le_refl _),H3.out.1,(H3.out.2.block _ (Nat.le_refl _) (by omega)).trans HY0.out⟩
  ·have H3:=hid (And.intro hJx3 hk3)
   clear hJx3 hk3;gi_wp2;exact⟨H3.out.2.mono (by omega) (Nat.le_refl _),rfl,H3.out.1⟩
 case done=>
  rintro D b W hD1 hD2 hbW ⟨hi,_⟩ hK;gi_wp2;refine⟨by simp,.inl ⟨_,_,rfl,run_takeDeferred hK,?_⟩⟩;exact⟨_,results_none rfl _ _ _,⟨_,rfl⟩,b,by omega,by simp;exact hbW,.inl (hJ _ _ _ _ hi (Trn.put _ _ _ ⟨by omega,hD2⟩))⟩
 case stop=>
  rintro D b c pre W hD1 hD2 hbW hp ⟨rfl,hi⟩ hK;gi_wp2;refine⟨by simp,.inl ⟨_,_,rfl,run_takeDeferred hK,?_⟩⟩;exact⟨_,results_none rfl _ _ _,⟨_,rfl⟩,b,by omega,by simp;exact hbW,.inr ⟨pre,hp,hJx _ _ _ _ hi (Trn.put _ _ _ ⟨by omega,hD2⟩)⟩⟩
end Go.Proofs.YtclpnafiiobfhaaGreatDoor
namespace Go.Proofs.YtclpnafiiobfhaaGreatDoor
open Go.RowKit
structure zBT (W:World) (Q K b:Nat) (lg:Value) (p1 p2 sb:Nat) (odd:Bool) (ve vc vf:Value) (n1 n2 n3:Nat) (xs ys zs:List Value):Prop where
 log:lg= .func (.func 107) #[] #[.pointer (some ⟨p1,0,none⟩),.pointer (some ⟨p2,0,none⟩)]
 blk:Blk 184 W b [ve,vc,vf,.pointer (some ⟨Q,0,none⟩),.func (.func 144) #[] #[.pointer (some ⟨sb,0,none⟩)]]
 b1:Blk 120 W p1 [.pointer (some ⟨b,0,none⟩)]
 b2:Blk 4 W p2 [.bool odd]
 bs:Blk 191 W sb [.pointer (some ⟨K,0,none⟩)]
 ev:W.ownsRow 0 188 5 ve n1 xs
 ct:W.ownsRow 0 130 4 vc n2 ys
 fl:W.ownsRow 0 3 1 vf n3 zs
def zDL (b:Nat) (ve vc vf:Value) (x:Nat):Prop:=x=b\/ve.ownBlock=some x\/vc.ownBlock=some x\/vf.ownBlock=some x
def zIR (b p1 p2 sb:Nat) (ve vc vf:Value) (x:Nat):Prop:=zDL b ve vc vf x\/x=p1\/x=p2\/x=sb
section
variable {Q K b : Nat} {lg : Value} {p1 p2 sb : Nat} {odd : Bool} {ve vc vf : Value} {n1 n2 n3 : Nat} {xs ys zs : List Value}
theorem zBT.trn {W W':World} {S:Nat->Prop} (h:zBT W Q K b lg p1 p2 sb odd ve vc vf n1 n2 n3 xs ys zs) (ht:Trn S W W') (hs:∀x,zIR b p1 p2 sb ve vc vf x->¬S x):zBT W' Q K b lg p1 p2 sb odd ve vc vf n1 n2 n3 xs ys zs:=
 ⟨h.log,h.blk.trn ht (hs b (.inl (.inl rfl))),h.b1.trn ht (hs p1 (.inr (.inl rfl))),h.b2.trn ht (hs p2 (.inr (.inr (.inl rfl)))),h.bs.trn ht (hs sb (.inr (.inr (.inr rfl)))),
   zAr h.ev ht (fun x e=>hs x (.inl (.inr (.inl e)))),zAr h.ct ht (fun x e=>hs x (.inl (.inr (.inr (.inl e))))),zAr h.fl ht (fun x e=>hs x (.inl (.inr (.inr (.inr e)))))⟩
theorem zBT.lt {W:World} (h:zBT W Q K b lg p1 p2 sb odd ve vc vf n1 n2 n3 xs ys zs) (x:Nat) (q:zIR b p1 p2 sb ve vc vf x):x<W.heap.size:=by
 rcases q with(rfl|q|q|q)|rfl|rfl|rfl
 ·exact h.blk.lt
 ·exact(h.ev.lt x q).2
 ·exact(h.ct.lt x q).2
 ·exact(h.fl.lt x q).2
 ·exact h.b1.lt
 ·exact h.b2.lt
 ·exact h.bs.lt
end
theorem zEM {W:World} {B e s n:Nat} {v:Value} {xs:List Value} (h:W.ownsRow B e s v n xs) (x:Nat) (q:v.ownBlock=some x):∃cs t fr,W.heap[x]? =some (.cells cs t fr):=by
 rcases h.2 with⟨rfl,_⟩|⟨g,cap,cur,rfl,_,e3,_⟩
 ·cases q
 ·obtain rfl:g=x:=by simpa[Value.ownBlock] using q
  exact⟨_,_,_,e3⟩
theorem zBT.cells {W:World} {Q K b:Nat} {lg:Value} {p1 p2 sb:Nat} {odd:Bool} {ve vc vf:Value} {n1 n2 n3:Nat} {xs ys zs:List Value} (h:zBT W Q K b lg p1 p2 sb odd ve vc vf n1 n2 n3 xs ys zs) (x:Nat) (q:zIR b p1 p2 sb ve vc vf x):∃cs t fr,W.heap[x]? =some (.cells cs t fr):=by
 rcases q with(rfl|q|q|q)|rfl|rfl|rfl
 ·exact⟨_,_,_,h.blk.1⟩
 ·exact zEM h.ev x q
 ·exact zEM h.ct x q
 ·exact zEM h.fl x q
 ·exact⟨_,_,_,h.b1.1⟩
 ·exact⟨_,_,_,h.b2.1⟩
 ·exact⟨_,_,_,h.bs.1⟩
theorem zDT {W:World} {t t' g g':Nat} {L L':List Value} (h:Blk t W g L) (h':Blk t' W g' L') (ht:t≠t'):g≠g':=by
 intro e;subst e;have q:=h.1.symm.trans h'.1;simp only[Option.some.injEq,Obj.cells.injEq] at q;exact ht q.2.1
theorem zB9 {W:World} {B B' e e' s s' n n':Nat} {v v':Value} {xs xs':List Value} (h:W.ownsRow B e s v n xs) (h':W.ownsRow B' e' s' v' n' xs') (he:e≠e') (x:Nat) (q:v.ownBlock=some x):v'.ownBlock≠some x:=by
 intro q';rcases h.2 with⟨rfl,_⟩|⟨g,cap,cur,rfl,_,e3,_⟩
 ·cases q
 rcases h'.2 with⟨rfl,_⟩|⟨g',cap',cur',rfl,_,e3',_⟩
 ·cases q'
 obtain rfl:g=x:=by simpa[Value.ownBlock] using q
 obtain rfl:g'=g:=by simpa[Value.ownBlock] using q'
 have z:=e3.symm.trans e3';simp only[Option.some.injEq,Obj.cells.injEq] at z;exact he z.2.1
theorem zEN {W u' w3:World} {t e sz b i n gg cap':Nat} {v:Value} {L xs ws:List Value} {o:Obj} (hb:Blk t W b L) (hi:L[i]? =some v) (hr:W.ownsRow 0 e sz v n xs) (hte:t≠e) (q1:u'.heap=(W.alloc o).heap) (q2:u'.os=W.os) (q3:u'.tape=W.tape) (q4:u'.output=W.output) (q5:u'.grownBy w3 v.ownBlock) (q6:v.ownBlock=some gg\/gg=W.heap.size+1) (q7:w3.ownsRow 0 e sz (.slice (some ⟨gg,0,none⟩) (n+1) cap') (n+1) (xs++ws)):
 (Blk t (w3.setCell ⟨b,i,none⟩ (.slice (some ⟨gg,0,none⟩) (n+1) cap')) b (L.set i (.slice (some ⟨gg,0,none⟩) (n+1) cap'))/\(w3.setCell ⟨b,i,none⟩ (.slice (some ⟨gg,0,none⟩) (n+1) cap')).ownsRow 0 e sz (.slice (some ⟨gg,0,none⟩) (n+1) cap') (n+1) (xs++ws)/\Trn (fun y=>y=b\/v.ownBlock=some y) W (w3.setCell ⟨b,i,none⟩ (.slice (some ⟨gg,0,none⟩) (n+1) cap'))/\(v.ownBlock=some gg\/W.heap.size<=gg))/\w3.cell? ⟨b,i,none⟩=some v/\w3.frozen? ⟨b,i,none⟩=false/\Trn (fun y=>v.ownBlock=some y) W w3:=by
 have hz:(W.alloc o).heap.size=W.heap.size+1:=by simp
 have b1:Below W.heap.size W u':=⟨q2,q3,q4,by rw[q1,hz];omega,fun m hm=>by rw[q1];exact Below.heap_alloc _ _ _ hm⟩;have t1:Trn (fun y=>v.ownBlock=some y) W w3:=(Trn.below b1).trans (Trn.grown' q5 (fun b q=>q)) (fun _ _ q=>q);have hne:=zAx hr hb hte;have d3:=hb.trn t1 hne;have t2:Trn (fun y=>y=b\/v.ownBlock=some y) W (w3.setCell ⟨b,i,none⟩ (.slice (some ⟨gg,0,none⟩) (n+1) cap')):=(t1.mono (fun x _ q=> .inr q)).trans (Trn.setCell (S:=fun y=>y=b\/v.ownBlock=some y) w3 b i _ (.inl rfl)) (fun _ _ q=>q);have hgD:gg≠b:=by
  have hD:=hb.lt;rcases q6 with q|q
  ·exact fun e=>hne (e▸q)
  ·omega
 refine⟨⟨d3.set i _,?_,t2,?_⟩,d3.cell i _ hi,d3.frozen i,t1⟩
 ·exact zAr q7 (Trn.setCell (S:=fun y=>y=b) w3 b i _ rfl) (fun y q z=>by
   obtain rfl:gg=y:=by simpa[Value.ownBlock] using q
   exact hgD z)
 ·exact q6.imp id (fun q=>by omega)
section
variable {W W' : World} {Q K b : Nat} {lg : Value} {p1 p2 sb : Nat} {odd : Bool} {ve vc vf v' : Value} {n1 n2 n3 g : Nat} {xs ys zs ws : List Value}
theorem zBT.ev1 (h:zBT W Q K b lg p1 p2 sb odd ve vc vf n1 n2 n3 xs ys zs) (hb:Blk 184 W' b [v',vc,vf,.pointer (some ⟨Q,0,none⟩),.func (.func 144) #[] #[.pointer (some ⟨sb,0,none⟩)]]) (hr:W'.ownsRow 0 188 5 v' (n1+1) ws) (ht:Trn (fun y=>y=b\/ve.ownBlock=some y) W W') (hg:∀x,v'.ownBlock=some x->ve.ownBlock=some x\/W.heap.size<=x):
 zBT W' Q K b lg p1 p2 sb odd v' vc vf (n1+1) n2 n3 ws ys zs/\Trn (zDL b ve vc vf) W W'/\∀x,zDL b v' vc vf x->zDL b ve vc vf x\/W.heap.size<=x:=by
 have a1:∀x,x=p1\/x=p2\/x=sb\/vc.ownBlock=some x\/vf.ownBlock=some x->¬(x=b\/ve.ownBlock=some x):=fun x q z=>by
  rcases q with rfl|rfl|rfl|q|q
  ·exact z.elim (zDT h.b1 h.blk (by decide)) (zAx h.ev h.b1 (by decide))
  ·exact z.elim (zDT h.b2 h.blk (by decide)) (zAx h.ev h.b2 (by decide))
  ·exact z.elim (zDT h.bs h.blk (by decide)) (zAx h.ev h.bs (by decide))
  ·exact z.elim (fun z=>zAx h.ct h.blk (by decide) (z▸q)) (fun z=>zB9 h.ct h.ev (by decide) x q z)
  ·exact z.elim (fun z=>zAx h.fl h.blk (by decide) (z▸q)) (fun z=>zB9 h.fl h.ev (by decide) x q z)
 refine⟨⟨h.log,hb,h.b1.trn ht (a1 _ (.inl rfl)),h.b2.trn ht (a1 _ (.inr (.inl rfl))),h.bs.trn ht (a1 _ (.inr (.inr (.inl rfl)))),hr,zAr h.ct ht (fun x e=>a1 x (.inr (.inr (.inr (.inl e))))),zAr h.fl ht (fun x e=>a1 x (.inr (.inr (.inr (.inr e)))))⟩,ht.mono (fun x _ q=>q.imp id .inl),fun x q=> ?_⟩;rcases q with q|q|q
 ·exact .inl (.inl q)
 ·exact(hg x q).imp (fun z=> .inr (.inl z)) id
 ·exact .inl (.inr (.inr q))
theorem zBT.ct1 (h:zBT W Q K b lg p1 p2 sb odd ve vc vf n1 n2 n3 xs ys zs) (hb:Blk 184 W' b [ve,v',vf,.pointer (some ⟨Q,0,none⟩),.func (.func 144) #[] #[.pointer (some ⟨sb,0,none⟩)]]) (hr:W'.ownsRow 0 130 4 v' (n2+1) ws) (ht:Trn (fun y=>y=b\/vc.ownBlock=some y) W W') (hg:∀x,v'.ownBlock=some x->vc.ownBlock=some x\/W.heap.size<=x):
 zBT W' Q K b lg p1 p2 sb odd ve v' vf n1 (n2+1) n3 xs ws zs/\Trn (zDL b ve vc vf) W W'/\∀x,zDL b ve v' vf x->zDL b ve vc vf x\/W.heap.size<=x:=by
 have a1:∀x,x=p1\/x=p2\/x=sb\/ve.ownBlock=some x\/vf.ownBlock=some x->¬(x=b\/vc.ownBlock=some x):=fun x q z=>by
  rcases q with rfl|rfl|rfl|q|q
  ·exact z.elim (zDT h.b1 h.blk (by decide)) (zAx h.ct h.b1 (by decide))
  ·exact z.elim (zDT h.b2 h.blk (by decide)) (zAx h.ct h.b2 (by decide))
  ·exact z.elim (zDT h.bs h.blk (by decide)) (zAx h.ct h.bs (by decide))
  ·exact z.elim (fun z=>zAx h.ev h.blk (by decide) (z▸q)) (fun z=>zB9 h.ev h.ct (by decide) x q z)
  ·exact z.elim (fun z=>zAx h.fl h.blk (by decide) (z▸q)) (fun z=>zB9 h.fl h.ct (by decide) x q z)
 refine⟨⟨h.log,hb,h.b1.trn ht (a1 _ (.inl rfl)),h.b2.trn ht (a1 _ (.inr (.inl rfl))),h.bs.trn ht (a1 _ (.inr (.inr (.inl rfl)))),zAr h.ev ht (fun x e=>a1 x (.inr (.inr (.inr (.inl e))))),hr,zAr h.fl ht (fun x e=>a1 x (.inr (.inr (.inr (.inr e)))))⟩,ht.mono (fun x _ q=>q.imp id (fun q=> .inr (.inl q))),fun x q=> ?_⟩;rcases q with q|q|q|q
 ·exact .inl (.inl q)
 ·exact .inl (.inr (.inl q))
 ·exact(hg x q).imp (fun z=> .inr (.inr (.inl z))) id
 ·exact .inl (.inr (.inr (.inr q)))
theorem zBT.fl1 (h:zBT W Q K b lg p1 p2 sb odd ve vc vf n1 n2 n3 xs ys zs) (hb:Blk 184 W' b [ve,vc,v',.pointer (some ⟨Q,0,none⟩),.func (.func 144) #[] #[.pointer (some ⟨sb,0,none⟩)]]) (hr:W'.ownsRow 0 3 1 v' (n3+1) ws) (ht:Trn (fun y=>y=b\/vf.ownBlock=some y) W W') (hg:∀x,v'.ownBlock=some x->vf.ownBlock=some x\/W.heap.size<=x):
 zBT W' Q K b lg p1 p2 sb odd ve vc v' n1 n2 (n3+1) xs ys ws/\Trn (zDL b ve vc vf) W W'/\∀x,zDL b ve vc v' x->zDL b ve vc vf x\/W.heap.size<=x:=by
 have a1:∀x,x=p1\/x=p2\/x=sb\/ve.ownBlock=some x\/vc.ownBlock=some x->¬(x=b\/vf.ownBlock=some x):=fun x q z=>by
  rcases q with rfl|rfl|rfl|q|q
  ·exact z.elim (zDT h.b1 h.blk (by decide)) (zAx h.fl h.b1 (by decide))
  ·exact z.elim (zDT h.b2 h.blk (by decide)) (zAx h.fl h.b2 (by decide))
  ·exact z.elim (zDT h.bs h.blk (by decide)) (zAx h.fl h.bs (by decide))
  ·exact z.elim (fun z=>zAx h.ev h.blk (by decide) (z▸q)) (fun z=>zB9 h.ev h.fl (by decide) x q z)
  ·exact z.elim (fun z=>zAx h.ct h.blk (by decide) (z▸q)) (fun z=>zB9 h.ct h.fl (by decide) x q z)
 refine⟨⟨h.log,hb,h.b1.trn ht (a1 _ (.inl rfl)),h.b2.trn ht (a1 _ (.inr (.inl rfl))),h.bs.trn ht (a1 _ (.inr (.inr (.inl rfl)))),zAr h.ev ht (fun x e=>a1 x (.inr (.inr (.inr (.inl e))))),zAr h.ct ht (fun x e=>a1 x (.inr (.inr (.inr (.inr e))))),hr⟩,ht.mono (fun x _ q=>q.imp id (fun q=> .inr (.inr q))),fun x q=> ?_⟩;rcases q with q|q|q|q
 ·exact .inl (.inl q)
 ·exact .inl (.inr (.inl q))
 ·exact .inl (.inr (.inr (.inl q)))
 ·exact(hg x q).imp (fun z=> .inr (.inr (.inr z))) id
end
theorem zLI {Q K:Nat} {O T:Nat->Prop} {Z:World->World->Prop} {lg cv:Value} {R:Option Bk} {room now births:Nat} {F:List Fl} {cA cD cR cM:Nat} (W:World) (h:zAa W Q K O lg cv R room now births F cA cD cR cM) (b1:cA+1<18446744073709551616) (b2:cD+1<18446744073709551616) (b3:cR+1<18446744073709551616) (b4:cM+1<18446744073709551616) (d:ByteArray) (fb fc:Nat) (i:Int) (hj:Calls Tryz.prog 109 #[.pointer (some ⟨Q,0,none⟩),.int .u8 i,.slice (some ⟨fb,0,none⟩) d.size fc] W fun e w'=>e= .returned (.agg (evG R room now F d i).1.l.toArray)/\(∃O' b',Kps w' O' K room now b' (evG R room now F d i).2/\Trn O W w'/\(∀y,O' y->O y\/W.heap.size<=y)/\b'<=births+1))
 (hT:∀x,T x->x<W.heap.size/\¬(x=Q\/O x\/cv.ownBlock=some x))
 (htl:∀w4 O' b',zAa w4 Q K O' lg cv R room now b' (evG R room now F d i).2 (cA+zBZ (evG R room now F d i).1.c (evG R room now F d i).1.v 0) (cD+zBZ (evG R room now F d i).1.c (evG R room now F d i).1.v 1) (cR+zBZ (evG R room now F d i).1.c (evG R room now F d i).1.v 2) (cM+zBZ (evG R room now F d i).1.c (evG R room now F d i).1.v 3)->(∀y,O' y->O y\/W.heap.size<=y)->Trn (fun x=>x=Q\/O x) W w4->Calls Tryz.prog 111 #[.pointer (some ⟨Q,0,none⟩),.agg (evG R room now F d i).1.l.toArray] w4 fun e w5=>e= .returned (.tuple #[])/\Trn T w4 w5/\Z w4 w5):
 Calls Tryz.prog 84 #[.pointer (some ⟨Q,0,none⟩),.int .u8 i,.slice (some ⟨fb,0,none⟩) d.size fc] W fun e w5=>e= .returned (.int .u8 (evG R room now F d i).1.v)/\∃O' b' w4,zAa w5 Q K O' lg cv R room now b' (evG R room now F d i).2 (cA+zBZ (evG R room now F d i).1.c (evG R room now F d i).1.v 0) (cD+zBZ (evG R room now F d i).1.c (evG R room now F d i).1.v 1) (cR+zBZ (evG R room now F d i).1.c (evG R room now F d i).1.v 2) (cM+zBZ (evG R room now F d i).1.c (evG R room now F d i).1.v 3)/\Trn (fun x=>x=Q\/O x) W w4/\Trn T w4 w5/\Z w4 w5/\(∀y,O' y->(O y\/W.heap.size<=y)/\y<w4.heap.size)/\b'<=births+1:=by
 have HJ:=hid hj;have HG:=hid h;have HN:=hid (And.intro b1 (And.intro b2 (And.intro b3 b4)));have HT:=hid hT;have HTL0:=hid htl;generalize evG R room now F d i=EV at HJ HTL0 ⊢;obtain⟨⟨ec,es,ev,ek,ee⟩,F2⟩:=EV;dsimp only[Ev.l] at HJ HTL0 ⊢;clear h hj hT htl b1 b2 b3 b4;go_enter Tryz.func84,Tryz.ntmps84;go_upto_region 2 with(go_at_call 109;refine HJ.out.mono ?_;rintro e w2 ⟨rfl,hk2⟩;have HK2:Hid (_):=hk2;clear hk2)
 obtain⟨O',b',k1,k2,k3,k4⟩:=HK2.out;obtain⟨W3,hW3⟩:∃W3,w2.alloc (.cells #[.int .u8 ec,.int .u8 es,.int .u8 ev,.bool ek,.bool ee] 188)=W3:=⟨_,rfl⟩;obtain⟨g7,hg7⟩:∃g7,w2.heap.size=g7:=⟨_,rfl⟩;rw[hW3,hg7];have B3:Below w2.heap.size w2 W3:=by rw[<-hW3];exact bal _ _
 have HE3:Hid (Blk 188 W3 g7 [.int .u8 ec,.int .u8 es,.int .u8 ev,.bool ek,.bool ee]):=by rw[<-hW3,<-hg7];exact Blk.made w2 _ [.int .u8 ec,.int .u8 es,.int .u8 ev,.bool ek,.bool ee] (zAF rfl)
 have HQ3:=hid ((HG.out.blk.trn k2 HG.out.own).below B3 (HG.out.blk.trn k2 HG.out.own).lt);have hQW:=HG.out.blk.lt;have hOQ:¬O' Q:=fun q=>by
  rcases k3 Q q with z|z
  ·exact HG.out.own z
  ·omega
 have HK3:Hid (Kps W3 O' K room now b' F2/\Trn O W W3/\(∀y,O' y->O y\/W.heap.size<=y)/\b'<=births+1/\¬O' Q):=⟨k1.below B3,k2.trans (Trn.below B3) (fun _ _ q=>q),k3,k4,hOQ⟩;have hgQ:g7≠Q:=by have a:=k2.size;omega
 have hgW:W.heap.size<=g7:=by have a:=k2.size;omega
 have HCT:=hid (zGJ W3 HQ3.out ec es ev ek ee HN.out.1 HN.out.2.1 HN.out.2.2.1 HN.out.2.2.2);have e0:=HE3.out.cell 0 _ rfl;have e1:=HE3.out.cell 1 _ rfl;have e2:=HE3.out.cell 2 _ rfl;have e3:=HE3.out.cell 3 _ rfl;have e4:=HE3.out.cell 4 _ rfl;clear k1 k2 k3 k4 hW3 hg7 B3 hOQ;go_upto_region 3 with(go_at_call 110;refine HCT.out.mono ?_;rintro e w4 ⟨rfl,hb4,ht4⟩;have HQ4:Hid (_/\_):=⟨hb4,ht4⟩;clear hb4 ht4)
 have HE4:=hid (HE3.out.trn HQ4.out.2 hgQ);obtain⟨k1,k2,k3,k4,k5⟩:=HK3.out;have t4:=HQ4.out.2;have tt:Trn (fun x=>x=Q\/O x) W w4:=(k2.mono (fun x _ q=> .inr q)).trans (t4.mono (fun x _ q=> .inl q)) (fun _ _ q=>q);have g4:zAa w4 Q K O' lg cv R room now b' F2 (cA+zBZ ec ev 0) (cD+zBZ ec ev 1) (cR+zBZ ec ev 2) (cM+zBZ ec ev 3):=by
  refine⟨HQ4.out.1,HG.out.code.trn tt (fun x hx q=> ?_),k1.trn t4 (fun x q z=>k5 (z▸q)),k5,HG.out.cap⟩;rcases q with q|q
  ·exact .inl q
  ·rcases k3 x q with z|z
   ·exact .inr z
   ·omega
 have HTL:=hid (HTL0.out w4 O' b' g4 k3 tt);have HG4:Hid (zAa w4 Q K O' lg cv R room now b' F2 (cA+zBZ ec ev 0) (cD+zBZ ec ev 1) (cR+zBZ ec ev 2) (cM+zBZ ec ev 3)/\Trn (fun x=>x=Q\/O x) W w4/\(∀y,O' y->O y\/W.heap.size<=y)/\b'<=births+1/\¬T g7):=⟨g4,tt,k3,k4,fun q=>by have:=(HT.out g7 q).1;omega⟩;have e0':=HE4.out.cell 0 _ rfl;have e1':=HE4.out.cell 1 _ rfl;have e2':=HE4.out.cell 2 _ rfl;have e3':=HE4.out.cell 3 _ rfl;have e4':=HE4.out.cell 4 _ rfl;clear e0 e1 e2 e3 e4 k1 k2 k3 k4 k5 t4 tt g4;go_wp2_with (go_at_call 111;refine HTL.out.mono ?_;rintro e w5 ⟨rfl,hb5,hz5⟩;have HB5:=hid (And.intro hb5 hz5);have e2'':=(HE4.out.trn hb5 HG4.out.2.2.2.2).cell 2 _ rfl;clear hb5 hz5);go_ret;obtain⟨g4,tt,k3,k4,_⟩:=HG4.out;refine⟨rfl,O',b',w4,g4.trn HB5.out.1 (fun x q z=> ?_),tt,HB5.out.1,HB5.out.2,fun y q=>⟨k3 y q,g4.keeps.lt y q⟩,k4⟩;obtain⟨z1,z2⟩:=HT.out x z;refine z2 (q.imp id (Or.imp (fun q=> ?_) id));rcases k3 x q with y|y
 ·exact y
 ·omega
end Go.Proofs.YtclpnafiiobfhaaGreatDoor
namespace Go.Proofs.YtclpnafiiobfhaaGreatDoor
open Go.RowKit Go.Shelf
attribute [local go_sem] Oper.semAt_some
theorem zJZ {P:Program} {c:Go.Code} {K:Act->World->Prop} {Q:Exit->Act->World->Prop} {a:Act} {w:World} (h:c.wp P (Exit.then K (fun _ _ _=>False)) a w):c.wp P (Exit.then K Q) a w:=
 wp_mono h fun e _ _ q=>by
  cases e with
  |normal=>exact q
  |_=>exact q.elim
theorem zNs {α:Type} {P:Program} {n:Nat} {g:Operand} {ps:Array Tmp} {body:Go.Code} {Q:Exit->Act->World->Prop} {a:Act} {w:World} {gf:Nat} {lb:Array Value} {encs:α->Array Value} {xs:List α}
 (hg:a.eval g= .func (.func gf) #[] lb) (eg:∀args w,(callFunc gf args).run P w= .ok (.enter gf args) w)
 (hseq:∀W1,Below w.heap.size w W1->zQ4 P gf lb encs xs W1) (hps:∀x,(encs x).size=ps.size)
 (I:Nat->List α->World->Prop)
 (hs:∀b W2,w.heap.size<=b->b<=W2.heap.size->Below w.heap.size w W2->I b [] W2)
 (hI:∀b pre A B,I b pre A->Trn (Btw w.heap.size b) A B->I b pre B)
 (hbody:∀(l b:Nat) (pre:List α) (x:α) (W:World),w.heap.size<=b->b<=W.heap.size->I b pre W->pre++[x]<+:xs->
   body.wpIn (Fence.wide.inRound l) 0 P (zRr w.heap.size b (I b (pre++[x])) (fun _ _=>False) W) {tmps:=(ps.zip (encs x)).foldl (fun t (p,v)=>t.setIfInBounds p v) a.tmps,defers:=[]} W)
 (hdone:∀(D b:Nat) (W:World),w.heap.size<=D->D<b->b<=W.heap.size->I b xs W->W.heap[D]? =some (.deferred (some []))->Q .normal {a with defers:={target:= .collected D,args:= #[]}::a.defers} W):
 (Go.Code.rangeFunc g ps .skip body).wp P Q a w:=
 (wpIn_wide (n:=n)).1 (zEu hg eg hseq hps I (fun _ _ _ _=>False) hs hI (fun _ _ _ _ _ h _=>h) (fun _ x a' _=>a'={tmps:=(ps.zip (encs x)).foldl (fun t (p,v)=>t.setIfInBounds p v) a.tmps,defers:=[]}) (fun _ _ _ _ _ h _=>h)
   (fun _ _ _ _ W _ _ _ _ hK=>wpIn_skip (hK _ _ (Below.refl _ W) rfl)) (fun l b pre x a' W h1 h2 h3 h4 h5=>by rw[h4];exact hbody l b pre x W h1 h2 h3 h5) hdone (fun _ _ _ _ _ _ _ _ _ h _=>h.elim))
theorem zIS {P:Program} {ops:Array Oper} {o:Oper} {a:Act} {w:World} {K:Act->World->Prop} {Q:Exit->Act->World->Prop} {E:Prop}
 (hg:o.guard=none) (f:Nat) (x:Operand) (ts:Array TypeId) (hop:o.op=Op.call {callee:=Callee.value (Operand.func f),args:= #[x],argTypes:=ts}) (v0:Value) (hv:a.eval x=v0) (he:∀args w,(callFunc f args).run P w= .ok (.enter f args) w)
 {v:Value} {w':World} (hc:Calls P f #[v0] w fun e w2=>e= .returned v/\w2=w') (hK:K (a.put o.dst v) w'):
 if Region.wanted o (yielded ops a.tmps)=true then Oper.wp P o a w K Q else E:=by
 have hw:Region.wanted o (yielded ops a.tmps)=true:=by simp[Region.wanted,hg]
 rw[if_pos hw];unfold Oper.wp;have hf:a.eval (Operand.func f)= .func (.func f) #[] #[]:=rfl;simp only[execOp,hop,resolve,hf,hv,List.map_toArray,List.map_cons,List.map_nil];simp[go_sem,invoke,he,Deferred.ofValue,Result.andThen];refine hc.mono ?_;rintro e w2 ⟨rfl,rfl⟩;exact hK
theorem tk {P:Program} {ops:Array Oper} {md:Region.Mode} {S:World->Prop} {K:Act->World->Prop} (i:Nat) {oi:Oper} {v:Value} {fuel:Nat} {listed:Array Bool} {a:Act} {w:World} (hi:ops[i]? =some oi) (h:(Region.noSelect ops&&Region.free md ops listed i&&(Region.ready md ops listed).contains i)=true) (hw:Region.wanted oi (yielded ops a.tmps)=true) (hy:∀w,S w->(execOp a.eval oi).run P w= .ok (.value v) w) (hS:S w)
 (hr:wpAnyH P md ops (Exit.then K (fun _ _ _=>False)) S fuel (listed.setIfInBounds i true) (a.put oi.dst v) w):wpAnyH P md ops (Exit.then K (fun _ _ _=>False)) S (fuel+1) listed a w:=by
 simp only[Bool.and_eq_true] at h;exact wpAnyH_take (i:=i) hi h.1.1 h.1.2 h.2 (fun _ _ _ q=>q) (.inl ⟨hw,hy⟩) hS hr
theorem rd {P:Program} {ops:Array Oper} {md:Region.Mode} {S:World->Prop} {Q:Exit->Act->World->Prop} (i:Nat) {o:Oper} {fuel:Nat} {listed:Array Bool} {a:Act} {w:World} (ho:ops[i]? =some o) (hr:Region.ready md ops listed=[i])
 (h:∀K':Act->World->Prop,Shut (∀a w,S w->(S w->wpAnyH P md ops Q S fuel (listed.setIfInBounds i true) a w)->K' a w)->if Region.wanted o (yielded ops a.tmps)=true then Oper.wp P o a w K' Q else K' (a.put o.dst undef) w):wpAnyH P md ops Q S (fuel+1) listed a w:=wpAnyH_ready hr (by simp) (AllReadyH.cons ho h AllReadyH.nil)
theorem pu (l:List Value) (ds:List Deferred) (i:Nat) (v:Value):(⟨l.toArray,ds⟩:Act).put (some i) v=⟨(l.set i v).toArray,ds⟩:=by simp[Act.put]
theorem gz {α:Type} (x:α) (l:List α) (h:0<(x::l).toArray.size):(x::l).toArray[0]=x:=rfl
theorem gs {α:Type} (x:α) (l:List α) (i:Nat) (h:i+1<(x::l).toArray.size):(x::l).toArray[i+1]=l.toArray[i]'(by simpa using h):=by simp
theorem Tryz.infoEv:(Tryz.prog.info? 188).map (fun i=>(i.zero,i.size,i.bytes))=some (some (.agg #[.int .u8 0,.int .u8 0,.int .u8 0,.bool false,.bool false]),5,5):=by kernel_rfl
theorem Tryz.infoCo:(Tryz.prog.info? 130).map (fun i=>(i.zero,i.size,i.bytes))=some (some (.agg #[.int .u64 0,.int .u64 0,.int .u64 0,.int .u64 0]),4,32):=by kernel_rfl
theorem Tryz.infoIn:(Tryz.prog.info? 3).map (fun i=>(i.zero,i.size,i.bytes))=some (some (.int .i64 0),1,8):=by kernel_rfl
section
variable {Q K : Nat} {O : Nat → Prop} {lg cv : Value} {R : Option Bk} {room now births : Nat} {F : List Fl} {cA cD cR cM : Nat} {b p1 p2 sb : Nat} {odd : Bool} {ve vc vf : Value} {n : Nat} {xs ys zs : List Value}
theorem zQy (W:World) (hg:zAa W Q K O lg cv R room now births F cA cD cR cM) (hb:zBT W Q K b lg p1 p2 sb odd ve vc vf n n n xs ys zs) (hap:∀x,zIR b p1 p2 sb ve vc vf x->¬(x=Q\/O x\/cv.ownBlock=some x)) (hn:n<=1000000) (c s v:Int) (kn ek:Bool):
 Calls Tryz.prog 107 #[.agg #[.int .u8 c,.int .u8 s,.int .u8 v,.bool kn,.bool ek],.pointer (some ⟨p1,0,none⟩),.pointer (some ⟨p2,0,none⟩)] W fun e w'=>(e= .returned (.tuple #[])\/∃x,e= .panicked [{v:=x,recovered:=false}])/\∃ve' vc' vf',zBT w' Q K b lg p1 p2 sb odd ve' vc' vf' (n+1) (n+1) (n+1) (xs++[.int .u8 c,.int .u8 s,.int .u8 v,.bool kn,.bool ek]) (ys++[.int .u64 (cA:Int),.int .u64 (cD:Int),.int .u64 (cR:Int),.int .u64 (cM:Int)]) (zs++[.int .i64 (F.length:Int)])/\Trn (zDL b ve vc vf) W w'/\∀x,zDL b ve' vc' vf' x->zDL b ve vc vf x\/W.heap.size<=x:=by
 obtain⟨pe,ce,rfl⟩:=zAn hb.ev;obtain⟨pc,cc,rfl⟩:=zAn hb.ct;obtain⟨pf,cf,rfl⟩:=zAn hb.fl;have HG:=hid hg;have HAP:=hid hap;obtain⟨W1,hW1⟩:∃W1,W.alloc (.cells #[.int .u8 c,.int .u8 s,.int .u8 v,.bool kn,.bool ek] 188)=W1:=⟨_,rfl⟩;have B1:Below W.heap.size W W1:=by rw[<-hW1];exact bal _ _
 have HB1:=hid B1;have HK1:=hid (hb.trn (Trn.below (S:=fun _=>False) B1) (fun _ _ q=>q));have HE1:Hid (Blk 188 W1 W.heap.size [.int .u8 c,.int .u8 s,.int .u8 v,.bool kn,.bool ek]):=by rw[<-hW1];exact Blk.made W _ [.int .u8 c,.int .u8 s,.int .u8 v,.bool kn,.bool ek] (zAF rfl)
 have z1:W1.heap.size=W.heap.size+1:=by rw[<-hW1];simp
 have hbl:=HK1.out.blk.lt;have hp1l:=HK1.out.b1.lt;have hbn:=Nat.ne_of_lt hbl;have hpn:=Nat.ne_of_lt hp1l;have hen:W.heap.size≠W1.heap.size:=by omega
 have hpb:p1≠b:=zDT HK1.out.b1 HK1.out.blk (by decide);have hbW:b≠W.heap.size:=by have:=hb.blk.lt;omega
 have k0:=HK1.out.blk.cell 0 _ rfl;have fz0:=HK1.out.blk.frozen 0;have kp:=HK1.out.b1.cell 0 _ rfl;have r0:=HE1.out.cell 0 _ rfl;have r1:=HE1.out.cell 1 _ rfl;have r2:=HE1.out.cell 2 _ rfl;have r3:=HE1.out.cell 3 _ rfl;have r4:=HE1.out.cell 4 _ rfl;obtain⟨i0,hi0,hz0,hz1,hz2⟩:=zEo Tryz.infoEv;have HOWA:=hid fun(u':World)(hu:u'.heap=(W1.alloc (.cells #[.int .u8 c,.int .u8 s,.int .u8 v,.bool kn,.bool ek] 188)).heap)=>zCH (HK1.out.ev.alloc (.cells #[.int .u8 c,.int .u8 s,.int .u8 v,.bool kn,.bool ek] 188)) (fun g _=>by rw[hu])
 have HNW:=hid fun(u':World)(hu:u'.heap=(W1.alloc (.cells #[.int .u8 c,.int .u8 s,.int .u8 v,.bool kn,.bool ek] 188)).heap)=>World.news_of_block (w:=u') (cs:= #[.int .u8 c,.int .u8 s,.int .u8 v,.bool kn,.bool ek]) (t:=188) (fr:=(0,0)) (by rw[hu];exact heap_alloc_new W1 _)
 have HAD:Hid (∀(u' w3:World) (gg cap':Nat),u'.heap=(W1.alloc (.cells #[.int .u8 c,.int .u8 s,.int .u8 v,.bool kn,.bool ek] 188)).heap->u'.os=W1.os->u'.tape=W1.tape->u'.output=W1.output->u'.grownBy w3 (Value.slice pe n ce).ownBlock->((Value.slice pe n ce).ownBlock=some gg\/gg=W1.heap.size+1)->w3.ownsRow 0 188 5 (.slice (some ⟨gg,0,none⟩) (n+1) cap') (n+1) (xs++[.int .u8 c,.int .u8 s,.int .u8 v,.bool kn,.bool ek])->_/\w3.cell? ⟨b,0,none⟩=some (.slice pe n ce)/\w3.frozen? ⟨b,0,none⟩=false/\(w3.cell? ⟨p1,0,none⟩=some (.pointer (some ⟨b,0,none⟩))/\w3.cell? ⟨W.heap.size,0,none⟩=some (.int .u8 c)/\w3.cell? ⟨W.heap.size,1,none⟩=some (.int .u8 s)/\w3.cell? ⟨W.heap.size,2,none⟩=some (.int .u8 v)/\w3.cell? ⟨W.heap.size,3,none⟩=some (.bool kn)/\w3.cell? ⟨W.heap.size,4,none⟩=some (.bool ek))/\∀x,(w3.setCell ⟨b,0,none⟩ x).cell? ⟨p1,0,none⟩=some (.pointer (some ⟨b,0,none⟩))/\(w3.setCell ⟨b,0,none⟩ x).cell? ⟨W.heap.size,0,none⟩=some (.int .u8 c)/\(w3.setCell ⟨b,0,none⟩ x).cell? ⟨W.heap.size,1,none⟩=some (.int .u8 s)/\(w3.setCell ⟨b,0,none⟩ x).cell? ⟨W.heap.size,2,none⟩=some (.int .u8 v)/\(w3.setCell ⟨b,0,none⟩ x).cell? ⟨W.heap.size,3,none⟩=some (.bool kn)/\(w3.setCell ⟨b,0,none⟩ x).cell? ⟨W.heap.size,4,none⟩=some (.bool ek)):=fun u' w3 gg cap' q1 q2 q3 q4 q5 q6 q7=>(zEN HK1.out.blk rfl HK1.out.ev (by decide) q1 q2 q3 q4 q5 q6 q7).imp id fun z=>by
  have y1:=HK1.out.b1.trn z.2.2 (zAx HK1.out.ev HK1.out.b1 (by decide));have y2:=HE1.out.trn z.2.2 (fun q=>by have:=(hb.ev.lt _ q).2;omega);exact⟨z.1,z.2.1,⟨y1.cell 0 _ rfl,y2.cell 0 _ rfl,y2.cell 1 _ rfl,y2.cell 2 _ rfl,y2.cell 3 _ rfl,y2.cell 4 _ rfl⟩,fun x=>⟨(World.cell?_setCell_far w3 ⟨b,0,none⟩ ⟨p1,0,none⟩ x hpb.symm).trans (y1.cell 0 _ rfl),(World.cell?_setCell_far w3 ⟨b,0,none⟩ ⟨W.heap.size,0,none⟩ x hbW).trans (y2.cell 0 _ rfl),(World.cell?_setCell_far w3 ⟨b,0,none⟩ ⟨W.heap.size,1,none⟩ x hbW).trans (y2.cell 1 _ rfl),(World.cell?_setCell_far w3 ⟨b,0,none⟩ ⟨W.heap.size,2,none⟩ x hbW).trans (y2.cell 2 _ rfl),(World.cell?_setCell_far w3 ⟨b,0,none⟩ ⟨W.heap.size,3,none⟩ x hbW).trans (y2.cell 3 _ rfl),(World.cell?_setCell_far w3 ⟨b,0,none⟩ ⟨W.heap.size,4,none⟩ x hbW).trans (y2.cell 4 _ rfl)⟩⟩
 have HW1:=hid hW1;have HZ1:=hid z1;clear hg hb hap B1 hW1 z1;refine(callsIn_wide (n:=3)).1 ?_;refine callsIn_of_wp_marks Tryz.func107 rfl trivial ?_ rfl;simp only[Tryz.ntmps107,List.size_toArray,List.length_cons,List.length_nil,Nat.reduceAdd,Nat.reduceSub,Array.replicate_succ,Array.replicate_zero,List.push_toArray,List.append_toArray,List.nil_append,List.cons_append];refine wpIn_wide.2 ?_;go_upto_region 1 with fail
 rw[HW1.out];clear HW1;go_cut [15] from 5 to 14 (fun _ w'=>∃gg cap',zBT w' Q K b lg p1 p2 sb odd (.slice (some ⟨gg,0,none⟩) (n+1) cap') (.slice pc n cc) (.slice pf n cf) (n+1) n n (xs++[.int .u8 c,.int .u8 s,.int .u8 v,.bool kn,.bool ek]) ys zs/\Trn (zDL b (.slice pe n ce) (.slice pc n cc) (.slice pf n cf)) W1 w'/\∀x,zDL b (.slice (some ⟨gg,0,none⟩) (n+1) cap') (.slice pc n cc) (.slice pf n cf) x->zDL b (.slice pe n ce) (.slice pc n cc) (.slice pf n cf) x\/W1.heap.size<=x)
 case first=>
  refine zJZ ?_;refine wp_region_held_drew (S:=fun w'=>w'.cell? ⟨p1,0,none⟩=some (.pointer (some ⟨b,0,none⟩))/\w'.cell? ⟨W.heap.size,0,none⟩=some (.int .u8 c)/\w'.cell? ⟨W.heap.size,1,none⟩=some (.int .u8 s)/\w'.cell? ⟨W.heap.size,2,none⟩=some (.int .u8 v)/\w'.cell? ⟨W.heap.size,3,none⟩=some (.bool kn)/\w'.cell? ⟨W.heap.size,4,none⟩=some (.bool ek)) (by kernel_rfl) (by go_keep) (fun hHeld=> ?_);refine tk 0 (v:= ?_) rfl (by kernel_rfl) (by rfl) (fun w hSw=> ?_) hHeld ?_
  rotate_left
  ·(try dsimp only at hSw);go_simp;try with_reducible rfl
  try simp only[pu,List.set,gz,gs]
  refine tk 1 (v:= ?_) rfl (by kernel_rfl) (by rfl) (fun w hSw=> ?_) hHeld ?_
  rotate_left
  ·(try dsimp only at hSw);go_simp;try with_reducible rfl
  try simp only[pu,List.set,gz,gs]
  refine tk 2 (v:= ?_) rfl (by kernel_rfl) (by rfl) (fun w hSw=> ?_) hHeld ?_
  rotate_left
  ·(try dsimp only at hSw);go_simp;try with_reducible rfl
  try simp only[pu,List.set,gz,gs]
  refine tk 3 (v:= ?_) rfl (by kernel_rfl) (by rfl) (fun w hSw=> ?_) hHeld ?_
  rotate_left
  ·(try dsimp only at hSw);go_simp;try with_reducible rfl
  try simp only[pu,List.set,gz,gs]
  refine tk 5 (v:= ?_) rfl (by kernel_rfl) (by rfl) (fun w hSw=> ?_) hHeld ?_
  rotate_left
  ·(try dsimp only at hSw);go_simp;try with_reducible rfl
  try simp only[pu,List.set,gz,gs]
  refine wpAnyH_ready (rs:=[4,6]) (by kernel_rfl) (by simp) (AllReadyH.cons rfl (fun K hK=> ?_) (AllReadyH.cons rfl (fun K hK=> ?_) AllReadyH.nil))
  try simp only[gz,gs]
  go_simp;refine hK.out _ _ ?_ fun hHeld=> ?_
  ·exact hHeld
  clear hK
  try simp only[pu,List.set,gz,gs]
  refine rd 6 rfl (by kernel_rfl) fun K hK=> ?_
  try simp only[gz,gs]
  go_simp;refine hK.out _ _ ?_ fun hHeld=> ?_
  ·go_keep
  clear hK
  try simp only[pu,List.set,gz,gs]
  rotate_left
  try simp only[gz,gs]
  go_simp;refine hK.out _ _ ?_ fun hHeld=> ?_
  ·go_keep
  clear hK
  try simp only[pu,List.set,gz,gs]
  refine rd 4 rfl (by kernel_rfl) fun K hK=> ?_
  try simp only[gz,gs]
  go_simp;refine hK.out _ _ ?_ fun hHeld=> ?_
  ·exact hHeld
  clear hK
  try simp only[pu,List.set,gz,gs]
  all_goals
   refine rd 7 rfl (by kernel_rfl) fun K hK=> ?_
   refine step_append_lies _ (by rfl) _ _ _ (by rfl) 0 188 i0 _ 5 5 Tryz.underlying180 hi0 hz0 hz1 hz2 rfl (by decide) _ n xs (by rfl) (HOWA.out _ (by rfl)) ⟨W1.heap.size,0,none⟩ 1 1 [.int .u8 c,.int .u8 s,.int .u8 v,.bool kn,.bool ek] (by rfl) (by rfl) (HNW.out _ (by rfl)) (by simp[Value.oneCell']) (by decide) (by unfold maxLen;omega) (by omega) (by omega) (W1.heap.size+1) (by simp) ?_;intro gg cap' w3 hown3 hgrow hat hlt3;have HA3:Hid _:=HAD.out _ _ _ _ (by rfl) (by rfl) (by rfl) (by rfl) hgrow hat hown3;clear hgrow hat hown3;have m0:=HA3.out.2.1;have g0:=HA3.out.2.2.1;refine hK.out _ _ ?_ fun hHeld=> ?_
   ·exact HA3.out.2.2.2.1
   clear hK
   try simp only[pu,List.set,gz,gs]
   refine tk 8 (v:= ?_) rfl (by kernel_rfl) (by rfl) (fun w hSw=> ?_) hHeld ?_
   rotate_left
   ·(try dsimp only at hSw);go_simp;try with_reducible rfl
   try simp only[pu,List.set,gz,gs]
   refine tk 9 (v:= ?_) rfl (by kernel_rfl) (by rfl) (fun w hSw=> ?_) hHeld ?_
   rotate_left
   ·(try dsimp only at hSw);go_simp;try with_reducible rfl
   try simp only[pu,List.set,gz,gs]
   refine rd 10 rfl (by kernel_rfl) fun K hK=> ?_
   try simp only[gz,gs]
   go_simp;refine hK.out _ _ ?_ fun hHeld=> ?_
   ·exact HA3.out.2.2.2.2 _
   clear hK
   try simp only[pu,List.set,gz,gs]
   refine wpAnyH_done (by kernel_rfl) ?_ _;go_wp2_with fail;go_meet;obtain⟨a1,a2,a3,a4⟩:=HA3.out.1;exact⟨_,_,HK1.out.ev1 a1 a2 a3 (fun x q=>by
    obtain rfl:gg=x:=by simpa[Value.ownBlock] using q
    exact a4)⟩
 obtain⟨g1,cap1,hA1,hA2,hA3⟩:=hcut;obtain⟨Wa,rfl⟩:∃Wa,Wa=wc:=⟨_,rfl⟩;clear HOWA HNW HAD k0 fz0 kp r0 r1 r2 r3 r4 i0 hi0 hz0 hz1 hz2;have HA:=hid (And.intro hA1 (And.intro hA2 hA3));clear hA1 hA2 hA3;have HGc:=hid ((HG.out.below HB1.out).trn HA.out.2.1 (fun x q z=>HAP.out x (.inl z) q));have kp:=HA.out.1.b1.cell 0 _ rfl;have k3:=HA.out.1.blk.cell 3 _ rfl;have hbc:=HA.out.1.blk.lt;have hbc2:=Nat.ne_of_lt hbc;have hp1d:=HA.out.1.b1.lt;have hp1c:=Nat.ne_of_lt hp1d;have hF:F.length<=64:=by
  obtain⟨T,mb,v,n,f,G,h,_⟩:=HG.out.keeps;rw[h.rel.flen];exact Nat.le_trans h.tab.le h.tab.big
 have HC:Hid (∀o,Calls _ _ _ (Wa.alloc o) _):=fun o=>zDJ (Wa.alloc o) (HGc.out.below (bal _ _))
 have HTa:Hid (Trn (zDL b (.slice pe n ce) (.slice pc n cc) (.slice pf n cf)) W Wa/\(∀x,zDL b (.slice (some ⟨g1,0,none⟩) (n+1) cap1) (.slice pc n cc) (.slice pf n cf) x->zDL b (.slice pe n ce) (.slice pc n cc) (.slice pf n cf) x\/W.heap.size<=x)):=⟨(Trn.below HB1.out).trans HA.out.2.1 (fun _ _ q=>q),fun x q=>(HA.out.2.2 x q).imp id (fun z=>by have:=HZ1.out;omega)⟩;clear hbl hp1l hbn hpn hen HB1 HK1 HE1;go_wp2_with (go_at_call 108;refine(HC.out _).mono ?_;rintro e w2 ⟨rfl,rfl⟩);obtain⟨w2,hw2⟩:∃w2,(Wa.alloc (.cells #[.int .i64 0] 3)).alloc (.cells #[.pointer (some ⟨K,0,none⟩)] 191)=w2:=⟨_,rfl⟩;rw[hw2];have hz:w2.heap.size=Wa.heap.size+2:=by rw[<-hw2];simp
 have b2:Below Wa.heap.size Wa w2:=by rw[<-hw2];exact((Below.refl _ Wa).alloc (Nat.le_refl _) _).alloc (by simp) _
 have y2:Boxed w2 Wa.heap.size 3 (.int .i64 0):=by rw[<-hw2];exact(Boxed.new Wa _ _).alloc _
 have t2:w2.heap[Wa.heap.size+1]? =some (.cells #[.pointer (some ⟨K,0,none⟩)] 191):=by
  rw[<-hw2];have:=World.alloc_heap_new (Wa.alloc (.cells #[.int .i64 0] 3)) (.cells #[.pointer (some ⟨K,0,none⟩)] 191);rwa [World.size_alloc] at this
 refine zNs (n:=3) (P:=Tryz.prog) (gf:=144) (lb:= #[.pointer (some ⟨Wa.heap.size+1,0,none⟩)]) (encs:=fun x:Fl=> #[.agg x.cells]) (xs:=F) rfl (enters_of Tryz.func144 (by kernel_rfl) rfl)
  (fun W1 h1=>zFd W1 (HGc.out.keeps.below (b2.trans (h1.mono (by omega)))) (zAd ((h1.block _ (by omega)).trans t2) _ rfl) (by have:=h1.size;omega)) (fun _=>rfl)
  (fun bb pre W=>Boxed W Wa.heap.size 3 (.int .i64 (pre.length:Int))/\Below Wa.heap.size Wa W)
  (fun bb W2 h1 h2 h3=>⟨(h3.block _ (by omega)).trans y2,b2.trans (h3.mono (by omega))⟩)
  (fun bb pre A B h t=>⟨t.keep (fun q=>by have:=q.1;omega) h.1,h.2.trans (t.to_below h.2.size (fun m hm q=>by have:=q.1;omega))⟩)
  ?body ?done
 case body=>
  rintro l' bb pre x W3 hb hbW ⟨hv,hB⟩ hpre;have hl:pre.length+1<=64:=by have:=hpre.length_le;simp at this;omega
  have q1:=hv.cell;have q2:=hv.frozen;have i3:IntKind.i64.wrap ((pre.length:Int)+1)=(pre.length:Int)+1:=by rw[IntKind.wrap_i64];omega
  have HV:=hid (And.intro hv hB);clear hpre hw2 y2 t2 hv hB;gi_wp2;refine⟨Kpt.trn (Trn.setCell (S:=fun x=>x=Wa.heap.size) W3 Wa.heap.size 0 _ rfl) hbW (fun m h1 h2 q=>by omega),?_,HV.out.2.setCell (p:=⟨Wa.heap.size,0,none⟩) (Nat.le_refl _) _⟩
  simpa using HV.out.1.set (.int .i64 ((pre.length:Int)+1))
 case done=>
  rintro D bb W3 hD1 hD2 hbW ⟨hv,hB⟩ hK;have HL3:=hid (HA.out.1.trn (Trn.below (S:=fun _=>False) hB) (fun _ _ q=>q));have HG3:=hid (HGc.out.below hB);have HV3:Hid (Boxed W3 Wa.heap.size 3 (.int .i64 (F.length:Int))/\Below Wa.heap.size Wa W3/\W3.heap[D]? =some (.deferred (some []))/\Wa.heap.size<=D):=⟨hv,hB,hK,by omega⟩;clear hw2 y2 t2 hv hB hK hz b2 kp k3 hbc hbc2 hp1c hp1d hD1 hD2 hbW HC;dsimp only;have B4:Below W3.heap.size W3 (W3.alloc (.cells #[.int .u64 (cA:Int),.int .u64 (cD:Int),.int .u64 (cR:Int),.int .u64 (cM:Int)] 130)):=bal _ _;have HL4:=hid (HL3.out.trn (Trn.below (S:=fun _=>False) B4) (fun _ _ q=>q));have HCT:=hid fun(U:World)(hU:U.heap=W3.heap)=>zLH U (show U.heap[Q]? =_/\_ by rw[hU];exact HG3.out.blk)
  have HEN:=hid (enters_of Tryz.func62 (by kernel_rfl) rfl);have hb3:=HL3.out.blk.lt;have hb3n:=Nat.ne_of_lt hb3;have hb3m:b≠W3.heap.size+1:=by omega
  have hb3l:b<W3.heap.size+1:=by omega
  have hp3:=HL3.out.b1.lt;have hp3n:=Nat.ne_of_lt hp3;have hp3m:p1≠W3.heap.size+1:=by omega
  have hp3l:p1<W3.heap.size+1:=by omega
  have kp:=HL3.out.b1.cell 0 _ rfl;have k1:=HL3.out.blk.cell 1 _ rfl;have k3:=HL3.out.blk.cell 3 _ rfl;obtain⟨i0,hi0,hz0,hz1,hz2⟩:=zEo Tryz.infoCo;have HOWA:=hid fun(u':World)(hu:u'.heap=((W3.alloc (.cells #[.int .u64 (cA:Int),.int .u64 (cD:Int),.int .u64 (cR:Int),.int .u64 (cM:Int)] 130)).alloc (.cells #[.int .u64 (cA:Int),.int .u64 (cD:Int),.int .u64 (cR:Int),.int .u64 (cM:Int)] 130)).heap)=>zCH (HL4.out.ct.alloc (.cells #[.int .u64 (cA:Int),.int .u64 (cD:Int),.int .u64 (cR:Int),.int .u64 (cM:Int)] 130)) (fun g _=>by rw[hu])
  have HNW:Hid (∀u':World,u'.heap=((W3.alloc (.cells #[.int .u64 (cA:Int),.int .u64 (cD:Int),.int .u64 (cR:Int),.int .u64 (cM:Int)] 130)).alloc (.cells #[.int .u64 (cA:Int),.int .u64 (cD:Int),.int .u64 (cR:Int),.int .u64 (cM:Int)] 130)).heap->∀(j:Nat) (y:Value),([.int .u64 (cA:Int),.int .u64 (cD:Int),.int .u64 (cR:Int),.int .u64 (cM:Int)]:List Value)[j]? =some y->u'.cell? ((⟨W3.heap.size+1,0,none⟩:Addr).add j)=some y):=fun u' hu=>by
   have q:=World.news_of_block (w:=u') (B:=(W3.alloc (.cells #[.int .u64 (cA:Int),.int .u64 (cD:Int),.int .u64 (cR:Int),.int .u64 (cM:Int)] 130)).heap.size) (cs:= #[.int .u64 (cA:Int),.int .u64 (cD:Int),.int .u64 (cR:Int),.int .u64 (cM:Int)]) (t:=130) (fr:=(0,0)) (by rw[hu];exact heap_alloc_new _ _);rw[World.size_alloc] at q;exact q
  have HAD:Hid (∀(u' w3:World) (gg cap':Nat),u'.heap=((W3.alloc (.cells #[.int .u64 (cA:Int),.int .u64 (cD:Int),.int .u64 (cR:Int),.int .u64 (cM:Int)] 130)).alloc (.cells #[.int .u64 (cA:Int),.int .u64 (cD:Int),.int .u64 (cR:Int),.int .u64 (cM:Int)] 130)).heap->u'.os=W3.os->u'.tape=W3.tape->u'.output=W3.output->u'.grownBy w3 (Value.slice pc n cc).ownBlock->((Value.slice pc n cc).ownBlock=some gg\/gg=W3.heap.size+1+1)->w3.ownsRow 0 130 4 (.slice (some ⟨gg,0,none⟩) (n+1) cap') (n+1) (ys++[.int .u64 (cA:Int),.int .u64 (cD:Int),.int .u64 (cR:Int),.int .u64 (cM:Int)])->_/\w3.cell? ⟨b,1,none⟩=some (.slice pc n cc)/\w3.frozen? ⟨b,1,none⟩=false/\(w3.cell? ⟨p1,0,none⟩=some (.pointer (some ⟨b,0,none⟩))/\w3.cell? ⟨b,3,none⟩=some (.pointer (some ⟨Q,0,none⟩)))/\∀x,(w3.setCell ⟨b,1,none⟩ x).cell? ⟨p1,0,none⟩=some (.pointer (some ⟨b,0,none⟩))/\(w3.setCell ⟨b,1,none⟩ x).cell? ⟨b,3,none⟩=some (.pointer (some ⟨Q,0,none⟩))):=fun u' w3 gg cap' q1 q2 q3 q4 q5 q6 q7=>(zEN HL4.out.blk rfl HL4.out.ct (by decide) q1 q2 q3 q4 q5 (by rw[World.size_alloc];exact q6) q7).imp id fun z=>by
   have y1:=HL4.out.b1.trn z.2.2 (zAx HL4.out.ct HL4.out.b1 (by decide));have y2:=HL4.out.blk.trn z.2.2 (zAx HL4.out.ct HL4.out.blk (by decide));exact⟨z.1,z.2.1,⟨y1.cell 0 _ rfl,y2.cell 3 _ rfl⟩,fun x=>⟨(World.cell?_setCell_far w3 ⟨b,1,none⟩ ⟨p1,0,none⟩ x hpb.symm).trans (y1.cell 0 _ rfl),(World.cell?_setCell_other w3 ⟨b,1,none⟩ ⟨b,3,none⟩ x (by simp)).trans (y2.cell 3 _ rfl)⟩⟩
  clear B4;go_upto_region 6 with fail
  go_cut [42] from 28 to 41 (fun _ w'=>∃gg cap',zBT w' Q K b lg p1 p2 sb odd (.slice (some ⟨g1,0,none⟩) (n+1) cap1) (.slice (some ⟨gg,0,none⟩) (n+1) cap') (.slice pf n cf) (n+1) (n+1) n (xs++[.int .u8 c,.int .u8 s,.int .u8 v,.bool kn,.bool ek]) (ys++[.int .u64 (cA:Int),.int .u64 (cD:Int),.int .u64 (cR:Int),.int .u64 (cM:Int)]) zs/\Trn (fun y=>y=b\/(Value.slice pc n cc).ownBlock=some y) W3 w'/\((Value.slice pc n cc).ownBlock=some gg\/W3.heap.size<=gg))
  case first=>
   refine zJZ ?_;refine wp_region_held_drew (S:=fun w'=>w'.cell? ⟨p1,0,none⟩=some (.pointer (some ⟨b,0,none⟩))/\w'.cell? ⟨b,3,none⟩=some (.pointer (some ⟨Q,0,none⟩))) (by kernel_rfl) (by go_keep) (fun hHeld=> ?_);refine tk 0 (v:= ?_) rfl (by kernel_rfl) (by rfl) (fun w hSw=> ?_) hHeld ?_
   rotate_left
   ·(try dsimp only at hSw);go_simp;try with_reducible rfl
   try simp only[pu,List.set,gz,gs]
   refine tk 1 (v:= ?_) rfl (by kernel_rfl) (by rfl) (fun w hSw=> ?_) hHeld ?_
   rotate_left
   ·(try dsimp only at hSw);go_simp;try with_reducible rfl
   try simp only[pu,List.set,gz,gs]
   refine tk 2 (v:= ?_) rfl (by kernel_rfl) (by rfl) (fun w hSw=> ?_) hHeld ?_
   rotate_left
   ·(try dsimp only at hSw);go_simp;try with_reducible rfl
   try simp only[pu,List.set,gz,gs]
   refine tk 3 (v:= ?_) rfl (by kernel_rfl) (by rfl) (fun w hSw=> ?_) hHeld ?_
   rotate_left
   ·(try dsimp only at hSw);go_simp;try with_reducible rfl
   try simp only[pu,List.set,gz,gs]
   refine tk 5 (v:= ?_) rfl (by kernel_rfl) (by rfl) (fun w hSw=> ?_) hHeld ?_
   rotate_left
   ·(try dsimp only at hSw);go_simp;try with_reducible rfl
   try simp only[pu,List.set,gz,gs]
   refine tk 6 (v:= ?_) rfl (by kernel_rfl) (by rfl) (fun w hSw=> ?_) hHeld ?_
   rotate_left
   ·(try dsimp only at hSw);go_simp;try with_reducible rfl
   try simp only[pu,List.set,gz,gs]
   refine tk 7 (v:= ?_) rfl (by kernel_rfl) (by rfl) (fun w hSw=> ?_) hHeld ?_
   rotate_left
   ·(try dsimp only at hSw);go_simp;try with_reducible rfl
   try simp only[pu,List.set,gz,gs]
   refine tk 8 (v:= ?_) rfl (by kernel_rfl) (by rfl) (fun w hSw=> ?_) hHeld ?_
   rotate_left
   ·(try dsimp only at hSw);go_simp;try with_reducible rfl
   try simp only[pu,List.set,gz,gs]
   refine wpAnyH_ready (rs:=[4,9]) (by kernel_rfl) (by simp) (AllReadyH.cons rfl (fun K hK=> ?_) (AllReadyH.cons rfl (fun K hK=> ?_) AllReadyH.nil))
   try simp only[gz,gs]
   go_simp;refine hK.out _ _ ?_ fun hHeld=> ?_
   ·exact hHeld
   clear hK
   try simp only[pu,List.set,gz,gs]
   refine rd 9 rfl (by kernel_rfl) fun K hK=> ?_
   refine zIS (by rfl) 62 (.tmp 36) #[118] (by rfl) (.pointer (some ⟨Q,0,none⟩)) (by rfl) HEN.out (HCT.out _ (by rfl)) ?_;refine hK.out _ _ ?_ fun hHeld=> ?_
   ·go_keep
   clear hK
   try simp only[pu,List.set,gz,gs]
   refine rd 10 rfl (by kernel_rfl) fun K hK=> ?_
   try simp only[gz,gs]
   go_simp;refine hK.out _ _ ?_ fun hHeld=> ?_
   ·go_keep
   clear hK
   try simp only[pu,List.set,gz,gs]
   rotate_left
   refine zIS (by rfl) 62 (.tmp 36) #[118] (by rfl) (.pointer (some ⟨Q,0,none⟩)) (by rfl) HEN.out (HCT.out _ (by rfl)) ?_;refine hK.out _ _ ?_ fun hHeld=> ?_
   ·go_keep
   clear hK
   try simp only[pu,List.set,gz,gs]
   refine wpAnyH_ready (rs:=[4,10]) (by kernel_rfl) (by simp) (AllReadyH.cons rfl (fun K hK=> ?_) (AllReadyH.cons rfl (fun K hK=> ?_) AllReadyH.nil))
   try simp only[gz,gs]
   go_simp;refine hK.out _ _ ?_ fun hHeld=> ?_
   ·exact hHeld
   clear hK
   try simp only[pu,List.set,gz,gs]
   refine rd 10 rfl (by kernel_rfl) fun K hK=> ?_
   try simp only[gz,gs]
   go_simp;refine hK.out _ _ ?_ fun hHeld=> ?_
   ·go_keep
   clear hK
   try simp only[pu,List.set,gz,gs]
   rotate_left
   try simp only[gz,gs]
   go_simp;refine hK.out _ _ ?_ fun hHeld=> ?_
   ·go_keep
   clear hK
   try simp only[pu,List.set,gz,gs]
   refine rd 4 rfl (by kernel_rfl) fun K hK=> ?_
   try simp only[gz,gs]
   go_simp;refine hK.out _ _ ?_ fun hHeld=> ?_
   ·exact hHeld
   clear hK
   try simp only[pu,List.set,gz,gs]
   all_goals
    refine rd 11 rfl (by kernel_rfl) fun K hK=> ?_
    refine step_append_lies _ (by rfl) _ _ _ (by rfl) 0 130 i0 _ 4 32 Tryz.underlying181 hi0 hz0 hz1 hz2 rfl (by decide) _ n ys (by rfl) (HOWA.out _ (by rfl)) ⟨W3.heap.size+1,0,none⟩ 1 1 [.int .u64 (cA:Int),.int .u64 (cD:Int),.int .u64 (cR:Int),.int .u64 (cM:Int)] (by rfl) (by rfl) (HNW.out _ (by rfl)) (by simp[Value.oneCell']) (by decide) (by unfold maxLen;omega) (by omega) (by omega) (W3.heap.size+1+1) (by simp) ?_;intro gg cap' w3 hown3 hgrow hat hlt3;have HA3:Hid _:=HAD.out _ _ _ _ (by rfl) (by rfl) (by rfl) (by rfl) hgrow hat hown3;clear hgrow hat hown3;have m0:=HA3.out.2.1;have g0:=HA3.out.2.2.1;refine hK.out _ _ ?_ fun hHeld=> ?_
    ·exact HA3.out.2.2.2.1
    clear hK
    try simp only[pu,List.set,gz,gs]
    refine tk 12 (v:= ?_) rfl (by kernel_rfl) (by rfl) (fun w hSw=> ?_) hHeld ?_
    rotate_left
    ·(try dsimp only at hSw);go_simp;try with_reducible rfl
    try simp only[pu,List.set,gz,gs]
    refine tk 13 (v:= ?_) rfl (by kernel_rfl) (by rfl) (fun w hSw=> ?_) hHeld ?_
    rotate_left
    ·(try dsimp only at hSw);go_simp;try with_reducible rfl
    try simp only[pu,List.set,gz,gs]
    refine rd 14 rfl (by kernel_rfl) fun K hK=> ?_
    try simp only[gz,gs]
    go_simp;refine hK.out _ _ ?_ fun hHeld=> ?_
    ·exact HA3.out.2.2.2.2 _
    clear hK
    try simp only[pu,List.set,gz,gs]
    refine wpAnyH_done (by kernel_rfl) ?_ _;go_wp2_with fail;go_meet;obtain⟨a1,a2,a3,a4⟩:=HA3.out.1;refine⟨_,_,(HL4.out.ct1 a1 a2 a3 (fun x q=> ?_)).1,(Trn.alloc _ _ _).trans a3 (fun _ _ q=>q),?_⟩
    ·obtain rfl:gg=x:=by simpa[Value.ownBlock] using q
     exact a4
    ·exact a4.imp id (fun q=>by rw[World.size_alloc] at q;omega)
  obtain⟨g2,cap2,hA4,hA5,hA6⟩:=hcut;obtain⟨Wb,rfl⟩:∃Wb,Wb=wc:=⟨_,rfl⟩;have ltA:∀x,zIR b p1 p2 sb (.slice (some ⟨g1,0,none⟩) (n+1) cap1) (.slice pc n cc) (.slice pf n cf) x->x<Wa.heap.size:=fun x q=>HA.out.1.lt x q
  obtain⟨x1,x2,x3,x4⟩:=HV3.out;have nbx:Boxed Wb Wa.heap.size 3 (.int .i64 (F.length:Int)):=hA5.keep (fun q=>by
   rcases q with q|q
   ·have:=ltA b (.inl (.inl rfl));omega
   ·have:=ltA _ (.inl (.inr (.inr (.inl q))));omega) x1
  have nD:Wb.heap[D]? =some (.deferred (some [])):=hA5.keep (fun q=>by
   rcases q with q|q
   ·have:=ltA b (.inl (.inl rfl));omega
   ·have:=ltA _ (.inl (.inr (.inr (.inl q))));omega) x3
  have HB:Hid (zBT Wb Q K b lg p1 p2 sb odd (.slice (some ⟨g1,0,none⟩) (n+1) cap1) (.slice (some ⟨g2,0,none⟩) (n+1) cap2) (.slice pf n cf) (n+1) (n+1) n (xs++[.int .u8 c,.int .u8 s,.int .u8 v,.bool kn,.bool ek]) (ys++[.int .u64 (cA:Int),.int .u64 (cD:Int),.int .u64 (cR:Int),.int .u64 (cM:Int)]) zs/\Trn (fun y=>y=b\/(Value.slice pc n cc).ownBlock=some y) W3 Wb/\((Value.slice pc n cc).ownBlock=some g2\/W3.heap.size<=g2)/\Boxed Wb Wa.heap.size 3 (.int .i64 (F.length:Int))/\Wb.heap[D]? =some (.deferred (some []))/\Below Wa.heap.size Wa W3/\Wa.heap.size<=D):=⟨hA4,hA5,hA6,nbx,nD,x2,x4⟩;have q4:=nbx.cell;have q4l:=nbx.lt;have q4n:=Nat.ne_of_lt q4l;have hb4:=hA4.blk.lt;have hb4n:=Nat.ne_of_lt hb4;have hp4:=hA4.b1.lt;have hp4n:=Nat.ne_of_lt hp4;have kp':=hA4.b1.cell 0 _ rfl;have k2:=hA4.blk.cell 2 _ rfl;have f2:=hA4.blk.frozen 2;clear hA4 hA5 hA6 nbx nD x1 x2 x3 x4 ltA HAD HNW HOWA HCT HEN kp k1 k3 i0 hi0 hz0 hz1 hz2 hb3 hb3n hb3m hb3l hp3 hp3n hp3m hp3l;obtain⟨i0,hi0,hz0,hz1,hz2⟩:=zEo Tryz.infoIn;have HOWA:=hid fun(u':World)(hu:u'.heap=(Wb.alloc (.cells #[.int .i64 (F.length:Int)] 3)).heap)=>zCH (HB.out.1.fl.alloc (.cells #[.int .i64 (F.length:Int)] 3)) (fun g _=>by rw[hu])
  have HNW:=hid fun(u':World)(hu:u'.heap=(Wb.alloc (.cells #[.int .i64 (F.length:Int)] 3)).heap)=>World.news_of_block (w:=u') (cs:= #[.int .i64 (F.length:Int)]) (t:=3) (fr:=(0,0)) (by rw[hu];exact heap_alloc_new Wb _)
  have HAD:Hid (∀(u' w3:World) (gg cap':Nat),u'.heap=(Wb.alloc (.cells #[.int .i64 (F.length:Int)] 3)).heap->u'.os=Wb.os->u'.tape=Wb.tape->u'.output=Wb.output->u'.grownBy w3 (Value.slice pf n cf).ownBlock->((Value.slice pf n cf).ownBlock=some gg\/gg=Wb.heap.size+1)->w3.ownsRow 0 3 1 (.slice (some ⟨gg,0,none⟩) (n+1) cap') (n+1) (zs++[.int .i64 (F.length:Int)])->_/\w3.cell? ⟨b,2,none⟩=some (.slice pf n cf)/\w3.frozen? ⟨b,2,none⟩=false/\(w3.cell? ⟨p1,0,none⟩=some (.pointer (some ⟨b,0,none⟩))/\w3.cell? ⟨Wa.heap.size,0,none⟩=some (.int .i64 (F.length:Int)))/\∀x,(w3.setCell ⟨b,2,none⟩ x).cell? ⟨p1,0,none⟩=some (.pointer (some ⟨b,0,none⟩))/\(w3.setCell ⟨b,2,none⟩ x).cell? ⟨Wa.heap.size,0,none⟩=some (.int .i64 (F.length:Int))):=fun u' w3 gg cap' q1 q2 q3 q4 q5 q6 q7=>(zEN HB.out.1.blk rfl HB.out.1.fl (by decide) q1 q2 q3 q4 q5 q6 q7).imp id fun z=>by
   have y1:=HB.out.1.b1.trn z.2.2 (zAx HB.out.1.fl HB.out.1.b1 (by decide));have y2:Boxed w3 Wa.heap.size 3 (.int .i64 (F.length:Int)):=z.2.2.keep (fun q=>by have:=HA.out.1.lt _ (.inl (.inr (.inr (.inr q))));omega) HB.out.2.2.2.1;exact⟨z.1,z.2.1,⟨y1.cell 0 _ rfl,y2.cell⟩,fun x=>⟨(World.cell?_setCell_far w3 ⟨b,2,none⟩ ⟨p1,0,none⟩ x hpb.symm).trans (y1.cell 0 _ rfl),(World.cell?_setCell_far w3 ⟨b,2,none⟩ ⟨Wa.heap.size,0,none⟩ x (by have:=HA.out.1.lt b (.inl (.inl rfl));show b≠Wa.heap.size;omega)).trans y2.cell⟩⟩
  go_upto_region 7 with fail
  go_cut [52] from 42 to 51 (fun _ w'=>∃gg cap',zBT w' Q K b lg p1 p2 sb odd (.slice (some ⟨g1,0,none⟩) (n+1) cap1) (.slice (some ⟨g2,0,none⟩) (n+1) cap2) (.slice (some ⟨gg,0,none⟩) (n+1) cap') (n+1) (n+1) (n+1) (xs++[.int .u8 c,.int .u8 s,.int .u8 v,.bool kn,.bool ek]) (ys++[.int .u64 (cA:Int),.int .u64 (cD:Int),.int .u64 (cR:Int),.int .u64 (cM:Int)]) (zs++[.int .i64 (F.length:Int)])/\Trn (fun y=>y=b\/(Value.slice pf n cf).ownBlock=some y) Wb w'/\((Value.slice pf n cf).ownBlock=some gg\/Wb.heap.size<=gg))
  case first=>
   refine zJZ ?_;refine wp_region_held_drew (S:=fun w'=>w'.cell? ⟨p1,0,none⟩=some (.pointer (some ⟨b,0,none⟩))/\w'.cell? ⟨Wa.heap.size,0,none⟩=some (.int .i64 (F.length:Int))) (by kernel_rfl) (by go_keep) (fun hHeld=> ?_);refine tk 0 (v:= ?_) rfl (by kernel_rfl) (by rfl) (fun w hSw=> ?_) hHeld ?_
   rotate_left
   ·(try dsimp only at hSw);go_simp;try with_reducible rfl
   try simp only[pu,List.set,gz,gs]
   refine tk 1 (v:= ?_) rfl (by kernel_rfl) (by rfl) (fun w hSw=> ?_) hHeld ?_
   rotate_left
   ·(try dsimp only at hSw);go_simp;try with_reducible rfl
   try simp only[pu,List.set,gz,gs]
   refine tk 2 (v:= ?_) rfl (by kernel_rfl) (by rfl) (fun w hSw=> ?_) hHeld ?_
   rotate_left
   ·(try dsimp only at hSw);go_simp;try with_reducible rfl
   try simp only[pu,List.set,gz,gs]
   refine tk 3 (v:= ?_) rfl (by kernel_rfl) (by rfl) (fun w hSw=> ?_) hHeld ?_
   rotate_left
   ·(try dsimp only at hSw);go_simp;try with_reducible rfl
   try simp only[pu,List.set,gz,gs]
   refine tk 5 (v:= ?_) rfl (by kernel_rfl) (by rfl) (fun w hSw=> ?_) hHeld ?_
   rotate_left
   ·(try dsimp only at hSw);go_simp;try with_reducible rfl
   try simp only[pu,List.set,gz,gs]
   refine wpAnyH_ready (rs:=[4,6]) (by kernel_rfl) (by simp) (AllReadyH.cons rfl (fun K hK=> ?_) (AllReadyH.cons rfl (fun K hK=> ?_) AllReadyH.nil))
   try simp only[gz,gs]
   go_simp;refine hK.out _ _ ?_ fun hHeld=> ?_
   ·exact hHeld
   clear hK
   try simp only[pu,List.set,gz,gs]
   refine rd 6 rfl (by kernel_rfl) fun K hK=> ?_
   try simp only[gz,gs]
   go_simp;refine hK.out _ _ ?_ fun hHeld=> ?_
   ·go_keep
   clear hK
   try simp only[pu,List.set,gz,gs]
   rotate_left
   try simp only[gz,gs]
   go_simp;refine hK.out _ _ ?_ fun hHeld=> ?_
   ·go_keep
   clear hK
   try simp only[pu,List.set,gz,gs]
   refine rd 4 rfl (by kernel_rfl) fun K hK=> ?_
   try simp only[gz,gs]
   go_simp;refine hK.out _ _ ?_ fun hHeld=> ?_
   ·exact hHeld
   clear hK
   try simp only[pu,List.set,gz,gs]
   all_goals
    refine rd 7 rfl (by kernel_rfl) fun K hK=> ?_
    refine step_append_lies _ (by rfl) _ _ _ (by rfl) 0 3 i0 _ 1 8 Tryz.underlying107 hi0 hz0 hz1 hz2 rfl (by decide) _ n zs (by rfl) (HOWA.out _ (by rfl)) ⟨Wb.heap.size,0,none⟩ 1 1 [.int .i64 (F.length:Int)] (by rfl) (by rfl) (HNW.out _ (by rfl)) (by simp[Value.oneCell']) (by decide) (by unfold maxLen;omega) (by omega) (by omega) (Wb.heap.size+1) (by simp) ?_;intro gg cap' w3 hown3 hgrow hat hlt3;have HA3:Hid _:=HAD.out _ _ _ _ (by rfl) (by rfl) (by rfl) (by rfl) hgrow hat hown3;clear hgrow hat hown3;have m0:=HA3.out.2.1;have g0:=HA3.out.2.2.1;refine hK.out _ _ ?_ fun hHeld=> ?_
    ·exact HA3.out.2.2.2.1
    clear hK
    try simp only[pu,List.set,gz,gs]
    refine tk 8 (v:= ?_) rfl (by kernel_rfl) (by rfl) (fun w hSw=> ?_) hHeld ?_
    rotate_left
    ·(try dsimp only at hSw);go_simp;try with_reducible rfl
    try simp only[pu,List.set,gz,gs]
    refine tk 9 (v:= ?_) rfl (by kernel_rfl) (by rfl) (fun w hSw=> ?_) hHeld ?_
    rotate_left
    ·(try dsimp only at hSw);go_simp;try with_reducible rfl
    try simp only[pu,List.set,gz,gs]
    refine rd 10 rfl (by kernel_rfl) fun K hK=> ?_
    try simp only[gz,gs]
    go_simp;refine hK.out _ _ ?_ fun hHeld=> ?_
    ·exact HA3.out.2.2.2.2 _
    clear hK
    try simp only[pu,List.set,gz,gs]
    refine wpAnyH_done (by kernel_rfl) ?_ _;go_wp2_with fail;go_meet;obtain⟨a1,a2,a3,a4⟩:=HA3.out.1;exact⟨_,_,(HB.out.1.fl1 a1 a2 a3 (fun x q=>by
     obtain rfl:gg=x:=by simpa[Value.ownBlock] using q
     exact a4)).1,a3,a4⟩
  obtain⟨g3,cap3,hA7,hA8,hA9⟩:=hcut;obtain⟨Wd,rfl⟩:∃Wd,Wd=wc:=⟨_,rfl⟩;have nD:Wd.heap[D]? =some (.deferred (some [])):=hA8.keep (fun q=>by
   have h9:=HB.out.2.2.2.2.2.2;rcases q with q|q
   ·have:=HA.out.1.lt b (.inl (.inl rfl));omega
   ·have:=HA.out.1.lt _ (.inl (.inr (.inr (.inr q))));omega) HB.out.2.2.2.2.1
  have HF:Hid (∀e:Ending,(e= .returned (.tuple #[])\/∃x,e= .panicked [{v:=x,recovered:=false}])->(e= .returned (.tuple #[])\/∃x,e= .panicked [{v:=x,recovered:=false}])/\∃ve' vc' vf',zBT (Wd.putObj D (.deferred none)) Q K b lg p1 p2 sb odd ve' vc' vf' (n+1) (n+1) (n+1) (xs++[.int .u8 c,.int .u8 s,.int .u8 v,.bool kn,.bool ek]) (ys++[.int .u64 (cA:Int),.int .u64 (cD:Int),.int .u64 (cR:Int),.int .u64 (cM:Int)]) (zs++[.int .i64 (F.length:Int)])/\Trn (zDL b (.slice pe n ce) (.slice pc n cc) (.slice pf n cf)) W (Wd.putObj D (.deferred none))/\∀x,zDL b ve' vc' vf' x->zDL b (.slice pe n ce) (.slice pc n cc) (.slice pf n cf) x\/W.heap.size<=x):=fun e he=>by
   obtain⟨c1,c2,c3,c4,c5,c6,c7⟩:=HB.out;have tD:Trn (fun x=>x=D) Wd (Wd.putObj D (.deferred none)):=Trn.put _ _ _ rfl;have sa:=HTa.out.1.size;have sb':=c6.size;have sc:=c2.size;refine⟨he,(.slice (some ⟨g1,0,none⟩) (n+1) cap1),(.slice (some ⟨g2,0,none⟩) (n+1) cap2),(.slice (some ⟨g3,0,none⟩) (n+1) cap3),hA7.trn tD (fun x q e=> ?_),?_,fun x q=> ?_⟩
   ·subst e
    obtain⟨cs,t,fr,hc⟩:=hA7.cells x q;rw[nD] at hc;cases hc
   ·refine(((HTa.out.1.trans (Trn.below c6) (fun _ _ q=>q)).trans (c2.mono (fun x _ q=>q)) (fun x _ q=> ?_)).trans hA8 (fun x _ q=> ?_)).trans tD (fun x hx q=>by omega)
    ·exact q.imp id (fun q=> .inr (.inl q))
    ·exact q.imp id (fun q=> .inr (.inr q))
   ·rcases q with q|q|q|q
    ·exact .inl (.inl q)
    ·exact HTa.out.2 x (.inr (.inl q))
    ·obtain rfl:g2=x:=by simpa[Value.ownBlock] using q
     rcases c3 with z|z
     ·exact .inl (.inr (.inr (.inl z)))
     ·exact .inr (by omega)
    ·obtain rfl:g3=x:=by simpa[Value.ownBlock] using q
     rcases hA9 with z|z
     ·exact .inl (.inr (.inr (.inr z)))
     ·exact .inr (by omega)
  have HD:=hid nD;have m0:=hA7.b2.cell 0 _ rfl;have m1:=hA7.b1.cell 0 _ rfl;have m2:=hA7.blk.cell 0 _ rfl;clear hA7 hA8 hA9 nD HAD HNW HOWA kp' k2 f2 q4 q4l q4n hb4 hb4n hp4 hp4n i0 hi0 hz0 hz1 hz2;cases odd with
  |false=>
   go_wp2_with fail;refine⟨by simp,.inl ⟨_,_,rfl,run_takeDeferred HD.out,?_⟩⟩;exact⟨_,results_none rfl _ _ _,HF.out _ (.inl rfl)⟩
  |true=>
   go_wp2_with fail
   all_goals refine⟨by simp,.inl ⟨_,_,rfl,run_takeDeferred HD.out,?_⟩⟩
   ·exact HF.out _ (.inr ⟨_,rfl⟩)
   ·exact⟨_,results_none rfl _ _ _,HF.out _ (.inl rfl)⟩
end
end Go.Proofs.YtclpnafiiobfhaaGreatDoor
namespace Go.Proofs.YtclpnafiiobfhaaGreatDoor
open Go.RowKit
section
variable {Q K : Nat} {O : Nat → Prop} {lg cv : Value} {R : Option Bk} {room now births : Nat} {F : List Fl} {cA cD cR cM : Nat} {b p1 p2 sb : Nat} {odd : Bool} {ve vc vf : Value} {n : Nat} {xs ys zs : List Value}
theorem zNt (W:World) (hg:zAa W Q K O lg cv R room now births F cA cD cR cM) (hb:zBT W Q K b lg p1 p2 sb odd ve vc vf n n n xs ys zs) (hap:∀x,zIR b p1 p2 sb ve vc vf x->¬(x=Q\/O x\/cv.ownBlock=some x)) (hn:n<=1000000) (c s v:Int) (kn ek:Bool):
 Calls Tryz.prog 111 #[.pointer (some ⟨Q,0,none⟩),.agg #[.int .u8 c,.int .u8 s,.int .u8 v,.bool kn,.bool ek]] W fun e w'=>e= .returned (.tuple #[])/\∃ve' vc' vf',zBT w' Q K b lg p1 p2 sb odd ve' vc' vf' (n+1) (n+1) (n+1) (xs++[.int .u8 c,.int .u8 s,.int .u8 v,.bool kn,.bool ek]) (ys++[.int .u64 (cA:Int),.int .u64 (cD:Int),.int .u64 (cR:Int),.int .u64 (cM:Int)]) (zs++[.int .i64 (F.length:Int)])/\Trn (zDL b ve vc vf) W w'/\∀x,zDL b ve' vc' vf' x->zDL b ve vc vf x\/W.heap.size<=x:=by
 obtain⟨W1,hW1⟩:∃W1,W.alloc (.cells #[.int .u8 c,.int .u8 s,.int .u8 v,.bool kn,.bool ek] 188)=W1:=⟨_,rfl⟩;have B1:Below W.heap.size W W1:=by rw[<-hW1];exact bal _ _
 have HLG:=hid fun(U:World)(hU:Below W.heap.size W U)=>zQy U (hg.below hU) (hb.trn (Trn.below (S:=fun _=>False) hU) (fun _ _ q=>q)) hap hn c s v kn ek
 have E1:Blk 188 W1 W.heap.size [.int .u8 c,.int .u8 s,.int .u8 v,.bool kn,.bool ek]:=by rw[<-hW1];exact Blk.made W _ [.int .u8 c,.int .u8 s,.int .u8 v,.bool kn,.bool ek] (zAF rfl)
 have c6:=(hg.blk.below B1 hg.blk.lt).cell 6 _ rfl;have HW1:=hid hW1;have HB1:=hid B1;have e0:=E1.cell 0 _ rfl;have e1:=E1.cell 1 _ rfl;have e2:=E1.cell 2 _ rfl;have e3:=E1.cell 3 _ rfl;have e4:=E1.cell 4 _ rfl;have hlg:=hb.log;subst hlg;have heq:=zHA (.func 107) #[] #[.pointer (some ⟨p1,0,none⟩),.pointer (some ⟨p2,0,none⟩)];have hmf:∀(fn:Fn) (first cap:Array Value) (w:World),(Instr.makeFunc fn first cap).run Tryz.prog w= .ok (.func fn first cap) w:=fun _ _ _ _=>rfl
 clear hg hb hap hn hW1 B1 E1;go_enter_defers Tryz.func111,Tryz.ntmps111;go_upto_region 1 with fail
 rw[HW1.out];go_upto_region 3 with fail
 obtain⟨PW,hPW⟩:∃PW:World->Prop,PW=fun w'=>(∃ve' vc' vf',zBT w' Q K b (.func (.func 107) #[] #[.pointer (some ⟨p1,0,none⟩),.pointer (some ⟨p2,0,none⟩)]) p1 p2 sb odd ve' vc' vf' (n+1) (n+1) (n+1) (xs++[.int .u8 c,.int .u8 s,.int .u8 v,.bool kn,.bool ek]) (ys++[.int .u64 (cA:Int),.int .u64 (cD:Int),.int .u64 (cR:Int),.int .u64 (cM:Int)]) (zs++[.int .i64 (F.length:Int)])/\Trn (zDL b ve vc vf) W w'/\∀x,zDL b ve' vc' vf' x->zDL b ve vc vf x\/W.heap.size<=x):=⟨_,rfl⟩
 have HPW:Hid (∀w',PW w'=(∃ve' vc' vf',zBT w' Q K b (.func (.func 107) #[] #[.pointer (some ⟨p1,0,none⟩),.pointer (some ⟨p2,0,none⟩)]) p1 p2 sb odd ve' vc' vf' (n+1) (n+1) (n+1) (xs++[.int .u8 c,.int .u8 s,.int .u8 v,.bool kn,.bool ek]) (ys++[.int .u64 (cA:Int),.int .u64 (cD:Int),.int .u64 (cR:Int),.int .u64 (cM:Int)]) (zs++[.int .i64 (F.length:Int)])/\Trn (zDL b ve vc vf) W w'/\∀x,zDL b ve' vc' vf' x->zDL b ve vc vf x\/W.heap.size<=x)):=fun w'=>by rw[hPW]
 have HLW:Hid (∀U:World,Below W1.heap.size W1 U->Calls Tryz.prog 107 #[.agg #[.int .u8 c,.int .u8 s,.int .u8 v,.bool kn,.bool ek],.pointer (some ⟨p1,0,none⟩),.pointer (some ⟨p2,0,none⟩)] U fun e w'=>(e= .returned (.tuple #[])\/∃x,e= .panicked [{v:=x,recovered:=false}])/\PW w'):=fun U hU=>by
  have b1:=HB1.out.trans (hU.mono HB1.out.size);refine(HLG.out U b1).mono fun e w' z=>⟨z.1,?_⟩
  rw[HPW.out];obtain⟨ve',vc',vf',q1,q2,q3⟩:=z.2;exact⟨ve',vc',vf',q1,(Trn.below b1).trans q2 (fun _ _ q=>q),fun x q=>(q3 x q).imp id (fun z=>Nat.le_trans b1.size z)⟩
 clear hPW HLG;refine wp_mono (Q:=fun e a w=>(match e with
  | .normal=>True
  | .panic ch=>∃x,ch=[{v:=x,recovered:=false}]
  |_=>False)/\a.defers=[{target:= .fn (.func 131) #[],args:= #[]}]/\PW w) ?_ (fun e a w h=> ?_)
 ·go_region_with ((go_at_call 107;refine(HLW.out _ (Below.refl _ _).drew).mono ?_;rintro e w5 ⟨he,h5⟩;rcases he with rfl|⟨x,rfl⟩;rotate_left;exact⟨⟨x,rfl⟩,h5⟩))
  all_goals exact⟨trivial,rfl,h5⟩
 ·obtain⟨h1,h2,h3⟩:=h
  rw[HPW.out] at h3;cases e with
  |normal=>
   show Leaves _ _ _ _ _ _ _
   rw[h2];refine leaves_cons (f:=131) (args:= #[]) (by simp) (by simp[go_sem]) ?_;refine(zNr w).mono ?_;rintro e' u' w' ⟨rfl,rfl,rfl⟩;exact⟨_,results_none rfl _ _ _,rfl,h3⟩
  |panic ch=>
   obtain⟨x,rfl⟩:=h1
   show Leaves _ _ _ _ _ _ _
   rw[h2];refine leaves_cons (f:=131) (args:= #[]) (by simp) (by simp[go_sem]) ?_;refine(zNq x [] w).mono ?_;rintro e' u' w' ⟨rfl,rfl,rfl⟩;exact⟨_,results_none rfl _ _ _,rfl,h3⟩
  |_=>exact h1.elim
end
end Go.Proofs.YtclpnafiiobfhaaGreatDoor
namespace Go.Proofs.YtclpnafiiobfhaaGreatDoor
open Go.RowKit Go.Shelf
theorem zPP {W w1:World} {c1 c2 b g' cap' n cc:Nat} {p:Option Addr} {x:Value} {o o':Obj} {xs ws:List Value} (h1:Boxed W c1 128 (.slice p n cc)) (h2:Boxed W c2 3 x) (hrow:W.ownsRow b 197 8 (.slice p n cc) n xs) (hown':w1.ownsRow b 197 8 (.slice (some ⟨g',0,none⟩) (n+1) cap') (n+1) ws) (hgrow:((W.alloc o).alloc o').grownBy w1 (Value.slice p n cc).ownBlock):
 (Boxed (w1.setCell ⟨c1,0,none⟩ (.slice (some ⟨g',0,none⟩) (n+1) cap')) c1 128 (.slice (some ⟨g',0,none⟩) (n+1) cap')/\(w1.setCell ⟨c1,0,none⟩ (.slice (some ⟨g',0,none⟩) (n+1) cap')).ownsRow b 197 8 (.slice (some ⟨g',0,none⟩) (n+1) cap') (n+1) ws/\Trn (fun x=>x=c1\/b<=x) W (w1.setCell ⟨c1,0,none⟩ (.slice (some ⟨g',0,none⟩) (n+1) cap')))/\w1.cell? ⟨c1,0,none⟩=some (.slice p n cc)/\w1.frozen? ⟨c1,0,none⟩=false/\w1.cell? ⟨c2,0,none⟩=some x/\c1≠c2:=by
 obtain⟨q1,q2,q3,q4⟩:=zIB (h1.alloc o) (by decide) (hrow.alloc o) hown' hgrow;refine⟨⟨q2,q3,(Trn.alloc _ _ _).trans q4 (fun _ _ q=>q)⟩,q1.cell,q1.frozen,(((h2.alloc o).alloc o').kept hgrow (((h2.alloc o).alloc o').not_row (by decide) ((hrow.alloc o).alloc o'))).cell,fun e=> ?_⟩;subst e;have q:=(show W.heap[c1]? =_ from h1).symm.trans h2;simp only[Option.some.injEq,Obj.cells.injEq] at q;exact absurd q.2.1 (by decide)
theorem zNu {c1 c2 c3 b:Nat} {v:Value} {pre:List Fl} {most:Int} (W:World) (x:Fl) (h1:Boxed W c1 128 v) (hrow:W.ownsRow b 197 8 v pre.length (zAV pre)) (h2:Boxed W c2 3 (.int .i64 most)) (hne:(pre.length:Int)≠most) (hl:pre.length+1<=64) (hbW:b<=W.heap.size):
 Calls Tryz.prog 117 #[.agg x.cells,.pointer (some ⟨c1,0,none⟩),.pointer (some ⟨c2,0,none⟩),.pointer (some ⟨c3,0,none⟩)] W fun e W'=>e= .returned (.bool ((pre.length:Int)+1 !=most))/\∃v',Boxed W' c1 128 v'/\W'.ownsRow b 197 8 v' (pre++[x]).length (zAV (pre++[x]))/\Trn (fun m=>m=c1\/b<=m) W W':=by
 obtain⟨x1,x2,x3,x4,x5,x6,x7,x8⟩:=x;obtain⟨p,cc,hv0⟩:=zAn hrow;subst hv0;have HX:Hid (zAV (pre++[⟨x1,x2,x3,x4,x5,x6,x7,x8⟩])=zAV pre++[.int .u32 x1,.int .u32 x2,.int .u8 x3,.int .u16 x4,.int .u16 x5,.bool x6,.bool x7,.int .u64 (x8:Int)]):=zFa _ _;obtain⟨i0,hi0,hz0,hz1,hz2⟩:=zEo Tryz.infoFl;dsimp only[Fl.cells];have t1:((pre.length:Int) == most)=false:=by simpa using hne
 have q1:=h1.cell;have q2:=h2.cell;have hc1:=h1.lt;have hc2:=h2.lt;have hn1:c1≠W.heap.size:=Nat.ne_of_lt hc1;have hn2:c2≠W.heap.size:=Nat.ne_of_lt hc2;have HCN:Hid (∀(j:Nat) (u:Value),([.int .u32 x1,.int .u32 x2,.int .u8 x3,.int .u16 x4,.int .u16 x5,.bool x6,.bool x7,.int .u64 (x8:Int)]:List Value)[j]? =some u->((W.alloc (.cells #[.int .u32 x1,.int .u32 x2,.int .u8 x3,.int .u16 x4,.int .u16 x5,.bool x6,.bool x7,.int .u64 (x8:Int)] 197)).alloc (.cells #[.int .u32 x1,.int .u32 x2,.int .u8 x3,.int .u16 x4,.int .u16 x5,.bool x6,.bool x7,.int .u64 (x8:Int)] 197)).cell? ((⟨W.heap.size+1,0,none⟩:Addr).add j)=some u):=fun j u h=>by
  have q:=zFb (W.alloc (.cells #[.int .u32 x1,.int .u32 x2,.int .u8 x3,.int .u16 x4,.int .u16 x5,.bool x6,.bool x7,.int .u64 (x8:Int)] 197)) [.int .u32 x1,.int .u32 x2,.int .u8 x3,.int .u16 x4,.int .u16 x5,.bool x6,.bool x7,.int .u64 (x8:Int)] 197 j u h
  rwa [World.size_alloc] at q
 go_enter Tryz.func117,Tryz.ntmps117;go_wp2_with (at_builtin;refine wpList_append_own _ rfl _ _ 128 rfl b 197 i0 _ 8 24 Tryz.underlying128 hi0 hz0 hz1 hz2 rfl (by decide) _ _ _ rfl ((hrow.alloc _).alloc _) ⟨W.heap.size+1,0,none⟩ 1 1 [.int .u32 x1,.int .u32 x2,.int .u8 x3,.int .u16 x4,.int .u16 x5,.bool x6,.bool x7,.int .u64 (x8:Int)] rfl rfl HCN.out (by simp[Value.oneCell']) (by unfold maxLen;omega) (by omega) (by simp;omega) ?_;intro v' w1 hown' hgrow _;obtain⟨g',cap',rfl⟩:=ownsRow_succ hown';have HA:Hid ((_/\_)/\w1.cell? ⟨c1,0,none⟩=some (.slice p pre.length cc)/\w1.frozen? ⟨c1,0,none⟩=false/\w1.cell? ⟨c2,0,none⟩=some (.int .i64 most)/\c1≠c2):=zPP h1 h2 hrow hown' hgrow;clear hgrow hown';have hc1':=HA.out.2.1;have hf1':=HA.out.2.2.1;have hm1:=HA.out.2.2.2.1;have hne12:=HA.out.2.2.2.2);go_ret;refine⟨rfl,_,HA.out.1.1,?_,HA.out.1.2.2⟩;rw[HX.out,List.length_append];exact HA.out.1.2.1
def zFk (most:Int) (F:List Fl):List Fl:=if 0<=most/\most<(F.length:Int) then F.take most.toNat else F
theorem zPQ {most:Int} {F pre:List Fl} (h:pre<+:F) (hl:(pre.length:Int)=most):zFk most F=pre:=by
 obtain⟨r,rfl⟩:=h;unfold zFk
 split
 ·have:most.toNat=pre.length:=by omega
  rw[this,List.take_left]
 ·rename_i q
  rw[List.length_append] at q;have:r.length=0:=by omega
  rw[List.length_eq_zero_iff.1 this,List.append_nil]
theorem zPR {most:Int} {F:List Fl} (h:∀k:Nat,k<=F.length->(k:Int)≠most):zFk most F=F:=by
 unfold zFk
 split
 ·rename_i q
  exact absurd (h most.toNat (by omega)) (by omega)
 ·rfl
theorem zQz {most:Int} {F:List Fl} {r:Nat} {x:Fl} (h:(zFk most F)[r]? =some x):F[r]? =some x:=by
 unfold zFk at h
 split at h
 ·rw[List.getElem?_take] at h
  split at h
  ·exact h
  ·cases h
 ·exact h
section
variable {Q K : Nat} {O : Nat → Prop} {lg cv : Value} {R : Option Bk} {room now births : Nat} {F : List Fl} {cA cD cR cM : Nat} {b p1 p2 sb : Nat} {odd : Bool} {ve vc vf : Value} {n : Nat} {xs ys zs : List Value}
theorem zIT {B c1 c2 c3:Nat} {most:Int} (w:World) (h:Kps w O K room now births F) (hF:F.length<=64) (hB:w.cell? ⟨B,0,none⟩=some (.pointer (some ⟨K,0,none⟩))) (hBl:B<w.heap.size) (h0:most≠0) (h1:Boxed w c1 128 (.slice none 0 0)) (h2:Boxed w c2 3 (.int .i64 most)) (h3:Boxed w c3 4 (.bool false)):
 Calls Tryz.prog 144 #[.func (.func 117) #[] #[.pointer (some ⟨c1,0,none⟩),.pointer (some ⟨c2,0,none⟩),.pointer (some ⟨c3,0,none⟩)],.pointer (some ⟨B,0,none⟩)] w fun e W'=>(∃v,e= .returned v)/\∃v,Boxed W' c1 128 v/\Boxed W' c3 4 (.bool false)/\W'.ownsRow w.heap.size 197 8 v (zFk most F).length (zAV (zFk most F))/\Trn (fun x=>x=c1) w W':=by
 have l1:=h1.lt;have l2:=h2.lt;have l3:=h3.lt;have n12:c2≠c1:=fun e=>by
  subst e;have q:=(show w.heap[c2]? =_ from h1).symm.trans h2;simp only[Option.some.injEq,Obj.cells.injEq] at q;exact absurd q.2.1 (by decide)
 have n13:c3≠c1:=fun e=>by
  subst e;have q:=(show w.heap[c3]? =_ from h1).symm.trans h3;simp only[Option.some.injEq,Obj.cells.injEq] at q;exact absurd q.2.1 (by decide)
 obtain⟨J,hJ⟩:∃J:Nat->List Fl->World->Prop,J=fun b pre W=>∃v,Boxed W c1 128 v/\W.ownsRow b 197 8 v pre.length (zAV pre)/\Trn (fun x=>x=c1) w W/\w.heap.size<=b:=⟨_,rfl⟩
 have kp:∀b pre A B,J b pre A->Trn (Btw w.heap.size b) A B->J b pre B:=fun b pre A B h t=>by
  rw[hJ] at h ⊢;obtain⟨v,q1,q2,q3,q4⟩:=h;exact⟨v,t.keep (fun q=>by have:=q.1;omega) q1,zFe q2 t (fun m hm q=>by have:=q.2;omega),q3.trans (t.mono (fun m _ q=>q)) (fun m hm q=>by have:=q.1;omega),q4⟩
 refine(zJY w h hB hBl (fun b pre W=>J b pre W/\∀k:Nat,k<=pre.length->(k:Int)≠most) (fun b pre W=>J b pre W/\(pre.length:Int)=most) (fun b W2 e1 e2 e3=>⟨?_,fun k hk=> ?_⟩) (fun b pre A B h t=>⟨kp b pre A B h.1 t,h.2⟩) (fun b pre A B h t=>⟨kp b pre A B h.1 t,h.2⟩) (fun b pre x A e1 e2 h hp=> ?_)).mono fun e W' z=> ?_
 ·rw[hJ]
  exact⟨_,(e3.block c1 l1).trans h1,World.ownsRow_nil _ _ _ _,Trn.below e3,e1⟩
 ·have:k=0:=by simpa using hk
  omega
 ·obtain⟨hj,hk⟩:=h
  rw[hJ] at hj;obtain⟨v,q1,q2,q3,q4⟩:=hj;have hl:pre.length+1<=64:=by have:=hp.length_le;simp at this;omega
  refine(zNu A x q1 q2 (q3.keep n12 h2) (hk _ (Nat.le_refl _)) hl e2).mono fun e A' z=> ?_
  obtain⟨e5,v',r1,r2,r3⟩:=z;have hj':J b (pre++[x]) A':=by
   rw[hJ];exact⟨v',r1,r2,q3.trans (r3.mono (fun m _ q=>q)) (fun m hm q=>by
    rcases q with q|q
    ·exact q
    ·omega),q4⟩
  have hkp:Kpt w.heap.size b A A':=Kpt.trn r3 e2 (fun m m1 m2 q=>by omega)
  by_cases hm:(pre.length:Int)+1=most
  ·exact .inr ⟨by rw[e5];simp[hm],⟨hj',by simp;exact hm⟩,hkp⟩
  ·refine .inl ⟨by rw[e5];simp[hm],⟨hj',fun k h=> ?_⟩,hkp⟩
   rw[List.length_append] at h;simp only[List.length_cons,List.length_nil] at h
   by_cases e:k=pre.length+1
   ·subst e;exact hm
   ·exact hk k (by omega)
 ·obtain⟨ev,b,b1,b2,hz⟩:=z
  have fin:∀pre,J b pre W'->zFk most F=pre->∃v,Boxed W' c1 128 v/\Boxed W' c3 4 (.bool false)/\W'.ownsRow w.heap.size 197 8 v (zFk most F).length (zAV (zFk most F))/\Trn (fun x=>x=c1) w W':=fun pre hj hc=>by
   rw[hJ] at hj;obtain⟨v,q1,q2,q3,q4⟩:=hj;refine⟨v,q1,q3.keep n13 h3,?_,q3⟩;rw[hc];rcases q2.2 with q|⟨g,cap,cur,r1,r2,r3⟩
   ·exact⟨q2.1,.inl q⟩
   ·exact⟨q2.1,.inr ⟨g,cap,cur,r1,by omega,r3⟩⟩
  rcases hz with hz|⟨pre,hp,hz⟩
  ·exact⟨ev,fin F hz.1 (zPR hz.2)⟩
  ·exact⟨ev,fin pre hz.1 (zPQ hp hz.2)⟩
end
end Go.Proofs.YtclpnafiiobfhaaGreatDoor
namespace Go.Proofs.YtclpnafiiobfhaaGreatDoor
open Go.RowKit
section
variable {Q K : Nat} {O : Nat → Prop} {lg cv : Value} {R : Option Bk} {room now births : Nat} {F : List Fl} {cA cD cR cM : Nat} {b p1 p2 sb : Nat} {odd : Bool} {ve vc vf : Value} {n1 n2 n3 : Nat} {xs ys zs : List Value}
theorem zLJ (W:World) (hg:zAa W Q K O lg cv R room now births F cA cD cR cM) (hF:F.length<=64) (hb:zBT W Q K b lg p1 p2 sb odd ve vc vf n1 n2 n3 xs ys zs) (most:Int) (h0:most≠0) (first:Bool):
 Calls Tryz.prog 91 #[.pointer (some ⟨b,0,none⟩),.int .i64 most,.bool first] W fun e w'=>∃v,e= .returned (.tuple #[v,.bool false])/\w'.ownsRow W.heap.size 197 8 v (zFk most F).length (zAV (zFk most F))/\Below W.heap.size W w':=by
 have HG:=hid hg;have HB:=hid hb;have hmf:∀(fn:Fn) (first cap:Array Value) (w:World),(Instr.makeFunc fn first cap).run Tryz.prog w= .ok (.func fn first cap) w:=fun _ _ _ _=>rfl
 have HFL:=hid fun(U:World)(hU:Below W.heap.size W U)=>zDJ U (hg.below hU)
 have k3:=hb.blk.cell 3 _ rfl;have k4:=hb.blk.cell 4 _ rfl;have hbl:=hb.blk.lt;have hbn:=Nat.ne_of_lt hbl;have hbn1:b≠W.heap.size+1:=by omega
 have hbn2:b≠W.heap.size+1+1:=by omega
 obtain⟨W3,hW3⟩:∃W3,((W.alloc (.cells #[.int .i64 most] 3)).alloc (.cells #[.slice none 0 0] 128)).alloc (.cells #[.bool false] 4)=W3:=⟨_,rfl⟩;have HW3:=hid hW3;have B3:Below W.heap.size W W3:=by rw[<-hW3];exact((bal _ _).alloc (by simp) _).alloc (by simp;omega) _
 have x1:Boxed W3 W.heap.size 3 (.int .i64 most):=by rw[<-hW3];exact((Boxed.new W _ _).alloc _).alloc _
 have x2:Boxed W3 (W.heap.size+1) 128 (.slice none 0 0):=by
  rw[<-hW3];have:=Boxed.new (W.alloc (.cells #[.int .i64 most] 3)) 128 (.slice none 0 0);rw[World.size_alloc] at this;exact this.alloc _
 have x3:Boxed W3 (W.heap.size+1+1) 4 (.bool false):=by
  rw[<-hW3];have:=Boxed.new ((W.alloc (.cells #[.int .i64 most] 3)).alloc (.cells #[.slice none 0 0] 128)) 4 (.bool false);rw[World.size_alloc,World.size_alloc] at this;exact this
 have k3':=(B3.cell (p:=⟨b,3,none⟩) hbl).trans k3;have k4':=(B3.cell (p:=⟨b,4,none⟩) hbl).trans k4;have HX:=hid (And.intro B3 (And.intro x1 (And.intro x2 x3)));have HFI:Hid (∀(V U:World) (v:Value),Below W3.heap.size W3 V->V.heap.size<=U.heap.size->Trn (fun x=>x=W.heap.size+1) V U->U.ownsRow V.heap.size 197 8 v (zFk most F).length (zAV (zFk most F))->U.drew.ownsRow W.heap.size 197 8 v (zFk most F).length (zAV (zFk most F))/\Below W.heap.size W U.drew):=fun V U v hV hs ht ho=>by
  have s3:=B3.size;have s4:=hV.size;refine⟨⟨ho.1,?_⟩,((B3.trans (hV.mono s3)).trans (ht.to_below (by omega) (fun m hm q=>by omega))).drew⟩;rcases ho.2 with q|⟨g,cap,cur,r1,r2,r3⟩
  ·exact .inl q
  ·exact .inr ⟨g,cap,cur,r1,by omega,r3⟩
 clear hg hb hW3 B3 x1 x2 x3;cases first with
 |true=>
  have HT:=hid (zIT W3 (HG.out.keeps.below HX.out.1) hF ((HX.out.1.cell (p:=⟨sb,0,none⟩) HB.out.bs.lt).trans (HB.out.bs.cell 0 _ rfl)) (Nat.lt_of_lt_of_le HB.out.bs.lt HX.out.1.size) h0 HX.out.2.2.1 HX.out.2.1 HX.out.2.2.2);go_enter Tryz.func91,Tryz.ntmps91;go_upto_region 3 with fail
  rw[HW3.out];go_upto_region 7 with(go_at_call 144;refine HT.out.mono ?_;rintro e w5 ⟨⟨v0,rfl⟩,v5,y1,y2,y3,y4⟩;have HY:=hid (And.intro y1 (And.intro y2 (And.intro y3 y4)));have z1:=y1.cell;have z2:=y2.cell;clear y1 y2 y3 y4)
  go_big_region;go_wp2_with fail;go_ret2;exact⟨v5,rfl,HFI.out W3 w5 v5 (Below.refl _ _) HY.out.2.2.2.size HY.out.2.2.2 HY.out.2.2.1⟩
 |false=>
  obtain⟨W4,hW4⟩:∃W4,W3.alloc (.cells #[.pointer (some ⟨K,0,none⟩)] 191)=W4:=⟨_,rfl⟩;have B4:Below W3.heap.size W3 W4:=by rw[<-hW4];exact bal _ _
  have x4:Boxed W4 W3.heap.size 191 (.pointer (some ⟨K,0,none⟩)):=by rw[<-hW4];exact Boxed.new W3 _ _
  have HW4:=hid hW4;have HT:=hid (zIT W4 ((HG.out.keeps.below HX.out.1).below B4) hF x4.cell x4.lt h0 ((B4.block _ HX.out.2.2.1.lt).trans HX.out.2.2.1) ((B4.block _ HX.out.2.1.lt).trans HX.out.2.1) ((B4.block _ HX.out.2.2.2.lt).trans HX.out.2.2.2));have HB4:=hid B4;clear hW4 B4 x4;go_enter Tryz.func91,Tryz.ntmps91;go_upto_region 3 with fail
  rw[HW3.out];go_upto_region 6 with(go_at_call 108;refine(HFL.out _ HX.out.1).mono ?_;rintro e w2 ⟨rfl,rfl⟩)
  rw[HW4.out];go_upto_region 7 with(go_at_call 144;refine HT.out.mono ?_;rintro e w5 ⟨⟨v0,rfl⟩,v5,y1,y2,y3,y4⟩;have HY:=hid (And.intro y1 (And.intro y2 (And.intro y3 y4)));have z1:=y1.cell;have z2:=y2.cell;clear y1 y2 y3 y4)
  go_big_region;go_wp2_with fail;go_ret2;exact⟨v5,rfl,HFI.out W4 w5 v5 HB4.out HY.out.2.2.2.size HY.out.2.2.2 HY.out.2.2.1⟩
end
theorem zLK (room:Nat) (h1:1<=room) (h2:room<=64) (odd:Bool) (W:World):
 Calls Tryz.prog 81 #[.int .i64 (room:Int),.bool odd] W fun e w'=>∃Q K O b p1 p2 sb lg,e= .returned (.tuple #[.pointer (some ⟨Q,0,none⟩),.pointer (some ⟨b,0,none⟩),.int .i64 0])/\zAa w' Q K O lg (.slice none 0 0) none room 0 0 [] 0 0 0 0/\zBT w' Q K b lg p1 p2 sb odd (.slice none 0 0) (.slice none 0 0) (.slice none 0 0) 0 0 0 [] [] []/\Below W.heap.size W w'/\(∀x,(x=Q\/O x)->W.heap.size<=x)/\∀x,zIR b p1 p2 sb (.slice none 0 0) (.slice none 0 0) (.slice none 0 0) x->W.heap.size<=x/\¬(x=Q\/O x):=by
 have HM:=hid fun(fn:Fn)(a:Array Value)(c:Array Value)(U:World)=>zPO room h1 h2 fn a c U
 have hmf:∀(fn:Fn) (first cap:Array Value) (w:World),(Instr.makeFunc fn first cap).run Tryz.prog w= .ok (.func fn first cap) w:=fun _ _ _ _=>rfl
 obtain⟨W3,hW3⟩:∃W3,((W.alloc (.cells #[.bool odd] 4)).alloc (.cells #[.slice none 0 0,.slice none 0 0,.slice none 0 0,.pointer none,.nilFunc] 184)).alloc (.cells #[.pointer (some ⟨W.heap.size+1,0,none⟩)] 120)=W3:=⟨_,rfl⟩;have HW3:=hid hW3;have z3:W3.heap.size=W.heap.size+3:=by rw[<-hW3];simp
 have B3:Below W.heap.size W W3:=by rw[<-hW3];exact((bal _ _).alloc (by simp) _).alloc (by simp;omega) _
 have x1:Blk 4 W3 W.heap.size [.bool odd]:=by rw[<-hW3];exact((Blk.made W _ [.bool odd] (zAF rfl)).alloc _).alloc _
 have x2:Blk 184 W3 (W.heap.size+1) [.slice none 0 0,.slice none 0 0,.slice none 0 0,.pointer none,.nilFunc]:=by
  rw[<-hW3];have:=Blk.made (W.alloc (.cells #[.bool odd] 4)) 184 [.slice none 0 0,.slice none 0 0,.slice none 0 0,.pointer none,.nilFunc] (zAF rfl);rw[World.size_alloc] at this;exact this.alloc _
 have x3:Blk 120 W3 (W.heap.size+1+1) [.pointer (some ⟨W.heap.size+1,0,none⟩)]:=by
  rw[<-hW3];have:=Blk.made ((W.alloc (.cells #[.bool odd] 4)).alloc (.cells #[.slice none 0 0,.slice none 0 0,.slice none 0 0,.pointer none,.nilFunc] 184)) 120 [.pointer (some ⟨W.heap.size+1,0,none⟩)] (zAF rfl);rw[World.size_alloc,World.size_alloc] at this;exact this
 have HX:=hid (And.intro z3 (And.intro B3 (And.intro x1 (And.intro x2 x3))));have y0:=x3.cell 0 _ rfl;have HM3:=hid (HM.out (.func 107) #[] #[.pointer (some ⟨W.heap.size+1+1,0,none⟩),.pointer (some ⟨W.heap.size,0,none⟩)] W3);clear h1 h2 hW3 z3 B3 x1 x2 x3;go_enter Tryz.func81,Tryz.ntmps81;go_upto_region 2 with fail
 rw[HW3.out];go_upto_region 4 with(first|(go_at_call 106;refine HM3.out.mono ?_;rintro e w2 ⟨Q,K,O,rfl,hg,hb,ho⟩;have HG:=hid (And.intro hg (And.intro hb ho));clear hg hb ho)|(go_at_call 19;refine(zGp _).mono ?_;rintro e w3 ⟨rfl,hb3⟩;have HB3:=hid hb3;clear hb3))
 have B5:=HG.out.2.1.trans (HB3.out.mono HG.out.2.1.size);have HG3:=hid (HG.out.1.below HB3.out);have HX5:Hid (Below W3.heap.size W3 w3/\Blk 4 w3 W.heap.size [.bool odd]/\Blk 184 w3 (W.heap.size+1) [.slice none 0 0,.slice none 0 0,.slice none 0 0,.pointer none,.nilFunc]/\Blk 120 w3 (W.heap.size+1+1) [.pointer (some ⟨W.heap.size+1,0,none⟩)]):=⟨B5,HX.out.2.2.1.below B5 HX.out.2.2.1.lt,HX.out.2.2.2.1.below B5 HX.out.2.2.2.1.lt,HX.out.2.2.2.2.below B5 HX.out.2.2.2.2.lt⟩;have u0:=HX5.out.2.2.2.cell 0 _ rfl;have u3:=HX5.out.2.2.1.cell 3 _ rfl;have uf:=HX5.out.2.2.1.frozen 3;clear B5 y0;go_upto_region 6 with fail
 obtain⟨X5,hX5⟩:∃X5,w3.setCell ⟨W.heap.size+1,3,none⟩ (.pointer (some ⟨Q,0,none⟩))=X5:=⟨_,rfl⟩;rw[hX5];have tX:Trn (fun x=>x=W.heap.size+1) w3 X5:=by rw[<-hX5];exact Trn.setCell (S:=fun x=>x=W.heap.size+1) w3 (W.heap.size+1) 3 _ rfl
 have hX0:=HX.out.1;have gX:zAa X5 Q K O (.func (.func 107) #[] #[.pointer (some ⟨W.heap.size+1+1,0,none⟩),.pointer (some ⟨W.heap.size,0,none⟩)]) (.slice none 0 0) none room 0 0 [] 0 0 0 0:=HG3.out.trn tX (fun x q e=>by
  rcases q with q|q|q
  ·have:=HG.out.2.2 x (.inl q);omega
  ·have:=HG.out.2.2 x (.inr q);omega
  ·cases q)
 have HX6:Hid (zAa X5 Q K O (.func (.func 107) #[] #[.pointer (some ⟨W.heap.size+1+1,0,none⟩),.pointer (some ⟨W.heap.size,0,none⟩)]) (.slice none 0 0) none room 0 0 [] 0 0 0 0/\Below W.heap.size W X5/\Blk 4 X5 W.heap.size [.bool odd]/\Blk 184 X5 (W.heap.size+1) [.slice none 0 0,.slice none 0 0,.slice none 0 0,.pointer (some ⟨Q,0,none⟩),.nilFunc]/\Blk 120 X5 (W.heap.size+1+1) [.pointer (some ⟨W.heap.size+1,0,none⟩)]):=⟨gX,(HX.out.2.1.trans (HX5.out.1.mono HX.out.2.1.size)).trans (tX.to_below (by have:=HX5.out.1.size;omega) (fun m hm q=>by omega)),HX5.out.2.1.trn tX (by omega),by rw[<-hX5];exact HX5.out.2.2.1.set 3 (.pointer (some ⟨Q,0,none⟩)),HX5.out.2.2.2.trn tX (by omega)⟩;have HFL:=hid fun(U:World)(hU:Below X5.heap.size X5 U)=>zDJ U (HX6.out.1.below hU)
 have hbl:=HX6.out.2.2.2.1.lt;have hbn:=Nat.ne_of_lt hbl;have hpl:=HX6.out.2.2.2.2.lt;have hpn:=Nat.ne_of_lt hpl;have k0:=HX6.out.2.2.2.2.cell 0 _ rfl;have k4:=HX6.out.2.2.2.1.cell 4 _ rfl;have f4:=HX6.out.2.2.2.1.frozen 4;clear u0 u3 uf tX gX hX5 hX0;go_region_held3 (fun w'=>w'.cell? ⟨W.heap.size+1+1,0,none⟩=some (.pointer (some ⟨W.heap.size+1,0,none⟩))) (go_keep) ((go_at_call 108;refine(HFL.out _ ?_).mono ?_;(first|exact Below.refl _ _|exact(Below.refl _ _).drew);rintro e w5 ⟨rfl,rfl⟩));obtain⟨X6,hX6⟩:∃X6,((X5.setCell ⟨W.heap.size+1,4,none⟩ (.func (.func 144) #[] #[.pointer (some ⟨X5.heap.size,0,none⟩)])).alloc (.cells #[.pointer (some ⟨K,0,none⟩)] 191)).drew=X6:=⟨_,rfl⟩;rw[hX6];have z5:(X5.setCell ⟨W.heap.size+1,4,none⟩ (.func (.func 144) #[] #[.pointer (some ⟨X5.heap.size,0,none⟩)])).heap.size=X5.heap.size:=by simp
 have tX:Trn (fun x=>x=W.heap.size+1) X5 X6:=by
  rw[<-hX6];exact((Trn.setCell (S:=fun x=>x=W.heap.size+1) X5 (W.heap.size+1) 4 _ rfl).trans (Trn.alloc _ _ _) (fun _ _ q=>q)).trans (Trn.below (Below.refl _ _).drew) (fun _ _ q=>q)
 have b6:Below (X5.setCell ⟨W.heap.size+1,4,none⟩ (.func (.func 144) #[] #[.pointer (some ⟨X5.heap.size,0,none⟩)])).heap.size (X5.setCell ⟨W.heap.size+1,4,none⟩ (.func (.func 144) #[] #[.pointer (some ⟨X5.heap.size,0,none⟩)])) X6:=by rw[<-hX6];exact(bal _ _).drew
 obtain⟨g6,q2,q3,q4,q5⟩:=HX6.out;have hX0:=HX.out.1;have hgl:∀x,(x=Q\/O x)->W.heap.size+3<=x:=fun x q=>by have:=HG.out.2.2 x q;omega
 have hgs:∀x,(x=Q\/O x)->x<X5.heap.size:=fun x q=>g6.lts x (q.imp id .inl)
 have s5:Blk 191 X6 X5.heap.size [.pointer (some ⟨K,0,none⟩)]:=by
  have q:=(Blk.made (X5.setCell ⟨W.heap.size+1,4,none⟩ (.func (.func 144) #[] #[.pointer (some ⟨X5.heap.size,0,none⟩)])) 191 [.pointer (some ⟨K,0,none⟩)] (zAF rfl));rw[z5] at q;rw[<-hX6];exact q.below (Below.refl _ _).drew q.lt
 have HF:Hid (zAa X6 Q K O (.func (.func 107) #[] #[.pointer (some ⟨W.heap.size+1+1,0,none⟩),.pointer (some ⟨W.heap.size,0,none⟩)]) (.slice none 0 0) none room 0 0 [] 0 0 0 0/\zBT X6 Q K (W.heap.size+1) (.func (.func 107) #[] #[.pointer (some ⟨W.heap.size+1+1,0,none⟩),.pointer (some ⟨W.heap.size,0,none⟩)]) (W.heap.size+1+1) W.heap.size X5.heap.size odd (.slice none 0 0) (.slice none 0 0) (.slice none 0 0) 0 0 0 [] [] []/\Below W.heap.size W X6/\(∀x,(x=Q\/O x)->W.heap.size<=x)/\∀x,zIR (W.heap.size+1) (W.heap.size+1+1) W.heap.size X5.heap.size (.slice none 0 0) (.slice none 0 0) (.slice none 0 0) x->W.heap.size<=x/\¬(x=Q\/O x)):=by
  refine⟨g6.trn tX (fun x q e=> ?_),⟨rfl,(q4.set 4 (.func (.func 144) #[] #[.pointer (some ⟨X5.heap.size,0,none⟩)])).below b6 (by rw[z5];exact hbl),q5.trn tX (by omega),q3.trn tX (by omega),s5,World.ownsRow_nil _ _ _ _,World.ownsRow_nil _ _ _ _,World.ownsRow_nil _ _ _ _⟩,q2.trans (tX.to_below q2.size (fun m hm q=>by omega)),fun x q=>by have:=hgl x q;omega,fun x q=> ?_⟩
  ·rcases q with q|q|q
   ·have:=hgl x (.inl q);omega
   ·have:=hgl x (.inr q);omega
   ·cases q
  ·have h5:=q2.size
   rcases q with(rfl|q|q|q)|rfl|rfl|rfl
   ·exact⟨by omega,fun z=>by have:=hgl _ z;omega⟩
   ·cases q
   ·cases q
   ·cases q
   ·exact⟨by omega,fun z=>by have:=hgl _ z;omega⟩
   ·exact⟨by omega,fun z=>by have:=hgl _ z;omega⟩
   ·exact⟨by omega,fun z=>by have:=hgs _ z;omega⟩
 have k0':=HF.out.2.1.b1.cell 0 _ rfl;clear hX6 z5 tX b6 g6 q2 q3 q4 q5 hX0 hgl hgs s5 k0 k4 f4;go_upto_region 7 with fail
 go_big_region;go_wp2_with fail;refine bodyPost_ret (v:= .tuple #[.pointer (some ⟨Q,0,none⟩),.pointer (some ⟨W.heap.size+1,0,none⟩),.int .i64 0]) (by simp[results,Tryz.results81,go_sem]) rfl ?_;obtain⟨a1,a2,a3,a4,a5⟩:=HF.out;have bd:Below X6.heap.size X6 X6.drew:=(Below.refl _ _).drew;exact⟨Q,K,O,_,_,_,_,_,rfl,a1.below bd,a2.trn (Trn.below (S:=fun _=>False) bd) (fun _ _ q=>q),a3.drew,a4,a5⟩
theorem zLL (c:Int) (hc:c<1\/64<c) (odd:Bool) (W:World) (hL:zBU W):
 Calls Tryz.prog 81 #[.int .i64 c,.bool odd] W fun e w'=>∃p,e= .returned (.tuple #[.pointer none,.pointer p,.int .i64 1])/\Below W.heap.size W w':=by
 have HM:Hid (∀lg V,Calls _ _ _ V _):=fun lg V=>zKS c hc lg V
 have hmf:∀(fn:Fn) (first cap:Array Value) (w:World),(Instr.makeFunc fn first cap).run Tryz.prog w= .ok (.func fn first cap) w:=fun _ _ _ _=>rfl
 obtain⟨W3,hW3⟩:∃W3,((W.alloc (.cells #[.bool odd] 4)).alloc (.cells #[.slice none 0 0,.slice none 0 0,.slice none 0 0,.pointer none,.nilFunc] 184)).alloc (.cells #[.pointer (some ⟨W.heap.size+1,0,none⟩)] 120)=W3:=⟨_,rfl⟩;have HW3:=hid hW3;have B3:Below W.heap.size W W3:=by rw[<-hW3];exact((bal _ _).alloc (by simp) _).alloc (by simp;omega) _
 have x3:Blk 120 W3 (W.heap.size+1+1) [.pointer (some ⟨W.heap.size+1,0,none⟩)]:=by
  rw[<-hW3];have:=Blk.made ((W.alloc (.cells #[.bool odd] 4)).alloc (.cells #[.slice none 0 0,.slice none 0 0,.slice none 0 0,.pointer none,.nilFunc] 184)) 120 [.pointer (some ⟨W.heap.size+1,0,none⟩)] (zAF rfl);rw[World.size_alloc,World.size_alloc] at this;exact this
 have HX:=hid (And.intro B3 x3);have HL:Hid (zBU W3):=hL.below B3;clear hc hL hW3 B3 x3;go_enter Tryz.func81,Tryz.ntmps81;go_upto_region 2 with fail
 rw[HW3.out];go_upto_region 7 with(first|(go_at_call 106;refine(HM.out _ _).mono ?_;rintro e w2 ⟨rfl,h2⟩;obtain rfl:W3=w2:=h2.symm;clear h2)|(go_at_call 19;refine(zHi 1 _ HL.out).mono ?_;rintro e w3 ⟨rfl,hb3⟩;have HB3:=hid hb3;have k0:=(HX.out.2.below hb3 HX.out.2.lt).cell 0 _ rfl;clear hb3))
 go_big_region;go_wp2_with fail;refine bodyPost_ret (v:= .tuple #[.pointer none,.pointer (some ⟨W.heap.size+1,0,none⟩),.int .i64 1]) (by simp[results,Tryz.results81,go_sem]) rfl ?_;exact⟨_,rfl,(HX.out.1.trans (HB3.out.mono HX.out.1.size)).drew⟩
section
variable {Q K D : Nat} {O : Nat → Prop} {lg cv rv fv : Value} {R : Option Bk} {room now b : Nat} {F : List Fl} {cA cD cR cM N : Nat}
def zCg (Q D:Nat) (O:Nat->Prop) (cv rv fv:Value) (x:Nat):Prop:=(x=Q\/O x\/cv.ownBlock=some x)\/(x=D\/rv.ownBlock=some x\/fv.ownBlock=some x)
structure zKT (W:World) (Q K D:Nat) (O:Nat->Prop) (lg cv rv fv:Value) (R:Option Bk) (room now b:Nat) (F:List Fl) (cA cD cR cM N:Nat):Prop where
 gate:zAa W Q K O lg cv R room now b F cA cD cR cM
 doc:zAQ W D rv fv R room now F cA cD cR cM
 le:b<=N/\cA<=N/\cD<=N/\cR<=N/\cM<=N
 apart:∀x,(x=Q\/O x\/cv.ownBlock=some x)->¬(x=D\/rv.ownBlock=some x\/fv.ownBlock=some x)
def zGT (W:World) (S:Nat->Prop) (Q D K:Nat) (lg:Value) (N:Nat):Prop:=∃O cv rv fv R room now b F cA cD cR cM,zKT W Q K D O lg cv rv fv R room now b F cA cD cR cM N/\S=zCg Q D O cv rv fv
def zKU (W:World) (S:Nat->Prop) (Q D K:Nat) (lg:Value) (N:Nat) (w':World):Prop:=∃S',zGT w' S' Q D K lg N/\Trn S W w'/\∀x,S' x->S x\/W.heap.size<=x
theorem zGT.trn {W W':World} {S S':Nat->Prop} (h:zGT W S Q D K lg N) (ht:Trn S' W W') (hs:∀x,S x->¬S' x):zGT W' S Q D K lg N:=by
 obtain⟨O,cv,rv,fv,R,room,now,b,F,cA,cD,cR,cM,h,rfl⟩:=h;exact⟨O,cv,rv,fv,R,room,now,b,F,cA,cD,cR,cM,⟨h.gate.trn ht (fun x q=>hs x (.inl q)),h.doc.keep ht (fun x q=>hs x (.inr q)),h.le,h.apart⟩,rfl⟩
theorem zGT.below {W W':World} {S:Nat->Prop} (h:zGT W S Q D K lg N) (hb:Below W.heap.size W W'):zGT W' S Q D K lg N:=h.trn (Trn.below (S:=fun _=>False) hb) (fun _ _ q=>q)
theorem zGT.lt {W:World} {S:Nat->Prop} (h:zGT W S Q D K lg N) (x:Nat) (q:S x):x<W.heap.size:=by
 obtain⟨O,cv,rv,fv,R,room,now,b,F,cA,cD,cR,cM,h,rfl⟩:=h;rcases q with q|q
 ·exact h.gate.lts x q
 ·exact h.doc.lts x q
theorem zGT.le {W:World} {S:Nat->Prop} {N':Nat} (h:zGT W S Q D K lg N) (hn:N<=N'):zGT W S Q D K lg N':=by
 obtain⟨O,cv,rv,fv,R,room,now,b,F,cA,cD,cR,cM,h,e⟩:=h;have:=h.le;exact⟨O,cv,rv,fv,R,room,now,b,F,cA,cD,cR,cM,⟨h.gate,h.doc,by omega,h.apart⟩,e⟩
theorem zGT.to {W W':World} {S:Nat->Prop} (h:zGT W S Q D K lg N) (hb:Below W.heap.size W W'):zKU W S Q D K lg N W':=⟨S,h.below hb,Trn.below hb,fun _ q=> .inl q⟩
theorem zNv {W:World} {S:Nat->Prop} (h:zGT W S Q D K lg N) (hL:zBU W) (hm:zBx W) (s:ByteArray) (hs:s.size<=maxLen):
 Calls Tryz.prog 54 #[.pointer (some ⟨Q,0,none⟩),.string s] W fun e w1=>e= .returned (.tuple #[.int .i64 ((zAJ s).1:Int),.int .i64 ((zAJ s).2.1:Int)])/\Trn S W w1/\∀w2,Below w1.heap.size w1 w2->Calls Tryz.prog 55 #[.pointer (some ⟨D,0,none⟩),.string s] w2 fun e w3=>e= .returned (.tuple #[.int .i64 ((zAJ s).1:Int),.int .i64 ((zAJ s).2.1:Int)])/\zKU W S Q D K lg N w3:=by
 by_cases hk:(zAJ s).1=0
 ·obtain⟨O,cv,rv,fv,R,room,now,b,F,cA,cD,cR,cM,h,rfl⟩:=h
  have hr:zAJ s=(0,(zAJ s).2.1,(zAJ s).2.2):=by rw[<-hk]
  have hz:=zNp s hk;refine(zNT W hL hm h.gate s _ _ hs hr).mono fun e w1 z=> ?_
  obtain⟨e1,cv',g1,t1,n1⟩:=z;have hQ:∀x,x=Q->zCg Q D O cv rv fv x:=fun x q=> .inl (.inl q)
  refine⟨by rw[e1,hk,hz];rfl,t1.mono (fun x _ q=>hQ x q),fun w2 hb2=> ?_⟩;have d1:zAQ w1 D rv fv R room now F cA cD cR cM:=h.doc.keep t1 (fun x q e=>h.apart x (.inl e) q);have s1:=t1.size;refine(zPK w2 (d1.below hb2) s hs hk (zFR s)).mono fun e w3 z=> ?_
  obtain⟨e2,rv',d2,t2,n2⟩:=z;have s2:=hb2.size;have hDl:=h.doc.lts D (.inl rfl);refine⟨by rw[e2,hk];rfl,zCg Q D O cv' rv' fv,⟨O,cv',rv',fv,_,room,now,b,F,cA,cD,cR,cM,⟨(g1.below hb2).trn t2 (fun x q e=> ?_),d2,h.le,fun x q r=> ?_⟩,rfl⟩,?_,fun x q=> ?_⟩
  ·subst e
   rcases q with q|q|q
   ·exact h.apart _ (.inl q) (.inl rfl)
   ·exact h.apart _ (.inr (.inl q)) (.inl rfl)
   ·have:=n1 _ q;omega
  ·have lt:∀y,(y=Q\/O y\/cv.ownBlock=some y)->y<W.heap.size:=fun y q=>h.gate.lts y q
   have ld:∀y,(y=D\/rv.ownBlock=some y\/fv.ownBlock=some y)->y<W.heap.size:=fun y q=>h.doc.lts y q
   have l1:∀y,cv'.ownBlock=some y->y<w1.heap.size:=fun y q=>g1.lts y (.inr (.inr q))
   rcases r with r|r|r
   ·rcases q with q|q|q
    ·exact h.apart x (.inl q) (.inl r)
    ·exact h.apart x (.inr (.inl q)) (.inl r)
    ·have:=n1 x q;have:=ld x (.inl r);omega
   ·have r2:=n2 x r
    rcases q with q|q|q
    ·have:=lt x (.inl q);omega
    ·have:=lt x (.inr (.inl q));omega
    ·have:=l1 x q;omega
   ·rcases q with q|q|q
    ·exact h.apart x (.inl q) (.inr (.inr r))
    ·exact h.apart x (.inr (.inl q)) (.inr (.inr r))
    ·have:=n1 x q;have:=ld x (.inr (.inr r));omega
  ·exact((t1.mono (fun x _ q=>hQ x q)).trans (Trn.below hb2) (fun _ _ q=>q)).trans (t2.mono (fun x _ q=> .inr (.inl q))) (fun _ _ q=>q)
  ·rcases q with(q|q|q)|(q|q|q)
   ·exact .inl (.inl (.inl q))
   ·exact .inl (.inl (.inr (.inl q)))
   ·exact .inr (n1 x q)
   ·exact .inl (.inr (.inl q))
   ·exact .inr (by have:=n2 x q;omega)
   ·exact .inl (.inr (.inr (.inr q)))
 ·refine(zK2 Q W hL hm s _ _ _ hs rfl hk).mono fun e w1 z=> ?_
  refine⟨z.1,Trn.below z.2,fun w2 hb2=> ?_⟩;refine(zNg D s w2 hs hk).mono fun e w3 y=>⟨y.1,h.to ?_⟩
  have s1:=z.2.size;exact(z.2.trans (hb2.mono s1)).trans (y.2.mono (by have:=hb2.size;omega))
theorem zNw {W:World} {S:Nat->Prop} (h:zGT W S Q D K lg N) (m:Nat) (hm:m<=zCr):
 Calls Tryz.prog 57 #[.pointer (some ⟨Q,0,none⟩),.int .u64 (m:Int)] W fun e w1=>e= .returned (.tuple #[])/\Trn S W w1/\∀w2,Below w1.heap.size w1 w2->Calls Tryz.prog 58 #[.pointer (some ⟨D,0,none⟩),.int .u64 (m:Int)] w2 fun e w3=>e= .returned (.tuple #[])/\zKU W S Q D K lg N w3:=by
 obtain⟨O,cv,rv,fv,R,room,now,b,F,cA,cD,cR,cM,h,rfl⟩:=h;refine(zNU W h.gate m hm).mono fun e w1 z=> ?_
 obtain⟨e1,O',g1,t1,n1⟩:=z;have hG:∀x,(x=Q\/O x)->zCg Q D O cv rv fv x:=fun x q=> .inl (q.imp id .inl)
 have hG2:∀x,(x=Q\/O x)->(x=Q\/O x\/cv.ownBlock=some x):=fun x q=>q.imp id .inl
 have hO2:∀x,(x=Q\/O' x\/cv.ownBlock=some x)->(x=Q\/O x\/cv.ownBlock=some x):=fun x q=>q.imp id (Or.imp (n1 x) id)
 refine⟨e1,t1.mono (fun x _ q=>hG x q),fun w2 hb2=> ?_⟩;have d1:zAQ w1 D rv fv R room now F cA cD cR cM:=h.doc.keep t1 (fun x q e=>h.apart x (hG2 x e) q);obtain⟨sm1,sm2,sm3⟩:=h.gate.small;refine(zNi w2 (d1.below hb2) (by omega) sm3 m hm).mono fun e w3 z=> ?_
 obtain⟨e2,fv',d2,t2,n2⟩:=z;have s1:=t1.size;have s2:=hb2.size;refine⟨e2,zCg Q D O' cv rv fv',⟨O',cv,rv,fv',R,room,_,b,_,cA,cD,cR,cM,⟨(g1.below hb2).trn t2 (fun x q e=>h.apart x (hO2 x q) (.inl e)),d2,h.le,fun x q r=> ?_⟩,rfl⟩,?_,fun x q=> ?_⟩
 ·have q':=hO2 x q
  rcases r with r|r|r
  ·exact h.apart x q' (.inl r)
  ·exact h.apart x q' (.inr (.inl r))
  ·have:=n2 x r;have:=h.gate.lts x q';omega
 ·exact((t1.mono (fun x _ q=>hG x q)).trans (Trn.below hb2) (fun _ _ q=>q)).trans (t2.mono (fun x _ q=> .inr (.inl q))) (fun _ _ q=>q)
 ·rcases q with q|q|q|q
  ·exact .inl (.inl (hO2 x q))
  ·exact .inl (.inr (.inl q))
  ·exact .inl (.inr (.inr (.inl q)))
  ·exact .inr (by have:=n2 x q;omega)
theorem zGU {W:World} {T:Nat->Prop} {Z:World->World->Prop} (h:zKT W Q K D O lg cv rv fv R room now b F cA cD cR cM N) (hL:zBU W) (hN:N<18446744073709551614) (s:ByteArray) (fb fc:Nat) (i:Int) (hd:Row W fb 0 s) (hfb:fb<W.heap.size) (hdz:s.size<=300000) (hfc:s.size<=fc) (hfm:fc<=maxLen) (hi:0<=i/\i<=255)
 (hT:∀x,T x->x<W.heap.size/\¬zCg Q D O cv rv fv x)
 (htl:∀w4 O' b',zAa w4 Q K O' lg cv R room now b' (evG R room now F s i).2 (cA+zBZ (evG R room now F s i).1.c (evG R room now F s i).1.v 0) (cD+zBZ (evG R room now F s i).1.c (evG R room now F s i).1.v 1) (cR+zBZ (evG R room now F s i).1.c (evG R room now F s i).1.v 2) (cM+zBZ (evG R room now F s i).1.c (evG R room now F s i).1.v 3)->(∀y,O' y->O y\/W.heap.size<=y)->Trn (fun x=>x=Q\/O x) W w4->Calls Tryz.prog 111 #[.pointer (some ⟨Q,0,none⟩),.agg (evG R room now F s i).1.l.toArray] w4 fun e w5=>e= .returned (.tuple #[])/\Trn T w4 w5/\Z w4 w5):
 Calls Tryz.prog 84 #[.pointer (some ⟨Q,0,none⟩),.int .u8 i,.slice (some ⟨fb,0,none⟩) s.size fc] W fun e w1=>e= .returned (.int .u8 (evG R room now F s i).1.v)/\∃w4,Trn (zCg Q D O cv rv fv) W w4/\Trn T w4 w1/\Z w4 w1/\∀w2,Below w1.heap.size w1 w2->Calls Tryz.prog 85 #[.pointer (some ⟨D,0,none⟩),.int .u8 i,.string s] w2 fun e w3=>e= .returned (.agg (evG R room now F s i).1.l.toArray)/\Trn (fun x=>x=D\/fv.ownBlock=some x) w2 w3/\∃O' b' fv',zKT w3 Q K D O' lg cv rv fv' R room now b' (evG R room now F s i).2 (cA+zBZ (evG R room now F s i).1.c (evG R room now F s i).1.v 0) (cD+zBZ (evG R room now F s i).1.c (evG R room now F s i).1.v 1) (cR+zBZ (evG R room now F s i).1.c (evG R room now F s i).1.v 2) (cM+zBZ (evG R room now F s i).1.c (evG R room now F s i).1.v 3) (N+1)/\∀x,zCg Q D O' cv rv fv' x->zCg Q D O cv rv fv x\/(W.heap.size<=x/\x<w4.heap.size)\/w1.heap.size<=x:=by
 obtain⟨l0,l1,l2,l3,l4⟩:=h.le;obtain⟨sm1,sm2,sm3⟩:=h.gate.small;have hj:Calls Tryz.prog 109 #[.pointer (some ⟨Q,0,none⟩),.int .u8 i,.slice (some ⟨fb,0,none⟩) s.size fc] W fun e w'=>e= .returned (.agg (evG R room now F s i).1.l.toArray)/\(∃O' b',Kps w' O' K room now b' (evG R room now F s i).2/\Trn O W w'/\(∀y,O' y->O y\/W.heap.size<=y)/\b'<=b+1):=by
  by_cases hc:cls s=0
  ·exact zJK W hL h.gate (by omega) s fb fc i hd hfb hdz hfc hfm hi hc
  ·exact zLG W hL h.gate (by omega) s fb fc i hd hfb hdz hfc hfm hi hc
 refine(zLI W h.gate (by omega) (by omega) (by omega) (by omega) s fb fc i hj (fun x q=>⟨(hT x q).1,fun z=>(hT x q).2 (.inl z)⟩) htl).mono fun e w1 z=> ?_
 obtain⟨e1,O',b',w4,g1,t1,tT,hZ,n1,nb⟩:=z;have hG:∀x,(x=Q\/O x)->zCg Q D O cv rv fv x:=fun x q=> .inl (q.imp id .inl)
 have hG2:∀x,(x=Q\/O x)->(x=Q\/O x\/cv.ownBlock=some x):=fun x q=>q.imp id .inl
 refine⟨e1,w4,t1.mono (fun x _ q=>hG x q),tT,hZ,fun w2 hb2=> ?_⟩;have d1:zAQ w1 D rv fv R room now F cA cD cR cM:=(h.doc.keep t1 (fun x q e=>h.apart x (hG2 x e) q)).keep tT (fun x q e=>(hT x e).2 (.inr q));refine(zLF w2 (d1.below hb2) sm3 sm1 h.gate.cap sm2 (by omega) (by omega) (by omega) (by omega) s (by unfold maxLen;omega) i hi (zNR s)).mono fun e w3 z=> ?_
 obtain⟨e2,fv',d2,t2,n2⟩:=z;have s1:=t1.size;have s3:=tT.size;have s2:=hb2.size;have hO2:∀x,(x=Q\/O' x\/cv.ownBlock=some x)->(x=Q\/O x\/cv.ownBlock=some x)\/W.heap.size<=x/\x<w4.heap.size:=fun x q=>by
  rcases q with q|q|q
  ·exact .inl (.inl q)
  ·rcases n1 x q with⟨z|z,y⟩
   ·exact .inl (.inr (.inl z))
   ·exact .inr ⟨z,y⟩
  ·exact .inl (.inr (.inr q))
 have hDl:∀x,(x=D\/rv.ownBlock=some x\/fv.ownBlock=some x)->x<W.heap.size:=fun x q=>h.doc.lts x q
 have c1:∀c v k,zBZ c v k<=1:=fun c v k=>by unfold zBZ;(repeat' split)<;>omega
 refine⟨e2,t2,O',b',fv',⟨(g1.below hb2).trn t2 (fun x q e=> ?_),d2,?_,fun x q r=> ?_⟩,fun x q=> ?_⟩
 ·have he:x=D\/rv.ownBlock=some x\/fv.ownBlock=some x:=e.imp id .inr
  rcases hO2 x q with z|z
  ·exact h.apart x z he
  ·have:=hDl x he;omega
 ·have:=c1 (evG R room now F s i).1.c (evG R room now F s i).1.v 0
  have:=c1 (evG R room now F s i).1.c (evG R room now F s i).1.v 1;have:=c1 (evG R room now F s i).1.c (evG R room now F s i).1.v 2;have:=c1 (evG R room now F s i).1.c (evG R room now F s i).1.v 3;exact⟨by omega,by omega,by omega,by omega,by omega⟩
 ·rcases r with r|r|r
  ·rcases hO2 x q with z|z
   ·exact h.apart x z (.inl r)
   ·have:=hDl x (.inl r);omega
  ·rcases hO2 x q with z|z
   ·exact h.apart x z (.inr (.inl r))
   ·have:=hDl x (.inr (.inl r));omega
  ·rcases n2 x r with y|y
   ·rcases hO2 x q with z|z
    ·exact h.apart x z (.inr (.inr y))
    ·have:=hDl x (.inr (.inr y));omega
   ·rcases hO2 x q with z|z
    ·have:=h.gate.lts x z;omega
    ·omega
 ·rcases q with q|q|q|q
  ·rcases hO2 x q with z|z
   ·exact .inl (.inl z)
   ·exact .inr (.inl z)
  ·exact .inl (.inr (.inl q))
  ·exact .inl (.inr (.inr (.inl q)))
  ·rcases n2 x q with y|y
   ·exact .inl (.inr (.inr (.inr y)))
   ·exact .inr (.inr (by omega))
end
structure Gt where
 q:Nat
 d:Nat
 k:Nat
 lg:Value
 b:Option Nat
def Bok (W:World) (S:Nat->Prop) (g:Gt) (N:Nat):Prop:=(g.b=none/\g.lg= .nilFunc/\S=fun _=>False)\/∃b p1 p2 sb odd ve vc vf n xs ys zs,g.b=some b/\n<=N/\zBT W g.q g.k b g.lg p1 p2 sb odd ve vc vf n n n xs ys zs/\S=zIR b p1 p2 sb ve vc vf
theorem Bok.trn {W W':World} {S S':Nat->Prop} {g:Gt} {N:Nat} (h:Bok W S g N) (ht:Trn S' W W') (hs:∀x,S x->¬S' x):Bok W' S g N:=by
 rcases h with h|⟨b,p1,p2,sb,odd,ve,vc,vf,n,xs,ys,zs,h1,h2,h3,rfl⟩
 ·exact .inl h
 ·exact .inr ⟨b,p1,p2,sb,odd,ve,vc,vf,n,xs,ys,zs,h1,h2,h3.trn ht hs,rfl⟩
theorem Bok.lt {W:World} {S:Nat->Prop} {g:Gt} {N:Nat} (h:Bok W S g N) (x:Nat) (q:S x):x<W.heap.size:=by
 rcases h with⟨_,_,rfl⟩|⟨b,p1,p2,sb,odd,ve,vc,vf,n,xs,ys,zs,h1,h2,h3,rfl⟩
 ·exact q.elim
 ·exact h3.lt x q
theorem Bok.le {W:World} {S:Nat->Prop} {g:Gt} {N N':Nat} (h:Bok W S g N) (hn:N<=N'):Bok W S g N':=by
 rcases h with h|⟨b,p1,p2,sb,odd,ve,vc,vf,n,xs,ys,zs,h1,h2,h3⟩
 ·exact .inl h
 ·exact .inr ⟨b,p1,p2,sb,odd,ve,vc,vf,n,xs,ys,zs,h1,Nat.le_trans h2 hn,h3⟩
def zEh (W:World) (S:Nat->Prop) (g:Gt) (N:Nat):Prop:=∃S1 S2,zGT W S1 g.q g.d g.k g.lg N/\Bok W S2 g N/\(∀x,S1 x->¬S2 x)/\S=fun x=>S1 x\/S2 x
def zIU (W:World) (S:Nat->Prop) (g:Gt) (N:Nat) (w':World):Prop:=∃S',zEh w' S' g N/\Trn S W w'/\∀x,S' x->S x\/W.heap.size<=x
section
variable {W W' : World} {S S' : Nat → Prop} {g : Gt} {N N' : Nat}
theorem zEh.trn (h:zEh W S g N) (ht:Trn S' W W') (hs:∀x,S x->¬S' x):zEh W' S g N:=by
 obtain⟨S1,S2,h1,h2,h3,rfl⟩:=h;exact⟨S1,S2,h1.trn ht (fun x q=>hs x (.inl q)),h2.trn ht (fun x q=>hs x (.inr q)),h3,rfl⟩
theorem zEh.below (h:zEh W S g N) (hb:Below W.heap.size W W'):zEh W' S g N:=h.trn (Trn.below (S:=fun _=>False) hb) (fun _ _ q=>q)
theorem zEh.lt (h:zEh W S g N) (x:Nat) (q:S x):x<W.heap.size:=by
 obtain⟨S1,S2,h1,h2,h3,rfl⟩:=h;rcases q with q|q
 ·exact h1.lt x q
 ·exact h2.lt x q
theorem zEh.le (h:zEh W S g N) (hn:N<=N'):zEh W S g N':=by
 obtain⟨S1,S2,h1,h2,h3,e⟩:=h;exact⟨S1,S2,h1.le hn,h2.le hn,h3,e⟩
theorem zEh.lift (h:zEh W S g N):∃S1,zGT W S1 g.q g.d g.k g.lg N/\(∀x,S1 x->S x)/\∀w' N',N<=N'->zKU W S1 g.q g.d g.k g.lg N' w'->zIU W S g N' w':=by
 obtain⟨S1,S2,h1,h2,h3,rfl⟩:=h;refine⟨S1,h1,fun x q=> .inl q,fun w' N' hn ht=> ?_⟩;obtain⟨T,p,t,n⟩:=ht;refine⟨fun x=>T x\/S2 x,⟨T,S2,p,(h2.trn t (fun x q z=>h3 x z q)).le hn,fun x q z=> ?_,rfl⟩,t.mono (fun x _ q=> .inl q),fun x q=> ?_⟩
 ·rcases n x q with y|y
  ·exact h3 x y z
  ·have:=h2.lt x z;omega
 ·rcases q with q|q
  ·exact(n x q).imp .inl id
  ·exact .inl (.inr q)
end
def zQ0 (w:World) (b D n:Nat) (ev:Ev):Prop:=∃(g1 c1 g2 c2 g3 c3:Nat) (a0 a1 a2 a3:Int) (p5:Option Addr) (m c5:Nat),
 w.cell? ⟨b,0,none⟩=some (.slice (some ⟨g1,0,none⟩) (n+1) c1)/\w.cell? ⟨b,1,none⟩=some (.slice (some ⟨g2,0,none⟩) (n+1) c2)/\w.cell? ⟨b,2,none⟩=some (.slice (some ⟨g3,0,none⟩) (n+1) c3)/\
 (∀j v,ev.l[j]? =some v->w.cell? ⟨g1,n*5+j,none⟩=some v)/\(∀j v,([.int .u64 a0,.int .u64 a1,.int .u64 a2,.int .u64 a3]:List Value)[j]? =some v->w.cell? ⟨g2,n*4+j,none⟩=some v/\w.cell? ⟨D,6+j,none⟩=some v)/\
 w.cell? ⟨g3,n,none⟩=some (.int .i64 (m:Int))/\w.cell? ⟨D,5,none⟩=some (.slice p5 m c5)
theorem zHB {w:World} {e size n:Nat} {v:Value} {xs ys:List Value} (h:w.ownsRow 0 e size v (n+1) (xs++ys)) (hx:xs.length=n*size):∃g c,v= .slice (some ⟨g,0,none⟩) (n+1) c/\∀j x,ys[j]? =some x->w.cell? ⟨g,n*size+j,none⟩=some x:=by
 rcases h.2 with⟨_,q⟩|⟨g,c,cur,rfl,_⟩
 ·cases q
 ·refine⟨g,c,rfl,fun j x hj=> ?_⟩
  have hl:=h.1;rw[List.length_append,hx,Nat.succ_mul] at hl;have hjl:=(List.getElem?_eq_some_iff.1 hj).1;rw[h.cellAt _ (by rw[Nat.succ_mul];omega),List.getElem?_append_right (by omega),hx,Nat.add_sub_cancel_left,hj]
section
variable {W : World} {S : Nat → Prop} {g : Gt} {N : Nat}
theorem zJa (h:zEh W S g N) (hb:g.b=none) (hL:zBU W) (hN:N<18446744073709551614) (s:ByteArray) (fb fc:Nat) (i:Int) (hd:Row W fb 0 s) (hfb:fb<W.heap.size) (hdz:s.size<=300000) (hfc:s.size<=fc) (hfm:fc<=maxLen) (hi:0<=i/\i<=255):
 ∃ev:Ev,Calls Tryz.prog 84 #[.pointer (some ⟨g.q,0,none⟩),.int .u8 i,.slice (some ⟨fb,0,none⟩) s.size fc] W fun e w1=>e= .returned (.int .u8 ev.v)/\Trn S W w1/\∀w2,Below w1.heap.size w1 w2->Calls Tryz.prog 85 #[.pointer (some ⟨g.d,0,none⟩),.int .u8 i,.string s] w2 fun e w3=>e= .returned (.agg ev.l.toArray)/\zIU W S g (N+1) w3:=by
 obtain⟨S1,S2,⟨O,cv,rv,fv,R,room,now,b,F,cA,cD,cR,cM,hp,rfl⟩,hk,h3,rfl⟩:=h;rcases hk with⟨_,hlg,rfl⟩|⟨b',_,_,_,_,_,_,_,_,_,_,_,h1,_⟩
 ·refine⟨(evG R room now F s i).1,(zGU (T:=fun _=>False) (Z:=fun _ _=>True) hp hL hN s fb fc i hd hfb hdz hfc hfm hi (fun _ q=>q.elim) (fun w4 O' b' g4 _ _=> ?_)).mono fun e w1 z=> ?_⟩
  ·have q:=g4.blk
   rw[hlg] at q;exact(zH8 w4 q _ _ _ _ _).mono fun e w5 z=>⟨z.1,Trn.below z.2,trivial⟩
  ·obtain⟨e1,w4,t4,t1,_,hd⟩:=z
   have t5:Trn (fun x=>zCg g.q g.d O cv rv fv x\/False) W w1:=(t4.trans (t1.mono (fun x _ q=>q.elim)) (fun _ _ q=>q)).mono (fun x _ q=> .inl q);refine⟨e1,t5,fun w2 hb2=>(hd w2 hb2).mono fun e w3 y=>⟨y.1,?_⟩⟩;obtain⟨_,t3,O',b',fv',p3,n3⟩:=y;have s4:=t4.size;refine⟨fun x=>zCg g.q g.d O' cv rv fv' x\/False,⟨_,fun _=>False,⟨O',cv,rv,fv',R,room,now,b',_,_,_,_,_,p3,rfl⟩,.inl ⟨hb,hlg,rfl⟩,fun _ _ q=>q,rfl⟩,(t5.trans (Trn.below hb2) (fun _ _ q=>q)).trans (t3.mono (fun x _ q=> .inl (.inr (q.imp id .inr)))) (fun _ _ q=>q),fun x q=> ?_⟩;rcases q with q|q
   ·have s1:=t1.size
    rcases n3 x q with z|z|z
    ·exact .inl (.inl z)
    ·exact .inr z.1
    ·exact .inr (by omega)
   ·exact q.elim
 ·rw[hb] at h1;cases h1
theorem zJb (h:zEh W S g N) {b:Nat} (hb:g.b=some b) (hL:zBU W) (hN:N<=1000000) (s:ByteArray) (fb fc:Nat) (i:Int) (hd:Row W fb 0 s) (hfb:fb<W.heap.size) (hdz:s.size<=300000) (hfc:s.size<=fc) (hfm:fc<=maxLen) (hi:0<=i/\i<=255):
 ∃(ev:Ev) (n:Nat),n<=N/\(∃p c,W.cell? ⟨b,0,none⟩=some (.slice p n c))/\Calls Tryz.prog 84 #[.pointer (some ⟨g.q,0,none⟩),.int .u8 i,.slice (some ⟨fb,0,none⟩) s.size fc] W fun e w1=>e= .returned (.int .u8 ev.v)/\Trn S W w1/\∀w2,Below w1.heap.size w1 w2->Calls Tryz.prog 85 #[.pointer (some ⟨g.d,0,none⟩),.int .u8 i,.string s] w2 fun e w3=>e= .returned (.agg ev.l.toArray)/\zIU W S g (N+1) w3/\zQ0 w3 b g.d n ev:=by
 obtain⟨S1,S2,⟨O,cv,rv,fv,R,room,now,bi,F,cA,cD,cR,cM,hp,rfl⟩,hk,h3,rfl⟩:=h;rcases hk with⟨h1,_⟩|⟨b',p1,p2,sb,odd,ve,vc,vf,n,xs,ys,zs,h1,hn,hB,rfl⟩
 ·rw[hb] at h1;cases h1
 rw[hb] at h1;obtain rfl:b=b':=Option.some.inj h1;obtain⟨pe,ce,hve⟩:=zAn hB.ev;have lS:∀x,zIR b p1 p2 sb ve vc vf x->x<W.heap.size:=fun x q=>hB.lt x q
 refine⟨(evG R room now F s i).1,n,hn,⟨pe,ce,by rw[<-hve];exact hB.blk.cell 0 _ rfl⟩,(zGU (T:=zDL b ve vc vf) (Z:=fun w4 w5=>∃ve' vc' vf',zBT w5 g.q g.k b g.lg p1 p2 sb odd ve' vc' vf' (n+1) (n+1) (n+1) (xs++(evG R room now F s i).1.l) (ys++[.int .u64 ((cA+zBZ (evG R room now F s i).1.c (evG R room now F s i).1.v 0:Nat):Int),.int .u64 ((cD+zBZ (evG R room now F s i).1.c (evG R room now F s i).1.v 1:Nat):Int),.int .u64 ((cR+zBZ (evG R room now F s i).1.c (evG R room now F s i).1.v 2:Nat):Int),.int .u64 ((cM+zBZ (evG R room now F s i).1.c (evG R room now F s i).1.v 3:Nat):Int)]) (zs++[.int .i64 ((evG R room now F s i).2.length:Int)])/\∀x,zDL b ve' vc' vf' x->zDL b ve vc vf x\/w4.heap.size<=x) hp hL (by omega) s fb fc i hd hfb hdz hfc hfm hi (fun x q=>⟨lS x (.inl q),fun z=>h3 x z (.inl q)⟩) (fun w4 O' b' g4 n4 t4=> ?_)).mono fun e w1 z=> ?_⟩
 ·have hB4:=hB.trn t4 (fun x q z=>h3 x (.inl (z.imp id .inl)) q)
  refine(zNt w4 g4 hB4 (fun x q z=> ?_) (by omega) _ _ _ _ _).mono fun e w5 z=> ?_
  ·rcases z with z|z|z
   ·exact h3 x (.inl (.inl z)) q
   ·rcases n4 x z with y|y
    ·exact h3 x (.inl (.inr (.inl y))) q
    ·have:=lS x q;omega
   ·exact h3 x (.inl (.inr (.inr z))) q
  ·obtain⟨e1,ve',vc',vf',q1,q2,q3⟩:=z
   exact⟨e1,q2,ve',vc',vf',q1,q3⟩
 ·obtain⟨e1,w4,t4,t1,⟨ve',vc',vf',hB1,n1⟩,hd⟩:=z
  have s4:=t4.size;have s1:=t1.size;have t5:Trn (fun x=>zCg g.q g.d O cv rv fv x\/zIR b p1 p2 sb ve vc vf x) W w1:=(t4.mono (fun x _ q=> .inl q)).trans (t1.mono (fun x _ q=> .inr (.inl q))) (fun _ _ q=>q);have nS:∀x,zIR b p1 p2 sb ve' vc' vf' x->zIR b p1 p2 sb ve vc vf x\/w4.heap.size<=x:=fun x q=>by
   rcases q with q|q
   ·exact(n1 x q).imp .inl id
   ·exact .inl (.inr q)
  refine⟨e1,t5,fun w2 hb2=>(hd w2 hb2).mono fun e w3 y=>⟨y.1,?_⟩⟩;have s2:=hb2.size;obtain⟨_,t3,O',b',fv',p3,n3⟩:=y;have hB2:zBT w2 _ _ _ _ _ _ _ _ _ _ _ _ _ _ _ _ _:=hB1.trn (Trn.below (S:=fun _=>False) hb2) (fun _ _ q=>q);have hB3:=hB2.trn t3 (fun x q z=>by
   have zz:zCg g.q g.d O cv rv fv x:= .inr (z.imp id .inr);rcases nS x q with y|y
   ·exact h3 x zz y
   ·have:x<W.heap.size:=hp.doc.lts x (z.imp id .inr);omega)
  refine⟨⟨fun x=>zCg g.q g.d O' cv rv fv' x\/zIR b p1 p2 sb ve' vc' vf' x,⟨_,_,⟨O',cv,rv,fv',R,room,now,b',_,_,_,_,_,p3,rfl⟩,.inr ⟨b,p1,p2,sb,odd,ve',vc',vf',n+1,_,_,_,hb,by omega,hB3,rfl⟩,fun x q z=> ?_,rfl⟩,(t5.trans (Trn.below hb2) (fun _ _ q=>q)).trans (t3.mono (fun x _ q=> .inl (.inr (q.imp id .inr)))) (fun _ _ q=>q),fun x q=> ?_⟩,?_⟩
  ·have:=hB1.lt x z
   rcases n3 x q with y|y|y
   ·rcases nS x z with k|k
    ·exact h3 x y k
    ·have:x<W.heap.size:=by
      rcases y with y|y
      ·exact hp.gate.lts x y
      ·exact hp.doc.lts x y
     omega
   ·rcases nS x z with k|k
    ·have:=lS x k;omega
    ·omega
   ·omega
  ·rcases q with q|q
   ·rcases n3 x q with z|z|z
    ·exact .inl (.inl z)
    ·exact .inr z.1
    ·exact .inr (by omega)
   ·rcases nS x q with z|z
    ·exact .inl (.inr z)
    ·exact .inr (by omega)
  ·obtain⟨g1,c1,r1,r2⟩:=zHB hB3.ev hB.ev.1
   obtain⟨g2,c2,r3,r4⟩:=zHB hB3.ct hB.ct.1;obtain⟨g3,c3,r5,r6⟩:=zHB hB3.fl hB.fl.1;obtain⟨p5,c5,r7⟩:=zAn p3.doc.flows;refine⟨g1,c1,g2,c2,g3,c3,_,_,_,_,p5,_,c5,by rw[<-r1];exact hB3.blk.cell 0 _ rfl,by rw[<-r3];exact hB3.blk.cell 1 _ rfl,by rw[<-r5];exact hB3.blk.cell 2 _ rfl,r2,fun j v hj=>⟨r4 j v hj,?_⟩,?_,by rw[<-r7];exact p3.doc.blk.cell 5 _ rfl⟩
   ·refine p3.doc.blk.cell (6+j) v ?_
    match j,hj with
    |0,h=>exact h
    |1,h=>exact h
    |2,h=>exact h
    |3,h=>exact h
   ·have:=r6 0 _ rfl
    rwa [Nat.mul_one,Nat.add_zero] at this
end
end Go.Proofs.YtclpnafiiobfhaaGreatDoor

import Derived.Test.YtclpnafiiobfhaaGreatDoorQ34
import Derived.Test.YtclpnafiiobfhaaGreatDoorQ35
set_option linter.unusedVariables false
set_option linter.unusedSimpArgs false
set_option maxRecDepth 20000
set_option maxHeartbeats 6400000
namespace Go.Proofs.YtclpnafiiobfhaaGreatDoor
open Go.RowKit
theorem zEn.zero {W:World} {n g cap:Nat} {f:Nat->En} {v:Value} (h:zEn W v n f) (hn:0<n):∃g cap,v= .slice (some ⟨g,0,none⟩) n cap:=by
 rcases h with⟨_,q⟩|⟨g,cap,q,_⟩
 ·omega
 ·exact⟨g,cap,q⟩
theorem zNL {T mb room births n:Nat} {v:Value} {f:Nat->En} {F:List Fl} {G:List En} (w:World) (h:zAK w T mb v room births n f) (hr:Rel n f births F G) (now:Nat):
 Calls Tryz.prog 116 #[.pointer (some ⟨T,0,none⟩),.int .u64 (now:Int)] w fun e w'=>e= .returned (.tuple #[])/\∃v' n' f' G',zAK w' T mb v' room births n' f'/\Rel n' f' births (zA9 now F) G'/\Trn (Ows T mb v) w w'/\v'.ownBlock=v.ownBlock:=by
 obtain⟨F2,hF2⟩:∃F2,zA9 now F=F2:=⟨_,rfl⟩;rw[hF2];have HH:=hid h;have HR:=hid hr;have HF2:=hid hF2;have hmt:∀(x:Value) (W:World),(Go.method 518 241 x "End").run Tryz.prog W= .ok (274,x) W:=fun x W=>by kernel_rfl
 clear h hr hF2;go_enter Tryz.func116,Tryz.ntmps116;go_wp2_with fail;go_loopg [4] n (fun r _ wx=>∃(v':Value) (f':Nat->En) (F':List Fl) (G':List En),Hid (zAK wx T mb v' room births r f'/\Rel r f' births F' G'/\zA9 now F'=F2/\Trn (Ows T mb v) w wx/\v'.ownBlock=v.ownBlock))
 case atStart=>exact⟨v,f,F,G,HH.out,HR.out,HF2.out,Trn.refl _ _,rfl⟩
 case round=>
  obtain⟨v',f',F',G',H1⟩:=hrel;cases gk with
  |zero=>
   obtain⟨pp,cc,hv⟩:=H1.out.1.row.form;have hT3:wr.cell? ⟨T,3,none⟩=some (.slice pp 0 cc):=by rw[<-hv];exact H1.out.1.blk.cell 3 _ rfl
   clear hv;go_wp2_with fail;go_end0;obtain⟨q1,q2,q3,q4,q5⟩:=H1.out;refine⟨rfl,v',0,f',G',q1,?_,q4,q5⟩;rw[<-q3,q2.alive now (.inl rfl)];exact q2
  |succ m=>
   obtain⟨g,cap,hv⟩:=H1.out.1.row.zero (g:=0) (cap:=0) (Nat.succ_pos m);subst hv;have hT3:=H1.out.1.blk.cell 3 _ rfl;have hm:m+1<=64:=Nat.le_trans H1.out.1.le H1.out.1.big;obtain⟨⟨a,b,p,s,d,rep,clo,u⟩,hfl⟩:∃y,(f' 0).v=y:=⟨_,rfl⟩;obtain⟨e5,e6,e7,e8,e9,e10,e11,e12⟩:=H1.out.1.ents.flow (Nat.succ_pos m) hfl;simp only[Nat.zero_mul,Nat.zero_add] at e5 e6 e7 e8 e9 e10 e11 e12;have HU:Hid ((f' 0).v.u=u):=by show(f' 0).v.u=u;rw[hfl]
   have HEN:=hid (zNG a b p s d u rep clo wr);clear hfl;have j1:(0:Int)<((m+1:Nat):Int):=by omega
   have j2:(0:Int)<(m:Int)+1:=by omega
   by_cases ht:u<=now
   ·have t1:(u:Int)<=(now:Int):=by omega
    have HT1:Hid (u<=now):=ht;clear ht;go_upto_region 1 with(refine HEN.out.mono ?_;rintro e' w2 ⟨rfl,hb2⟩;have HB2:=hid hb2;clear hb2)
    have HDF:=hid (zDz w2 (H1.out.1.below HB2.out));clear e5 e6 e7 e8 e9 e10 e11 e12 hT3;go_wp2_with (go_at_call 134;refine HDF.out.mono ?_;rintro e' w5 ⟨rfl,h5,t5⟩;have HC5:=hid h5;have T5:=hid t5;clear h5 t5);go_roundg m
    case measure=>omega
    case rel=>
     obtain⟨q1,q2,q3,q4,q5⟩:=H1.out;obtain⟨F3,G3,r1,r2⟩:=q2.ended now (by rw[HU.out];exact HT1.out);refine⟨_,_,F3,G3,HC5.out,r1,r2.trans q3,(q4.trans (Trn.below HB2.out) (fun _ _ q=>q)).trans T5.out (fun y _ q=> ?_),q5⟩;rcases q with q|q|q
     ·exact .inl q
     ·exact .inr (.inl q)
     ·exact .inr (.inr (q5.symm.trans q))
   ·have t1:¬((u:Int)<=(now:Int)):=by omega
    have HT1:Hid (¬u<=now):=ht;clear ht;go_wp2_with (refine HEN.out.mono ?_;rintro e' w2 ⟨rfl,hb2⟩;have HB2:=hid hb2;clear hb2);go_end0;obtain⟨q1,q2,q3,q4,q5⟩:=H1.out;refine⟨rfl,_,m+1,f',G',q1.below HB2.out,?_,q4.trans (Trn.below HB2.out) (fun _ _ q=>q),q5⟩;rw[<-q3,q2.alive now (.inr (by rw[HU.out];have:=HT1.out;omega))];exact q2
theorem zJI (room:Nat) (hr:room<=64) (w:World):
 Calls Tryz.prog 143 #[.int .i64 (room:Int)] w fun e w'=>e= .returned (.pointer (some ⟨w.heap.size+1,0,none⟩))/\zAK w' (w.heap.size+1) w.heap.size (.slice none 0 0) room 0 0 (fun _=>⟨⟨0,0,0,0,0⟩,fl0,0⟩)/\Below w.heap.size w w':=by
 have hmm:=@run_makeMap Tryz.prog;go_enter Tryz.func143,Tryz.ntmps143;go_wp2_with fail;go_ret;refine⟨rfl,⟨?_,.inl ⟨rfl,rfl⟩,?_,fun i hi=>absurd hi (by omega),fun i hi=>absurd hi (by omega),by omega,(fun g hg=>by cases hg),Nat.zero_le _,hr⟩,(bal _ _).alloc (by simp) _⟩
 ·have q:=Blk.made (w.alloc (.map #[] 0)) 263 [.int .i64 (room:Int),.int .u64 0,.map (some w.heap.size),.slice none 0 0] (zAF rfl)
  rw[show(w.alloc (.map #[] 0)).heap.size=w.heap.size+1 from by simp] at q;exact q
 ·exact((Plc.made w).alloc _).congr (fun k i=>⟨fun q=>q.elim,fun q=>absurd q.1 (by omega)⟩)
structure Hd.Wf (h:Hd):Prop where
 a:0<=h.a/\h.a<4294967296
 b:0<=h.b/\h.b<4294967296
 p:0<=h.p/\h.p<256
 s:0<=h.s/\h.s<65536
 d:0<=h.d/\h.d<65536
 f:0<=h.f/\h.f<=255
theorem Hd.Wf.key {h:Hd} (q:h.Wf):h.key.Wf:=by
 unfold Hd.key zOh
 split
 ·exact⟨q.b,q.d,q.a,q.s,q.p⟩
 ·exact⟨q.a,q.s,q.b,q.d,q.p⟩
structure zEf (W:World) (K T mb:Nat) (v:Value) (room now births n:Nat) (f:Nat->En) (F:List Fl) (G:List En):Prop where
 blk:Blk 236 W K [.int .u64 (now:Int),.pointer (some ⟨T,0,none⟩)]
 tab:zAK W T mb v room births n f
 rel:Rel n f births F G
 own:¬Ows T mb v K
 now:now<=zCr
def Kps (W:World) (O:Nat->Prop) (K room now births:Nat) (F:List Fl):Prop:=∃T mb v n f G,zEf W K T mb v room now births n f F G/\O=fun x=>x=K\/Ows T mb v x
theorem zAK.own_lt {W:World} {T mb room births n:Nat} {v:Value} {f:Nat->En} (h:zAK W T mb v room births n f) (x:Nat) (q:Ows T mb v x):x<W.heap.size:=by
 rcases q with rfl|rfl|q
 ·exact h.blk.lt
 ·exact h.map.lt
 ·exact h.row.lt x q
theorem Kps.lt {W:World} {O:Nat->Prop} {K room now births:Nat} {F:List Fl} (h:Kps W O K room now births F) (x:Nat) (q:O x):x<W.heap.size:=by
 obtain⟨T,mb,v,n,f,G,h,rfl⟩:=h;rcases q with rfl|q
 ·exact h.blk.lt
 ·exact h.tab.own_lt x q
theorem zEf.below {W W':World} {K T mb room now births n:Nat} {v:Value} {f:Nat->En} {F:List Fl} {G:List En} (h:zEf W K T mb v room now births n f F G) (hb:Below W.heap.size W W'):zEf W' K T mb v room now births n f F G:=
 ⟨h.blk.below hb h.blk.lt,h.tab.below hb,h.rel,h.own,h.now⟩
theorem Kps.below {W W':World} {O:Nat->Prop} {K room now births:Nat} {F:List Fl} (h:Kps W O K room now births F) (hb:Below W.heap.size W W'):Kps W' O K room now births F:=by
 obtain⟨T,mb,v,n,f,G,h,rfl⟩:=h;exact⟨T,mb,v,n,f,G,h.below hb,rfl⟩
theorem Blk.trn {t:TypeId} {w w':World} {g:Nat} {L:List Value} {S:Nat->Prop} (h:Blk t w g L) (ht:Trn S w w') (hg:¬S g):Blk t w' g L:=⟨(ht.block g h.lt hg).trans h.1,h.2⟩
theorem zJJ {K room now births:Nat} {O:Nat->Prop} {F:List Fl} (w:World) (h:Kps w O K room now births F):
 Calls Tryz.prog 89 #[.pointer (some ⟨K,0,none⟩)] w fun e w'=>e= .returned (.int .u64 (now:Int))/\w'=w:=by
 obtain⟨T,mb,v,n,f,G,h,_⟩:=h;have h0:=h.blk.cell 0 _ rfl;clear h;go_enter Tryz.func89,Tryz.ntmps89;go_wp2_with fail;go_ret;exact⟨rfl,rfl⟩
theorem zH4 (w w':World) (room:Nat) (h:zAK w' (w.heap.size+1) w.heap.size (.slice none 0 0) room 0 0 (fun _=>⟨⟨0,0,0,0,0⟩,fl0,0⟩)):
 Kps (w'.alloc (.cells #[.int .u64 0,.pointer (some ⟨w.heap.size+1,0,none⟩)] 236)) (fun x=>x=w'.heap.size\/Ows (w.heap.size+1) w.heap.size (.slice none 0 0) x) w'.heap.size room 0 0 []:=by
 refine⟨_,_,_,0,_,[],⟨Blk.made w' _ [.int .u64 0,.pointer (some ⟨w.heap.size+1,0,none⟩)] (zAF rfl),h.below (bal _ _),Rel.start _,fun q=> ?_,by decide⟩,rfl⟩;have:=h.own_lt _ q;omega
theorem zEg (room:Nat) (hr:room<=64) (w:World):
 Calls Tryz.prog 125 #[.int .i64 (room:Int)] w fun e w'=>∃K O,e= .returned (.pointer (some ⟨K,0,none⟩))/\Kps w' O K room 0 0 []/\Below w.heap.size w w'/\∀x,O x->w.heap.size<=x:=by
 have HC:=hid (zJI room hr w);go_enter Tryz.func125,Tryz.ntmps125;go_wp2_with (go_at_call 143;refine HC.out.mono ?_;rintro e w2 ⟨rfl,h2,hb2⟩;have H2:=hid h2;have HB2:=hid hb2;clear h2 hb2);go_ret;have hz:w.heap.size<=w2.heap.size:=HB2.out.size;refine⟨_,_,rfl,zH4 w w2 room H2.out,HB2.out.alloc hz _,fun x q=> ?_⟩;rcases q with rfl|rfl|rfl|q
 ·exact hz
 ·omega
 ·omega
 ·cases q
theorem zOs {K room now births:Nat} {O:Nat->Prop} {F:List Fl} (w:World) (h:Kps w O K room now births F) (m:Nat) (hm:m<=zCr):
 Calls Tryz.prog 87 #[.pointer (some ⟨K,0,none⟩),.int .u64 (m:Int)] w fun e w'=>e= .returned (.tuple #[])/\∃O',Kps w' O' K room (zBO now m) births (zA9 (zBO now m) F)/\Trn O w w'/\∀x,O' x->O x:=by
 obtain⟨T,mb,v,n,f,G,h,rfl⟩:=h;have h0:=h.blk.cell 0 _ rfl;have f0:=h.blk.frozen 0;have HLT:=hid (zFY now m w h.now hm);have hp:zBO now m<=zCr:=by unfold zBO;split<;>omega
 generalize zBO now m=now2 at HLT hp ⊢;have HP:=hid hp;obtain⟨W1,hW1⟩:∃W1,w.setCell ⟨K,0,none⟩ (.int .u64 (now2:Int))=W1:=⟨_,rfl⟩;have HW1:=hid hW1;have T1:Hid (Trn (fun x=>x=K) w W1):=by rw[<-hW1];exact Trn.setCell w K 0 _ rfl
 have B1:Hid (Blk 236 W1 K [.int .u64 (now2:Int),.pointer (some ⟨T,0,none⟩)]):=by rw[<-hW1];exact h.blk.set 0 _
 have tab1:zAK W1 T mb v room births n f:=by
  have e:∀y,Ows T mb v y->W1.heap[y]? =w.heap[y]? :=fun y q=>T1.out.block y (h.tab.own_lt y q) (fun z=>h.own (z▸q))
  refine⟨⟨(e T (.inl rfl)).trans h.tab.blk.1,h.tab.blk.2⟩,?_,h.tab.map.same (e mb (.inr (.inl rfl))),h.tab.wf,h.tab.ns,h.tab.tm,h.tab.tr,h.tab.le,h.tab.big⟩;rcases h.tab.row with q|⟨g,cap,rfl,q⟩
  ·exact .inl q
  ·exact .inr ⟨g,cap,rfl,q.same (e g (.inr (.inr rfl)))⟩
 have k0:=B1.out.cell 0 _ rfl;have k1:=B1.out.cell 1 _ rfl;have HEB:=hid (zNL W1.drew (tab1.below (Below.drew (Below.refl _ _))) h.rel now2);have HOW:=hid h.own;clear h hW1 hp hm tab1;go_enter Tryz.func87,Tryz.ntmps87;go_upto_region 1 with(go_at_call 115;refine HLT.out.mono ?_;rintro e w2 ⟨rfl,hw⟩;obtain rfl:w=w2:=hw.symm)
 rw[HW1.out];clear h0 f0;have HFIN:Hid (∀wc,(∃v' n' f' G',zAK wc T mb v' room births n' f'/\Rel n' f' births (zA9 now2 F) G'/\Trn (Ows T mb v) W1.drew wc/\v'.ownBlock=v.ownBlock)->∃O',Kps wc O' K room now2 births (zA9 now2 F)/\Trn (fun x=>x=K\/Ows T mb v x) w wc/\∀x,O' x->(x=K\/Ows T mb v x)):=fun wc hq=>by
  obtain⟨v',n',f',G',q1,q2,q3,q4⟩:=hq;have e:∀x,Ows T mb v' x->Ows T mb v x:=fun x q=>by
   rcases q with q|q|q
   ·exact .inl q
   ·exact .inr (.inl q)
   ·exact .inr (.inr (q4▸q))
  have q3':Trn (Ows T mb v) W1 wc:=(Trn.drew _ _).trans q3 (fun _ _ q=>q);exact⟨_,⟨T,mb,v',n',f',G',⟨B1.out.trn q3' HOW.out,q1,q2,fun q=>HOW.out (e _ q),HP.out⟩,rfl⟩,(T1.out.mono (fun x _ q=> .inl q)).trans q3' (fun x _ q=> .inr q),fun x q=>q.imp id (e x)⟩
 go_region_with (go_at_call 116;refine HEB.out.mono ?_;rintro e' w6 ⟨rfl,h6⟩;have H6:=hid h6;clear h6)
 all_goals
  go_wp2_with fail;go_end0;exact⟨rfl,HFIN.out _ H6.out⟩
theorem zD0 {K T mb room now births n:Nat} {v:Value} {f:Nat->En} {F:List Fl} {G:List En} {w:World} (h:zEf w K T mb v room now births n f F G) (hd:Hd) (hw:hd.Wf):
 ∃(fl:Fl) (q:Bool),(∀W,Below w.heap.size w W->Calls Tryz.prog 148 #[.pointer (some ⟨T,0,none⟩),.agg hd.key.cells] W fun e w'=>e= .returned (.tuple #[.agg fl.cells,.bool q])/\Below W.heap.size W w')/\
  ((q=true/\∃i j,zBS F hd=some i/\F[i]? =some fl/\j<n/\(f j).k=hd.key/\(f j).v=fl/\G[i]? =some (f j))\/(q=false/\zBS F hd=none/\fl=fl0/\∀j,j<n->(f j).k≠hd.key)):=by
 by_cases e:∃j,j<n/\(f j).k=hd.key
 ·obtain⟨j,hj,ek⟩:=e
  obtain⟨i,hi,e1,e2,e3,_⟩:=h.rel.some hd hj ek;refine⟨(f j).v,true,fun W hb=> ?_,.inl ⟨rfl,i,j,e1,by rw[List.getElem?_eq_getElem hi,e2],hj,ek,rfl,e3⟩⟩;have ht:=h.tab.below hb;rcases ht.row with⟨_,q⟩|⟨g,cap,q,_⟩
  ·omega
  ·subst q
   exact zNJ W ht hd.key hw.key j hj ek
 ·have e:∀j,j<n->(f j).k≠hd.key:=fun j hj q=>e ⟨j,hj,q⟩
  exact⟨fl0,false,fun W hb=>zNK W (h.tab.below hb) hd.key hw.key e,.inr ⟨rfl,(h.rel.none hd).2 e,rfl,e⟩⟩
def zA6 (F:List Fl) (h:Hd):Nat:=zBR ((zBS F h).map fun i=>F.getD i fl0) h
structure zIe (W0 W w':World):Prop where
 b:Below W0.heap.size W0 w'
 c:∀b o,b<W.heap.size->w'.cell? ⟨b,o,none⟩=W.cell? ⟨b,o,none⟩
 f:∀b o,b<W.heap.size->w'.frozen? ⟨b,o,none⟩=W.frozen? ⟨b,o,none⟩
 h:∀b,b<W.heap.size->w'.heap[b]? =W.heap[b]?
 z:W.heap.size<=w'.heap.size
 l:∀b,b<W.heap.size->b<w'.heap.size
theorem zIe.of {W0 W w':World} (h0:Below W0.heap.size W0 W) (h:Below W.heap.size W w'):zIe W0 W w':=
 ⟨h0.trans (h.mono h0.size),fun b o hb=>h.cell (p:=⟨b,o,none⟩) hb,fun b o hb=>h.frozen (p:=⟨b,o,none⟩) hb,fun b hb=>h.block b hb,h.size,fun b hb=>Nat.lt_of_lt_of_le hb h.size⟩
theorem zCI {t:TypeId} {w:World} {g:Nat} {z0 z1 z2 z3 z4 z5 z6 z7:Value} (x0 x1 x2 x3 x4 x5 x6 x7:Value) (h:w.heap[g]? =some (.cells #[z0,z1,z2,z3,z4,z5,z6,z7] t (0,0))) (hx:∀v ∈ [x0,x1,x2,x3,x4,x5,x6,x7],v.oneCell'=true):Blk t ((((((((w.setCell ⟨g,0,none⟩ x0).setCell ⟨g,1,none⟩ x1).setCell ⟨g,2,none⟩ x2).setCell ⟨g,3,none⟩ x3).setCell ⟨g,4,none⟩ x4).setCell ⟨g,5,none⟩ x5).setCell ⟨g,6,none⟩ x6).setCell ⟨g,7,none⟩ x7) g [x0,x1,x2,x3,x4,x5,x6,x7]:=by
 have e:∀(w:World) (L:List Value) (i:Nat) (x:Value),w.heap[g]? =some (.cells L.toArray t (0,0))->(w.setCell ⟨g,i,none⟩ x).heap[g]? =some (.cells (L.set i x).toArray t (0,0)):=fun w L i x h=>by simp[World.setCell,Array.getElem?_modify,h]
 exact⟨e _ _ 7 x7 (e _ _ 6 x6 (e _ _ 5 x5 (e _ _ 4 x4 (e _ _ 3 x3 (e _ _ 2 x2 (e _ _ 1 x1 (e _ [z0,z1,z2,z3,z4,z5,z6,z7] 0 x0 h))))))),hx⟩
theorem zD1 (t:TypeId) (w3:World) {x0 x1 x2 x3 x4 x5 x6 x7:Value} (h:∀v ∈ [x0,x1,x2,x3,x4,x5,x6,x7],v.oneCell'=true):Blk t (w3.alloc (.cells #[x0,x1,x2,x3,x4,x5,x6,x7] t)) w3.heap.size [x0,x1,x2,x3,x4,x5,x6,x7]:=Blk.made w3 t [x0,x1,x2,x3,x4,x5,x6,x7] h
theorem zOt {W0 w2 w3:World} {c:Array Value} {t:TypeId} (h:zIe W0 (w2.alloc (.cells c t)) w3):w3.heap[w2.heap.size]? =some (.cells c t (0,0)):=(h.h _ (by simp)).trans (heap_alloc_new w2 _)
theorem zK0 {W0 w2 w3:World} {c:Array Value} {t:TypeId} (h:zIe W0 (W0.alloc (.cells c t)).drew w2) (h':zIe W0 w2 w3):w3.heap[W0.heap.size]? =some (.cells c t (0,0)):=(h'.h _ (Nat.lt_of_lt_of_le (by simp) h.z)).trans ((h.h _ (by simp)).trans (heap_alloc_new W0 _))
theorem zAe {B g:Nat} {a w:World} (h:Below B a w) (hg:B<=g) (x0 x1 x2 x3 x4 x5 x6 x7:Value):Below B a ((((((((w.setCell ⟨g,0,none⟩ x0).setCell ⟨g,1,none⟩ x1).setCell ⟨g,2,none⟩ x2).setCell ⟨g,3,none⟩ x3).setCell ⟨g,4,none⟩ x4).setCell ⟨g,5,none⟩ x5).setCell ⟨g,6,none⟩ x6).setCell ⟨g,7,none⟩ x7):=
 (((((((h.setCell (p:=⟨g,0,none⟩) hg _).setCell (p:=⟨g,1,none⟩) hg _).setCell (p:=⟨g,2,none⟩) hg _).setCell (p:=⟨g,3,none⟩) hg _).setCell (p:=⟨g,4,none⟩) hg _).setCell (p:=⟨g,5,none⟩) hg _).setCell (p:=⟨g,6,none⟩) hg _).setCell (p:=⟨g,7,none⟩) hg _
theorem zOu {K room now births:Nat} {O:Nat->Prop} {F:List Fl} (w:World) (h:Kps w O K room now births F) (hd:Hd) (hw:hd.Wf):
 Calls Tryz.prog 128 #[.pointer (some ⟨K,0,none⟩),.agg hd.cells] w fun e w'=>e= .returned (.tuple #[.int .u8 (zA6 F hd:Int),.bool (zBS F hd).isSome])/\Below w.heap.size w w':=by
 obtain⟨T,mb,v,n,f,G,h,rfl⟩:=h;obtain⟨W0,hW0⟩:∃W0,w.alloc (.cells hd.cells 38)=W0:=⟨_,rfl⟩;have HW0:=hid hW0;have HB0:Hid (Below w.heap.size w W0):=by rw[<-hW0];exact bal _ _
 have HBX:Hid (Blk 38 W0 w.heap.size hd.l):=by rw[<-hW0];exact Blk.made w _ _ hd.one
 have h0:=h.below (W':=W0) (by rw[<-hW0];exact bal _ _);have k1:=h0.blk.cell 1 _ rfl;have hKW:=h0.blk.lt;have HK1:=hid k1;obtain⟨fl,q,hfd,hsp⟩:=zD0 h0 hd hw;have HFD:Hid (∀W,Below W0.heap.size W0 W->Calls Tryz.prog 148 #[.pointer (some ⟨T,0,none⟩),.agg hd.key.cells] W fun e w'=>e= .returned (.tuple #[.agg fl.cells,.bool q])/\zIe W0 W w'):=fun W hb=>(hfd W hb).mono (fun e w' z=>⟨z.1,zIe.of hb z.2⟩)
 have HKO:Hid (∀W,Below W0.heap.size W0 W->Calls Tryz.prog 149 #[.agg hd.cells] W fun e w'=>e= .returned (.agg hd.key.cells)/\zIe W0 W w'):=fun W hb=>(zDy hd W).mono (fun e w' z=>⟨z.1,zIe.of hb z.2⟩)
 have HST:Hid (∀W,Calls Tryz.prog 150 #[.agg fl.cells,.agg hd.cells] W fun e w'=>e= .returned (.int .u8 (zBR (some fl) hd:Int))/\Below W.heap.size W w'):=fun W=>zNA fl hd W
 have HFS:Hid (∀W,Calls Tryz.prog 151 #[.agg hd.cells] W fun e w'=>e= .returned (.int .u8 (zBR none hd:Int))/\Below W.heap.size W w'):=fun W=>zCW hd W hw.f
 have HS:Hid (∀x:Int,x=(if q=true then(zBR (some fl) hd:Int) else(zBR none hd:Int))->x=(zA6 F hd:Int)/\q=(zBS F hd).isSome):=fun x hx=>by
  rcases hsp with⟨rfl,i,j,e1,e2,_⟩|⟨rfl,e1,_⟩
  ·unfold zA6
   rw[hx,if_pos rfl,e1];simp[List.getD_eq_getElem?_getD,e2]
  ·unfold zA6
   rw[hx,if_neg (by decide),e1];simp
 have hone:=fl.one;generalize (zBS F hd).isSome=kn at HS ⊢;generalize (zA6 F hd:Int)=st at HS ⊢;generalize (zBR (some fl) hd:Int)=st1 at HS HST;generalize (zBR none hd:Int)=st2 at HS HFS;generalize hd.key=ky at HFD HKO;have c:∀i y,hd.l[i]? =some y->W0.cell? ⟨w.heap.size,i,none⟩=some y:=HBX.out.cell;obtain⟨la,lp,ha,hp,kp⟩:=ky;obtain⟨a,b,p,s,d,ff⟩:=hd;obtain⟨xa,xb,xp,xs,xd,xrep,xclo,xu⟩:=fl;have c0:=c 0 _ rfl;have c1:=c 1 _ rfl;have c2:=c 2 _ rfl;have c3:=c 3 _ rfl;have c4:=c 4 _ rfl;have c5:=c 5 _ rfl;have HON:=hid hone;dsimp only[Hd.cells,Fl.cells,Ky.cells,Hd.l] at HW0 HFD HKO HST HFS HBX ⊢;have hgl:w.heap.size<W0.heap.size:=by rw[<-hW0];simp
 have hgn:w.heap.size≠W0.heap.size:=Nat.ne_of_lt hgl;have hKn:K≠W0.heap.size:=Nat.ne_of_lt hKW;have SOF:Hid (∀w':World,Below W0.heap.size W0 w'->(Below W0.heap.size W0 w'/\w'.cell? ⟨K,1,none⟩=some (.pointer (some ⟨T,0,none⟩))/\w'.cell? ⟨w.heap.size,0,none⟩=some (.int .u32 a)/\w'.cell? ⟨w.heap.size,1,none⟩=some (.int .u32 b)/\w'.cell? ⟨w.heap.size,2,none⟩=some (.int .u8 p)/\w'.cell? ⟨w.heap.size,3,none⟩=some (.int .u16 s)/\w'.cell? ⟨w.heap.size,4,none⟩=some (.int .u16 d)/\w'.cell? ⟨w.heap.size,5,none⟩=some (.int .u8 ff))):=fun w' hb=>⟨hb,(hb.cell (p:=⟨K,1,none⟩) hKW).trans k1,(hb.cell (p:=⟨w.heap.size,0,none⟩) hgl).trans c0,(hb.cell (p:=⟨w.heap.size,1,none⟩) hgl).trans c1,(hb.cell (p:=⟨w.heap.size,2,none⟩) hgl).trans c2,(hb.cell (p:=⟨w.heap.size,3,none⟩) hgl).trans c3,(hb.cell (p:=⟨w.heap.size,4,none⟩) hgl).trans c4,(hb.cell (p:=⟨w.heap.size,5,none⟩) hgl).trans c5⟩
 clear h h0 hfd hsp hw hW0 c hone;go_enter Tryz.func128,Tryz.ntmps128;go_upto_region 1 with fail
 rw[HW0.out];go_cut [6,7] from 8 to 17 (fun x y w'=>∃g6,x= .pointer (some ⟨g6,0,none⟩)/\y= .bool q/\Blk 241 w' g6 [.int .u32 xa,.int .u32 xb,.int .u8 xp,.int .u16 xs,.int .u16 xd,.bool xrep,.bool xclo,.int .u64 (xu:Int)]/\Below W0.heap.size W0 w')
 case first=>
  go_region_held3 (fun w'=>Below W0.heap.size W0 w'/\w'.cell? ⟨K,1,none⟩=some (.pointer (some ⟨T,0,none⟩))/\w'.cell? ⟨w.heap.size,0,none⟩=some (.int .u32 a)/\w'.cell? ⟨w.heap.size,1,none⟩=some (.int .u32 b)/\w'.cell? ⟨w.heap.size,2,none⟩=some (.int .u8 p)/\w'.cell? ⟨w.heap.size,3,none⟩=some (.int .u16 s)/\w'.cell? ⟨w.heap.size,4,none⟩=some (.int .u16 d)/\w'.cell? ⟨w.heap.size,5,none⟩=some (.int .u8 ff)) ((go_split_ands;refine SOF.out _ ?_;with_reducible first|assumption|exact Below.drew (Below.refl _ _)|exact Below.drew (by with_reducible assumption)|exact Below.alloc (by with_reducible assumption) (Below.size (by with_reducible assumption)) _|exact Below.drew (Below.alloc (Below.refl _ _) (Nat.le_refl _) _)|exact zAe (by with_reducible assumption) (Below.size (by with_reducible assumption)) _ _ _ _ _ _ _ _|exact zAe (by with_reducible assumption) (Nat.le_refl _) _ _ _ _ _ _ _ _)) ((first|(go_at_call 149;refine(HKO.out _ (by with_reducible first|assumption|exact Below.drew (Below.refl _ _)|exact Below.alloc (by with_reducible assumption) (Below.size (by with_reducible assumption)) _|exact Below.drew (Below.alloc (Below.refl _ _) (Nat.le_refl _) _))).mono ?_;rintro e w2 ⟨rfl,hs2⟩;have hb2:=hs2.b;have hc2:=hs2.c;have hf2:=hs2.f;have hl2:=hs2.l;have HS2:=hid hs2;clear hs2)|(go_at_call 148;refine(HFD.out _ (by with_reducible first|assumption|exact Below.drew (Below.refl _ _)|exact Below.alloc (by with_reducible assumption) (Below.size (by with_reducible assumption)) _|exact Below.drew (Below.alloc (Below.refl _ _) (Nat.le_refl _) _))).mono ?_;rintro e w3 ⟨rfl,hs3⟩;have hb3:=hs3.b;have hc3:=hs3.c;have hf3:=hs3.f;have hl3:=hs3.l;have HS3:=hid hs3;clear hs3)))
  all_goals
   go_wp2_with fail;go_meet;refine⟨_,rfl,rfl,?_,?_⟩
   ·first
     |with_reducible exact zD1 _ w3 HON.out
     |with_reducible exact zCI _ _ _ _ _ _ _ _ (zOt HS3.out) HON.out
     |with_reducible exact zCI _ _ _ _ _ _ _ _ (zK0 HS2.out HS3.out) HON.out
   ·first
     |with_reducible exact Below.alloc hb3 hb3.size _
     |with_reducible exact zAe hb3 hb2.size _ _ _ _ _ _ _ _
     |with_reducible exact zAe hb3 (Nat.le_refl _) _ _ _ _ _ _ _ _
 obtain⟨g6,rfl,rfl,hB6,hb6⟩:=hcut;obtain⟨_,_,d0,d1,d2,d3,d4,d5⟩:=SOF.out wc hb6;have x0:=hB6.cell 0 _ rfl;have x1:=hB6.cell 1 _ rfl;have x2:=hB6.cell 2 _ rfl;have x3:=hB6.cell 3 _ rfl;have x4:=hB6.cell 4 _ rfl;have x5:=hB6.cell 5 _ rfl;have x6:=hB6.cell 6 _ rfl;have x7:=hB6.cell 7 _ rfl;have HB6:=hid (HB0.out.trans (hb6.mono HB0.out.size));clear hB6 hb6 c0 c1 c2 c3 c4 c5 k1 SOF HKO HFD;cases q with
 |true=>
  go_wp2_with (go_at_call 150;refine(HST.out _).mono ?_;rintro e w4 ⟨rfl,hb4⟩;have HB4:=hid hb4;clear hb4);go_ret2;obtain⟨z1,z2⟩:=HS.out _ rfl;exact⟨by rw[<-z1,<-z2];rfl,HB6.out.trans (HB4.out.mono HB6.out.size)⟩
 |false=>
  go_wp2_with (go_at_call 151;refine(HFS.out _).mono ?_;rintro e w4 ⟨rfl,hb4⟩;have HB4:=hid hb4;clear hb4);go_ret2;obtain⟨z1,z2⟩:=HS.out _ rfl;exact⟨by rw[<-z1,<-z2];rfl,HB6.out.trans (HB4.out.mono HB6.out.size)⟩
def zG0 (W w':World) (T mb:Nat) (v:Value) (room births:Nat) (F':List Fl):Prop:=∃v' n' f' G' b',zAK w' T mb v' room b' n' f'/\Rel n' f' b' F' G'/\Trn (Ows T mb v) W w'/\(∀y,Ows T mb v' y->Ows T mb v y\/W.heap.size<=y)/\b'<=births+1
theorem zNM {K T mb room now births n:Nat} {v:Value} {f:Nat->En} {F:List Fl} {G:List En} {w:World} (h:zEf w K T mb v room now births n f F G) (hd:Hd) (hw:hd.Wf) (x:Fl) {fl:Fl} {i j:Nat} (hj:j<n) (ek:(f j).k=hd.key) (ev:(f j).v=fl) (hG:G[i]? =some (f j)) (hx:x.key=fl.key) (W:World) (hb:Below w.heap.size w W):
 Calls Tryz.prog 156 #[.pointer (some ⟨T,0,none⟩),.agg hd.key.cells,.agg x.cells] W fun e w'=>e= .returned (.bool false)/\zG0 W w' T mb v room births (F.set i x):=by
 have ht:=h.tab.below hb;rcases ht.row with⟨_,q⟩|⟨g,cap,q,_⟩
 ·omega
 ·subst q
  refine(zQb W ht hd.key hw.key x j hj ek).mono (fun e w' z=>⟨z.1,_,n,_,_,births,z.2.1,h.rel.turn hj hG x (by rw[hx,<-ev]),z.2.2,fun y q=> .inl q,by omega⟩)
theorem zNN {K T mb room now births n:Nat} {v:Value} {f:Nat->En} {F:List Fl} {G:List En} {w:World} (h:zEf w K T mb v room now births n f F G) (hr:1<=room) (hbi:births+1<18446744073709551616) (hd:Hd) (hw:hd.Wf) (x:Fl) (hx:x.key=hd.key) (hn:∀j,j<n->(f j).k≠hd.key) (W:World) (hb:Below w.heap.size w W):
 Calls Tryz.prog 156 #[.pointer (some ⟨T,0,none⟩),.agg hd.key.cells,.agg x.cells] W fun e w'=>e= .returned (.bool (decide (F.length=room)))/\zG0 W w' T mb v room births ((if F.length=room then F.eraseIdx (zKv F) else F)++[x]):=by
 have ht:=h.tab.below hb;have hl:=h.rel.flen
 by_cases q:n=room
 ·have hlr:F.length=room:=by rw[hl,q]
  obtain⟨m,rfl⟩:∃m,n=m+1:=⟨n-1,by omega⟩;obtain⟨g,cap,hv⟩:=ht.row.zero (g:=0) (cap:=0) (Nat.succ_pos m);subst hv;obtain⟨i,hG,hmin⟩:=h.rel.min;have hne:F≠[]:=fun e=>by rw[e] at hl;simp at hl
  have hi:zKv F=i:=(zJG F hne).unique hmin;have rd:=h.rel.drop hG;have hnd:∀a,a<m->(Hp.dropFirst rkE m f a).k≠hd.key:=fun a ha=>by
   have:Hp.Has m (Hp.dropFirst rkE m f) (Hp.dropFirst rkE m f a):=⟨a,ha,rfl⟩;rw[Hp.dropFirst_has rkE m f h.rel.apart] at this;obtain⟨⟨b,hb2,e2⟩,_⟩:=this;rw[<-e2];exact hn b hb2
  rw[decide_eq_true hlr,if_pos hlr,hi];refine(zOr W ht hd.key hw.key x q.symm hbi hn hnd).mono (fun e w' z=> ?_);obtain⟨z1,v',z2,z3,z4⟩:=z;have ra:=rd.add x (fun a ha=>by rw[hx];exact hnd a ha) hbi;rw[hx] at ra;exact⟨z1,v',m+1,_,_,births+1,z2,ra,z3,z4,Nat.le_refl _⟩
 ·have hlr:F.length≠room:=by rw[hl];exact q
  have hlt:n<room:=by have:=h.tab.le;omega
  rw[decide_eq_false hlr,if_neg hlr];refine(zOq W ht hd.key hw.key x hlt hbi hn).mono (fun e w' z=> ?_);obtain⟨z1,v',z2,z3,z4⟩:=z;have ra:=h.rel.add x (fun a ha=>by rw[hx];exact hn a ha) hbi;rw[hx] at ra;exact⟨z1,v',n+1,_,_,births+1,z2,ra,z3,z4,Nat.le_refl _⟩
theorem zH5 {K T mb room now births n:Nat} {v:Value} {f:Nat->En} {F F':List Fl} {G:List En} {w W w':World} (h:zEf w K T mb v room now births n f F G) (hb:Below w.heap.size w W) (hl:zG0 W w' T mb v room births F'):
 ∃O' b',Kps w' O' K room now b' F'/\Trn (fun x=>x=K\/Ows T mb v x) w w'/\(∀y,O' y->(y=K\/Ows T mb v y)\/w.heap.size<=y)/\b'<=births+1:=by
 obtain⟨v',n',f',G',b',q1,q2,q3,q4,q5⟩:=hl;have h2:=h.below hb;have hz:=hb.size;refine⟨_,b',⟨T,mb,v',n',f',G',⟨h2.blk.trn q3 h.own,q1,q2,fun q=> ?_,h.now⟩,rfl⟩,(Trn.below hb).trans (q3.mono (fun x _ q=> .inr q)) (fun _ _ q=>q),fun y q=> ?_,q5⟩
 ·rcases q4 K q with z|z
  ·exact h.own z
  ·have:=h.blk.lt;omega
 ·rcases q with q|q
  ·exact .inl (.inl q)
  ·rcases q4 y q with z|z
   ·exact .inl (.inr z)
   ·exact .inr (by omega)
theorem zNO (x:Fl):zCV x<=zCr:=by
 unfold zCV zCr
 (repeat' split)<;>decide
theorem zG1 {W0 w3:World} {c:Array Value} {t:TypeId} (h:zIe W0 (W0.alloc (.cells c t)).drew w3):w3.heap[W0.heap.size]? =some (.cells c t (0,0)):=(h.h _ (by simp)).trans (heap_alloc_new W0 _)
end Go.Proofs.YtclpnafiiobfhaaGreatDoor

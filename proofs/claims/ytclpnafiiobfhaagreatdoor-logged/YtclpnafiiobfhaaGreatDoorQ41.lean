import Derived.Test.YtclpnafiiobfhaaGreatDoorQ40
import Derived.Shelf.SlicesE.Clone
import Derived.Shelf.SlSortCmp.NoneTotal
set_option linter.unusedVariables false
set_option linter.unusedSimpArgs false
set_option maxRecDepth 1000000
set_option maxHeartbeats 6400000
namespace Go.Proofs.YtclpnafiiobfhaaGreatDoor
open Go.RowKit
theorem zRt {Q K:Nat} {O:Nat->Prop} {cv:Value} {R:Option Bk} {room now births:Nat} {F:List Fl} {cA cD cR cM:Nat} (W:World) (h:zAa W Q K O .nilFunc cv R room now births F cA cD cR cM) (b1:cA+1<18446744073709551616) (b2:cD+1<18446744073709551616) (b3:cR+1<18446744073709551616) (b4:cM+1<18446744073709551616) (d:ByteArray) (fb fc:Nat) (i:Int) (hj:Calls Tryz.prog 109 #[.pointer (some ⟨Q,0,none⟩),.int .u8 i,.slice (some ⟨fb,0,none⟩) d.size fc] W fun e w'=>e= .returned (.agg (evG R room now F d i).1.l.toArray)/\(∃O' b',Kps w' O' K room now b' (evG R room now F d i).2/\Trn O W w'/\(∀y,O' y->O y\/W.heap.size<=y)/\b'<=births+1)):
 Calls Tryz.prog 84 #[.pointer (some ⟨Q,0,none⟩),.int .u8 i,.slice (some ⟨fb,0,none⟩) d.size fc] W fun e w'=>e= .returned (.int .u8 (evG R room now F d i).1.v)/\∃O' b',zAa w' Q K O' .nilFunc cv R room now b' (evG R room now F d i).2 (cA+zBZ (evG R room now F d i).1.c (evG R room now F d i).1.v 0) (cD+zBZ (evG R room now F d i).1.c (evG R room now F d i).1.v 1) (cR+zBZ (evG R room now F d i).1.c (evG R room now F d i).1.v 2) (cM+zBZ (evG R room now F d i).1.c (evG R room now F d i).1.v 3)/\Trn (fun x=>x=Q\/O x) W w'/\(∀y,O' y->O y\/W.heap.size<=y)/\b'<=births+1:=by
 have HJ:=hid hj;have HG:=hid h;have HN:=hid (And.intro b1 (And.intro b2 (And.intro b3 b4)));generalize evG R room now F d i=EV at HJ ⊢;obtain⟨⟨ec,es,ev,ek,ee⟩,F2⟩:=EV;dsimp only[Ev.l] at HJ ⊢;clear h hj b1 b2 b3 b4;go_enter Tryz.func84,Tryz.ntmps84;go_upto_region 2 with(go_at_call 109;refine HJ.out.mono ?_;rintro e w2 ⟨rfl,hk2⟩;have HK2:Hid (_):=hk2;clear hk2)
 obtain⟨O',b',k1,k2,k3,k4⟩:=HK2.out;obtain⟨W3,hW3⟩:∃W3,w2.alloc (.cells #[.int .u8 ec,.int .u8 es,.int .u8 ev,.bool ek,.bool ee] 188)=W3:=⟨_,rfl⟩;obtain⟨g7,hg7⟩:∃g7,w2.heap.size=g7:=⟨_,rfl⟩;rw[hW3,hg7];have B3:Below w2.heap.size w2 W3:=by rw[<-hW3];exact bal _ _
 have HE3:Hid (Blk 188 W3 g7 [.int .u8 ec,.int .u8 es,.int .u8 ev,.bool ek,.bool ee]):=by rw[<-hW3,<-hg7];exact Blk.made w2 _ [.int .u8 ec,.int .u8 es,.int .u8 ev,.bool ek,.bool ee] (zAF rfl)
 have HQ3:=hid ((HG.out.blk.trn k2 HG.out.own).below B3 (HG.out.blk.trn k2 HG.out.own).lt);have hQW:=HG.out.blk.lt;have hOQ:¬O' Q:=fun q=>by
  rcases k3 Q q with z|z
  ·exact HG.out.own z
  ·omega
 have HK3:Hid (Kps W3 O' K room now b' F2/\Trn O W W3/\(∀y,O' y->O y\/W.heap.size<=y)/\b'<=births+1/\¬O' Q):=⟨k1.below B3,k2.trans (Trn.below B3) (fun _ _ q=>q),k3,k4,hOQ⟩;have hgQ:g7≠Q:=by have a:=k2.size;omega
 have HCT:=hid (zGJ W3 HQ3.out ec es ev ek ee HN.out.1 HN.out.2.1 HN.out.2.2.1 HN.out.2.2.2);have e0:=HE3.out.cell 0 _ rfl;have e1:=HE3.out.cell 1 _ rfl;have e2:=HE3.out.cell 2 _ rfl;have e3:=HE3.out.cell 3 _ rfl;have e4:=HE3.out.cell 4 _ rfl;clear k1 k2 k3 k4 hW3 hg7 B3 hOQ;go_upto_region 3 with(go_at_call 110;refine HCT.out.mono ?_;rintro e w4 ⟨rfl,hb4,ht4⟩;have HQ4:Hid (_/\_):=⟨hb4,ht4⟩;clear hb4 ht4)
 have HE4:=hid (HE3.out.trn HQ4.out.2 hgQ);have HTL:=hid (zH8 w4 HQ4.out.1 ec es ev ek ee);have e0':=HE4.out.cell 0 _ rfl;have e1':=HE4.out.cell 1 _ rfl;have e2':=HE4.out.cell 2 _ rfl;have e3':=HE4.out.cell 3 _ rfl;have e4':=HE4.out.cell 4 _ rfl;clear e0 e1 e2 e3 e4;go_wp2_with (go_at_call 111;refine HTL.out.mono ?_;rintro e w5 ⟨rfl,hb5⟩;have HB5:=hid hb5;have e2'':=(hb5.cell (p:=⟨g7,2,none⟩) HE4.out.lt).trans e2';clear hb5);go_ret;obtain⟨k1,k2,k3,k4,k5⟩:=HK3.out;have t4:=HQ4.out.2;have tt:Trn (fun x=>x=Q\/O x) W w5:=((k2.mono (fun x _ q=> .inr q)).trans (t4.mono (fun x _ q=> .inl q)) (fun _ _ q=>q)).trans (Trn.below HB5.out) (fun _ _ q=>q);refine⟨rfl,O',b',⟨HQ4.out.1.below HB5.out HQ4.out.1.lt,HG.out.code.trn tt (fun x hx q=> ?_),(k1.trn t4 (fun x q z=>k5 (z▸q))).below HB5.out,k5,HG.out.cap⟩,tt,k3,k4⟩;rcases q with q|q
 ·exact .inl q
 ·rcases k3 x q with z|z
  ·exact .inr z
  ·omega
theorem zO3 (room:Nat) (h1:1<=room) (h2:room<=64) (W:World):
 Calls Tryz.prog 106 #[.int .i64 (room:Int),.nilFunc] W fun e w'=>∃Q K O,e= .returned (.tuple #[.pointer (some ⟨Q,0,none⟩),.nilIface])/\zAa w' Q K O .nilFunc (.slice none 0 0) none room 0 0 [] 0 0 0 0/\Below W.heap.size W w'/\∀x,(x=Q\/O x)->W.heap.size<=x:=by
 have HM:=hid (zEg room h2 W);have t1:¬((room:Int)<1):=by omega
 have t2:¬((64:Int)<(room:Int)):=by omega
 have HR:Hid (1<=room):=h1;clear h1 h2;go_enter Tryz.func106,Tryz.ntmps106;go_wp2_with (go_at_call 125;refine HM.out.mono ?_;rintro e w2 ⟨K,O,rfl,hk,hb,ho⟩;have HK:=hid (And.intro hk (And.intro hb ho));clear hk hb ho);go_ret2;obtain⟨hk,hb,ho⟩:=HK.out;have hz:=hb.size;refine⟨w2.heap.size,K,O,rfl,⟨Blk.made w2 _ (zG4 .nilFunc (.slice none 0 0) K 0 0 0 0) (zAF rfl),.inl ⟨rfl,rfl⟩,hk.below (bal _ _),fun q=>absurd (hk.lt _ q) (by omega),HR.out⟩,hb.alloc hz _,fun x q=> ?_⟩;rcases q with rfl|q
 ·exact hz
 ·exact ho x q
theorem zNS (room:Nat) (h1:1<=room) (h2:room<=64) (W:World):
 Calls Tryz.prog 80 #[.int .i64 (room:Int)] W fun e w'=>∃Q K O,e= .returned (.tuple #[.pointer (some ⟨Q,0,none⟩),.int .i64 0])/\zAa w' Q K O .nilFunc (.slice none 0 0) none room 0 0 [] 0 0 0 0/\Below W.heap.size W w'/\∀x,(x=Q\/O x)->W.heap.size<=x:=by
 have HM:=hid (zO3 room h1 h2 W);clear h1 h2;go_enter Tryz.func80,Tryz.ntmps80;go_wp2_with (first|(go_at_call 106;refine HM.out.mono ?_;rintro e w2 ⟨Q,K,O,rfl,hg,hb,ho⟩;have HG:=hid (And.intro hg (And.intro hb ho));clear hg hb ho)|(go_at_call 19;refine(zGp _).mono ?_;rintro e w3 ⟨rfl,hb3⟩;have HB3:=hid hb3;clear hb3));go_ret2;obtain⟨hg,hb,ho⟩:=HG.out;exact⟨Q,K,O,rfl,hg.below HB3.out,hb.trans (HB3.out.mono hb.size),ho⟩
theorem zJL {W w2:World} {S:Nat->Prop} {b:Bk} {v:Value} (hgb:zBr b) (hO:w2.ownsRow W.heap.size 5 1 v (8*(zA8 b).length) (zDN (zA8 b))) (hS:∀x,S x->x<W.heap.size):zCv w2 S v (some b):=by
 have hz:(zBl (zA8 b)).size=8*(zA8 b).length:=by unfold zBl;rw[zGe,zFP]
 have hpos:0<(zA8 b).length:=by rw[zA0];simp only[List.length_append,List.length_cons];omega
 obtain⟨p,c,rfl,hp⟩:=zDF hO;obtain⟨g,rfl,hg,hlt,hn,hcm⟩:=hp (by omega);exact .inr ⟨b,g,c,rfl,hgb,by rw[hz],zOc hO (zJB b hgb) hz.symm,hlt,fun q=>absurd (hS g q) (by omega),by rw[hz];exact hn,hcm⟩
theorem Blk.store {t:TypeId} {W:World} {Q:Nat} {L:List Value} (h:Blk t W Q L) (i:Nat) (v:Value) (hv:v.oneCell'=true):Blk t (W.setCell ⟨Q,i,none⟩ v) Q (L.set i v):=h.set i v hv
theorem zO4 {Q K:Nat} {O:Nat->Prop} {lg cv:Value} {R:Option Bk} {room now births:Nat} {F:List Fl} {cA cD cR cM:Nat} (W:World) (hL:zBU W) (hm:zBx W) (h:zAa W Q K O lg cv R room now births F cA cD cR cM) (s:ByteArray) (n:Nat) (b:Bk) (hs:s.size<=maxLen) (hr:zAJ s=(0,n,b)):
 Calls Tryz.prog 82 #[.pointer (some ⟨Q,0,none⟩),.string s] W fun e w'=>e= .returned .nilIface/\∃cv',zAa w' Q K O lg cv' (some b) room now births F cA cD cR cM/\Trn (fun x=>x=Q) W w'/\∀x,cv'.ownBlock=some x->W.heap.size<=x:=by
 have hgb:zBr b:=by have:=zFR s;rw[hr] at this;exact this
 have HC:=hid (zFE s W hm hL hs (fun _=>zOb _ (zFR s)));rw[hr] at HC;dsimp only at HC;have HG:=hid (And.intro h hgb);have c0:=h.blk.cell 0 _ rfl;have f0:=h.blk.frozen 0;have hQ:=h.blk.lt;clear h hL hm hs hr hgb;go_enter Tryz.func82,Tryz.ntmps82;go_wp2_with (go_at_call 78;refine HC.out.mono ?_;rintro e w2 ⟨q1,q2,hb2⟩;obtain⟨v,rfl,hO⟩:=q2 rfl;have c0':=(hb2.cell (p:=⟨Q,0,none⟩) hQ).trans c0;have f0':=(hb2.frozen (p:=⟨Q,0,none⟩) hQ).trans f0;obtain⟨pp,cc,hv,_⟩:=zDF hO;subst hv;have HO:Hid (_/\_):=⟨hO,hb2⟩;clear q1 q2 hO hb2);go_ret;obtain⟨hO,hb2⟩:=HO.out;obtain⟨h,hgb⟩:=HG.out;have h2:=h.below hb2;have hlt:=h.keeps.lt;have hcode:zCv w2 (fun x=>x=Q\/O x) _ (some b):=zJL hgb hO (fun x q=>by
  rcases q with rfl|q
  ·exact hQ
  ·exact hlt x q)
 have t:=Trn.setCell (S:=fun x=>x=Q) w2 Q 0 (.slice pp (8*(zA8 b).length) cc) rfl;exact⟨rfl,_,⟨h2.blk.store 0 (.slice pp (8*(zA8 b).length) cc) rfl,hcode.trn (t.mono (fun x _ q=> .inl q)) (fun x _ q=>q),h2.keeps.trn t (fun x q z=>h.own (z▸q)),h.own,h.cap⟩,(Trn.below hb2).trans t (fun _ _ q=>q),fun x q=>zAE hO x q⟩
theorem zNT {Q K:Nat} {O:Nat->Prop} {lg cv:Value} {R:Option Bk} {room now births:Nat} {F:List Fl} {cA cD cR cM:Nat} (W:World) (hL:zBU W) (hm:zBx W) (h:zAa W Q K O lg cv R room now births F cA cD cR cM) (s:ByteArray) (n:Nat) (b:Bk) (hs:s.size<=maxLen) (hr:zAJ s=(0,n,b)):
 Calls Tryz.prog 54 #[.pointer (some ⟨Q,0,none⟩),.string s] W fun e w'=>e= .returned (.tuple #[.int .i64 0,.int .i64 0])/\∃cv',zAa w' Q K O lg cv' (some b) room now births F cA cD cR cM/\Trn (fun x=>x=Q) W w'/\∀x,cv'.ownBlock=some x->W.heap.size<=x:=by
 have HM:=hid (zO4 W hL hm h s n b hs hr);clear h hL hm hs hr;go_enter Tryz.func54,Tryz.ntmps54;go_wp2_with (first|(go_at_call 82;refine HM.out.mono ?_;rintro e w2 ⟨rfl,hg⟩;have HG:=hid hg;clear hg)|(go_at_call 19;refine(zGp _).mono ?_;rintro e w3 ⟨rfl,hb3⟩;have HB3:=hid hb3;clear hb3));go_ret2;obtain⟨cv',hg,ht,hx⟩:=HG.out;exact⟨rfl,cv',hg.below HB3.out,ht.trans (Trn.below HB3.out) (fun _ _ q=>q),hx⟩
theorem zNU {Q K:Nat} {O:Nat->Prop} {lg cv:Value} {R:Option Bk} {room now births:Nat} {F:List Fl} {cA cD cR cM:Nat} (W:World) (h:zAa W Q K O lg cv R room now births F cA cD cR cM) (m:Nat) (hm:m<=zCr):
 Calls Tryz.prog 57 #[.pointer (some ⟨Q,0,none⟩),.int .u64 (m:Int)] W fun e w'=>e= .returned (.tuple #[])/\∃O',zAa w' Q K O' lg cv R room (zBO now m) births (zA9 (zBO now m) F) cA cD cR cM/\Trn (fun x=>x=Q\/O x) W w'/\∀x,O' x->O x:=by
 have HM:=hid (zOs W h.keeps m hm);have HG:=hid h;have c1:=h.blk.cell 1 _ rfl;clear h hm;go_enter Tryz.func57,Tryz.ntmps57;go_wp2_with (go_at_call 87;refine HM.out.mono ?_;rintro e w2 ⟨rfl,hk⟩;have HK:Hid (_):=hk;clear hk);go_end0;obtain⟨O',k1,k2,k3⟩:=HK.out;have h:=HG.out;have tt:Trn (fun x=>x=Q\/O x) W w2:=k2.mono (fun x _ q=> .inr q);exact⟨rfl,O',⟨h.blk.trn k2 h.own,h.code.trn tt (fun x _ q=>q.imp id (k3 x)),k1,fun q=>h.own (k3 _ q),h.cap⟩,tt,k3⟩
theorem zNV (Q:Nat) (W:World) (hL:zBU W) (hm:zBx W) (s:ByteArray) (k n:Nat) (b:Bk) (hs:s.size<=maxLen) (hr:zAJ s=(k,n,b)) (hk:k≠0):
 Calls Tryz.prog 82 #[.pointer (some ⟨Q,0,none⟩),.string s] W fun e w'=>∃ev,e= .returned ev/\zI5 W w' ev k n/\Below W.heap.size W w':=by
 have HC:=hid (zFE s W hm hL hs (fun q=>by rw[hr] at q;exact absurd q hk));rw[hr] at HC;dsimp only at HC;clear hL hm hs hr;go_enter Tryz.func82,Tryz.ntmps82;go_wp2_with (go_at_call 78;refine HC.out.mono ?_;rintro e w2 ⟨q1,q2,hb2⟩;obtain⟨ev,rfl,hE⟩:=q1 hk;have HE:=hid (And.intro hE hb2);obtain⟨⟨cc,rfl,q3,q4,q5,q6⟩⟩:=hE;clear q1 q2 hb2 q3 q4 q5 q6);go_ret;exact⟨_,rfl,HE.out.1,HE.out.2⟩
theorem zK2 (Q:Nat) (W:World) (hL:zBU W) (hm:zBx W) (s:ByteArray) (k n:Nat) (b:Bk) (hs:s.size<=maxLen) (hr:zAJ s=(k,n,b)) (hk:k≠0):
 Calls Tryz.prog 54 #[.pointer (some ⟨Q,0,none⟩),.string s] W fun e w'=>e= .returned (.tuple #[.int .i64 (k:Int),.int .i64 (n:Int)])/\Below W.heap.size W w':=by
 have HM:=hid (zNV Q W hL hm s k n b hs hr hk);have HL:Hid (zBU W):=hL;clear hL hm hs hr;go_enter Tryz.func54,Tryz.ntmps54;go_wp2_with (first|(go_at_call 82;refine HM.out.mono ?_;rintro e w2 ⟨ev,rfl,hE,hb2⟩;obtain⟨⟨cc,rfl,q1,q2,q3,q4⟩⟩:=hE;have HB2:=hid hb2)|(go_at_call 19;refine(zMY cc _ _ _ (HL.out.below hb2) q2 q3 q4).mono ?_;rintro e w3 ⟨rfl,hb3⟩;have HB3:=hid hb3));go_ret2;exact⟨rfl,HB2.out.trans (HB3.out.mono HB2.out.size)⟩
end Go.Proofs.YtclpnafiiobfhaaGreatDoor
namespace Go.Proofs
open Go.Shelf
def Tryz.sortEn_ren:Go.Shelf.Ren:=⟨fun|6=>195|15=>217|14=>216|28=>229|29=>230|20=>221|21=>222|22=>223|23=>224|24=>225|25=>226|26=>227|27=>228|46=>231|47=>232|48=>233|49=>234|50=>235|57=>236|n=>n,fun|22=>261|24=>265|25=>334|3=>3|39=>171|0=>0|53=>35|55=>125|4=>4|46=>364|45=>363|50=>306|5=>5|9=>9|66=>371|70=>374|76=>376|77=>230|n=>n,fun|n=>n⟩
theorem Tryz.sortEn:Go.Proofs.SlLaysF0.n6 Tryz.prog Tryz.sortEn_ren:={
 mixed:=by kernel_rfl
 f6:=⟨Tryz.f195.name,by decide,Tryz.func195.trans (congrArg some (by kernel_rfl))⟩
 f14:=⟨Tryz.f216.name,by decide,Tryz.func216.trans (congrArg some (by kernel_rfl))⟩
 f15:=Tryz.func217.trans (congrArg some (by kernel_rfl))
 f20:=⟨Tryz.f221.name,by decide,Tryz.func221.trans (congrArg some (by kernel_rfl))⟩
 f21:=⟨Tryz.f222.name,by decide,Tryz.func222.trans (congrArg some (by kernel_rfl))⟩
 f22:=⟨Tryz.f223.name,by decide,Tryz.func223.trans (congrArg some (by kernel_rfl))⟩
 f23:=⟨Tryz.f224.name,by decide,Tryz.func224.trans (congrArg some (by kernel_rfl))⟩
 f24:=⟨Tryz.f225.name,by decide,Tryz.func225.trans (congrArg some (by kernel_rfl))⟩
 f25:=⟨Tryz.f226.name,by decide,Tryz.func226.trans (congrArg some (by kernel_rfl))⟩
 f26:=⟨Tryz.f227.name,by decide,Tryz.func227.trans (congrArg some (by kernel_rfl))⟩
 f27:=⟨Tryz.f228.name,by decide,Tryz.func228.trans (congrArg some (by kernel_rfl))⟩
 f28:=Tryz.func229.trans (congrArg some (by kernel_rfl))
 f29:=Tryz.func230.trans (congrArg some (by kernel_rfl))
 f46:=⟨Tryz.f231.name,by decide,Tryz.func231.trans (congrArg some (by kernel_rfl))⟩
 f47:=Tryz.func232.trans (congrArg some (by kernel_rfl))
 f48:=Tryz.func233.trans (congrArg some (by kernel_rfl))
 f49:=⟨Tryz.f234.name,by decide,Tryz.func234.trans (congrArg some (by kernel_rfl))⟩
 f50:=⟨Tryz.f235.name,by decide,Tryz.func235.trans (congrArg some (by kernel_rfl))⟩
 f57:=⟨Tryz.f236.name,by decide,Tryz.func236.trans (congrArg some (by kernel_rfl))⟩
 t0:=Tryz.underlying0
 a0:=Tryz.isAgg0
 z0:=Tryz.sizeOf0
 v0:=Tryz.zeroValue0
 t3:=Tryz.underlying3
 a3:=Tryz.isAgg3
 z3:=Tryz.sizeOf3
 v3:=Tryz.zeroValue3
 t4:=Tryz.underlying4
 a4:=Tryz.isAgg4
 z4:=Tryz.sizeOf4
 v4:=Tryz.zeroValue4
 t5:=Tryz.underlying5
 a5:=Tryz.isAgg5
 z5:=Tryz.sizeOf5
 v5:=Tryz.zeroValue5
 t9:=Tryz.underlying9
 a9:=Tryz.isAgg9
 z9:=Tryz.sizeOf9
 v9:=Tryz.zeroValue9
 t22:=Tryz.underlying261
 a22:=Tryz.isAgg261
 z22:=Tryz.sizeOf261
 v22:=Tryz.zeroValue261
 t25:=Tryz.underlying334
 a25:=Tryz.isAgg334
 z25:=Tryz.sizeOf334
 v25:=Tryz.zeroValue334
 t39:=Tryz.underlying171
 a39:=Tryz.isAgg171
 z39:=Tryz.sizeOf171
 v39:=Tryz.zeroValue171
 t45:=Tryz.underlying363
 a45:=Tryz.isAgg363
 z45:=Tryz.sizeOf363
 v45:=Tryz.zeroValue363
 t46:=Tryz.underlying364
 a46:=Tryz.isAgg364
 z46:=Tryz.sizeOf364
 v46:=Tryz.zeroValue364
 t50:=Tryz.underlying306
 a50:=Tryz.isAgg306
 z50:=Tryz.sizeOf306
 v50:=Tryz.zeroValue306
 t53:=Tryz.underlying35
 a53:=Tryz.isAgg35
 z53:=Tryz.sizeOf35
 v53:=Tryz.zeroValue35
 t55:=Tryz.underlying125
 a55:=Tryz.isAgg125
 z55:=Tryz.sizeOf125
 v55:=Tryz.zeroValue125
 t66:=Tryz.underlying371
 a66:=Tryz.isAgg371
 z66:=Tryz.sizeOf371
 v66:=Tryz.zeroValue371
 t70:=Tryz.underlying374
 a70:=Tryz.isAgg374
 z70:=Tryz.sizeOf374
 v70:=Tryz.zeroValue374
 t76:=Tryz.underlying376
 a76:=Tryz.isAgg376
 z76:=Tryz.sizeOf376
 v76:=Tryz.zeroValue376
 t77:=Tryz.underlying230
 a77:=Tryz.isAgg230
 z77:=Tryz.sizeOf230
 v77:=Tryz.zeroValue230}
def Tryz.cloneEn_ren:Go.Shelf.Ren:=⟨fun|41=>194|n=>n,fun|22=>261|23=>265|4=>4|n=>n,fun|n=>n⟩
theorem Tryz.cloneEn:Go.Proofs.SlLaysE0.n41 Tryz.prog Tryz.cloneEn_ren:={
 mixed:=by kernel_rfl
 f41:=⟨Tryz.f194.name,by decide,Tryz.func194.trans (congrArg some (by kernel_rfl))⟩
 t4:=Tryz.underlying4
 a4:=Tryz.isAgg4
 z4:=Tryz.sizeOf4
 v4:=Tryz.zeroValue4
 t22:=Tryz.underlying261
 a22:=Tryz.isAgg261
 z22:=Tryz.sizeOf261
 v22:=Tryz.zeroValue261}
end Go.Proofs
namespace Go.Proofs.YtclpnafiiobfhaaGreatDoor
open Go.RowKit
theorem zQc (x:Nat) (w:World):
 Calls Tryz.prog 218 #[.int .u64 (x:Int)] w fun e w'=>e= .returned (.bool false)/\w'=w:=by
 go_enter Tryz.func218,Tryz.ntmps218;go_wp2_with fail;go_ret;simp
def zOA (x y:Nat):Int:=if x<y then-1 else if y<x then 1 else 0
theorem zQd (x y:Nat) (w:World):
 Calls Tryz.prog 197 #[.int .u64 (x:Int),.int .u64 (y:Int)] w fun e w'=>e= .returned (.int .i64 (zOA x y))/\w'=w:=by
 have hn:=fun(z:Nat)=>zQc z w
 obtain⟨r,hr⟩:∃r,zOA x y=r:=⟨_,rfl⟩;rw[hr];unfold zOA at hr
 by_cases h1:x<y
 ·have t1:(x:Int)<(y:Int):=by omega
  rw[if_pos h1] at hr;clear h1;go_enter Tryz.func197,Tryz.ntmps197;go_wp2_with (go_at_call 218;refine(hn _).mono ?_;rintro e w' ⟨rfl,rfl⟩);go_ret;exact⟨by rw[<-hr];rfl,rfl⟩
 ·have t1:¬((x:Int)<(y:Int)):=by omega
  rw[if_neg h1] at hr
  by_cases h2:y<x
  ·have t2:(y:Int)<(x:Int):=by omega
   rw[if_pos h2] at hr;clear h1 h2;go_enter Tryz.func197,Tryz.ntmps197;go_wp2_with (go_at_call 218;refine(hn _).mono ?_;rintro e w' ⟨rfl,rfl⟩);go_ret;exact⟨by rw[<-hr];rfl,rfl⟩
  ·have t2:¬((y:Int)<(x:Int)):=by omega
   rw[if_neg h2] at hr;clear h1 h2;go_enter Tryz.func197,Tryz.ntmps197;go_wp2_with (go_at_call 218;refine(hn _).mono ?_;rintro e w' ⟨rfl,rfl⟩);go_ret;exact⟨by rw[<-hr];rfl,rfl⟩
theorem zQe (x y:En) (w:World):
 Calls Tryz.prog 196 #[.agg x.l.toArray,.agg y.l.toArray] w fun e w'=>e= .returned (.int .i64 (zOA x.n y.n))/\∃q os',w'=Go.Sort.grow (w.drewN q) os':=by
 obtain⟨⟨x1,x2,x3,x4,x5⟩,⟨x6,x7,x8,x9,x10,x11,x12,x13⟩,x14⟩:=x;obtain⟨⟨y1,y2,y3,y4,y5⟩,⟨y6,y7,y8,y9,y10,y11,y12,y13⟩,y14⟩:=y;have hc:=fun W=>zQd x14 y14 W
 obtain⟨r,hr⟩:∃r,zOA x14 y14=r:=⟨_,rfl⟩;dsimp only[En.l];rw[hr];rw[hr] at hc;clear hr;go_enter Tryz.func196,Tryz.ntmps196;go_wp2_with (go_at_call 197;refine(hc _).mono ?_;rintro e w' ⟨rfl,rfl⟩);go_ret;exact⟨rfl,0,_,by rw[Go.Sort.alloc_eq_grow,Go.Sort.alloc_eq_grow,Go.Sort.grow_grow];rfl⟩
def zG6 (n:Nat) (f:Nat->En):List Value:=(List.range (n*14)).map fun t=>(f (t / 14)).l[t % 14]!
theorem zH9 (n:Nat) (f:Nat->En):(zG6 n f).length=n*14:=by simp[zG6]
theorem zIA (n:Nat) (f:Nat->En) (t:Nat) (h:t<n*14):(zG6 n f)[t]? =some ((f (t / 14)).l[t % 14]!):=by simp[zG6,h]
theorem En.at (e:En) (k:Nat) (h:k<14):e.l[k]? =some e.l[k]! :=by
 have:k<e.l.length:=by rw[En.len];exact h
 rw[getElem!_pos e.l k this,List.getElem?_eq_getElem this]
theorem zK3 {W:World} {g n cap:Nat} {f:Nat->En} (h:zAR W g n cap f) (j:Nat) (u:Value) (hu:(zG6 n f)[j]? =some u):W.cell? ⟨g,0+j,none⟩=some u:=by
 have hj:j<n*14:=by have:=(List.getElem?_eq_some_iff.1 hu).1;rwa [zH9] at this
 rw[zIA n f j hj] at hu;rw[Nat.zero_add,show j=j / 14*14+j % 14 by omega];refine h.cell (by omega) _ _ ?_;rw[<-hu];have e1:(j / 14*14+j % 14) / 14=j / 14:=by omega
 have e2:(j / 14*14+j % 14) % 14=j % 14:=by omega
 exact En.at _ _ (by omega)
theorem zNW (n:Nat) (f:Nat->En) (u:Value) (hu:u ∈ zG6 n f):u.oneCell'=true:=by
 simp only[zG6,List.mem_map,List.mem_range] at hu;obtain⟨t,ht,rfl⟩:=hu;refine En.one (f (t / 14)) _ ?_;have:t % 14<(f (t / 14)).l.length:=by rw[En.len];omega
 rw[getElem!_pos (f (t / 14)).l (t % 14) this];exact List.getElem_mem this
theorem zJM {W:World} {b n cap:Nat} {f:Nat->En} {cur:Array Value} {t:TypeId} (hb:W.heap[b]? =some (.cells cur t (0,0))) (hs:cur.size=cap*14) (hn:n<=cap) (ht:cur.toList.take (n*14)=zG6 n f):Go.Sort.HoldsK (fun i=>(f i).l) 14 W b 0 (Array.range n):=by
 intro j hj;rw[Go.Sort.size_flatK,Array.size_range] at hj;rw[Go.Sort.get_flatK _ _ _ _ (by rw[Array.size_range];exact hj)];have e:cur[j]? =some ((f (j / 14)).l[j % 14]!):=by
  rw[<-zIA n f j hj,<-ht,List.getElem?_take_of_lt hj];simp
 have e2:(Array.range n)[j / 14]! =j / 14:=by
  rw[getElem!_pos _ _ (by rw[Array.size_range];omega)];simp
 refine⟨?_,by simp[World.frozen?,hb]⟩;simp only[World.cell?,hb,Nat.zero_add];rw[e,e2];rfl
theorem zEw (f:Nat->En) (i j:Nat):ltOf (fun i j=>zOA (f i).n (f j).n) i j=decide ((f i).n<(f j).n):=by
 unfold ltOf zOA
 by_cases h:(f i).n<(f j).n
 ·simp[h]
 ·by_cases h2:(f j).n<(f i).n
  ·simp[h,h2]
  ·simp[h,h2]
theorem zQf (f:Nat->En):Go.Sort.SWO (ltOf (fun i j=>zOA (f i).n (f j).n)) where
 irrefl x:=by rw[zEw];simp
 trans x y z h1 h2:=by rw[zEw] at*;simp only[decide_eq_true_eq] at*;omega
 ntrans x y z h1 h2:=by rw[zEw] at*;simp only[decide_eq_false_iff_not] at*;omega
theorem zK4 {B:Nat} (enc:Nat->List Value) (k:Nat) (w:World) (blk off m:Nat) (d:Array Nat) (os:Array Obj) (hB:B<=blk) (hw:B<=w.heap.size):Below B w (Go.Proofs.sortWorldK enc k w blk off m d os):=by
 have e:(Go.Sort.putRowK enc k (Go.Sort.ahead w m) blk off d).heap.size=w.heap.size:=by
  show(Array.modify _ _ _).size=_
  rw[Array.size_modify];rfl
 refine⟨rfl,rfl,rfl,?_,fun x hx=> ?_⟩
 ·unfold Go.Proofs.sortWorldK
  rw[Go.Sort.size_grow,e];omega
 ·show(Array.append _ _)[x]? =_
  have hx2:x<(Go.Sort.putRowK enc k (Go.Sort.ahead w m) blk off d).heap.size:=by rw[e];omega
  rw[Array.append_eq_append,Array.getElem?_append_left hx2]
  show(Array.modify _ _ _)[x]? =_
  rw[Array.getElem?_modify,if_neg (by omega)];rfl
theorem zJN {n births:Nat} {f:Nat->En} {F:List Fl} {G:List En} (hr:Rel n f births F G) (d:Array Nat) (hp:Go.Sort.PermIn 0 n (Array.range n) d) (hs:Go.Sort.SortedIn (ltOf (fun i j=>zOA (f i).n (f j).n)) 0 n d):(List.range n).map (fun i=>f d[i]!)=G:=by
 obtain⟨p1,_,p3⟩:=hp;have hz:d.size=n:=by rw[p1,Array.size_range]
 have e1:(d.extract 0 n)=d:=by rw[<-hz];simp
 have e2:((Array.range n).extract 0 n)=Array.range n:=by
  have:=Array.extract_size (xs:=Array.range n);rwa [Array.size_range] at this
 rw[e1,e2] at p3;have p4:d.toList.Perm (List.range n):=by simpa using p3
 have hg:∀i,i<n->d[i]! ∈ d.toList:=fun i hi=>by
  rw[getElem!_pos d i (by omega)];exact Array.mem_toList_iff.2 (Array.getElem_mem _)
 have hlt:∀i,i<n->d[i]! <n:=fun i hi=>List.mem_range.1 (p4.mem_iff.1 (hg i hi))
 have hnd:=p4.nodup_iff.2 List.nodup_range;refine hr.sorted _ ?_ (fun e=> ?_)
 ·rw[List.pairwise_map]
  refine List.Pairwise.imp_of_mem (fun {a b} ha hb hab=> ?_) (List.pairwise_lt_range);have ha:=List.mem_range.1 ha;have hb:=List.mem_range.1 hb;have q:=hs a b (Nat.zero_le _) hab hb;rw[zEw] at q;simp only[decide_eq_false_iff_not] at q;have ne:d[a]!≠d[b]! :=fun e=>by
   rw[getElem!_pos d a (by omega),getElem!_pos d b (by omega)] at e;have:=(List.getElem_inj hnd (i:=a) (j:=b) (h₀:=by simpa[hz] using ha) (h₁:=by simpa[hz] using hb)).1 (by simpa using e);omega
  have:=hr.births d[a]! d[b]! (hlt a ha) (hlt b hb);have ne2:(f d[a]!).n≠(f d[b]!).n:=fun e=>ne (this e)
  omega
 ·simp only[List.mem_map,List.mem_range]
  constructor
  ·rintro⟨i,hi,rfl⟩
   exact⟨_,hlt i hi,rfl⟩
  ·rintro⟨j,hj,rfl⟩
   have:j ∈ d.toList:=p4.mem_iff.2 (List.mem_range.2 hj);obtain⟨i,hi,e⟩:=List.mem_iff_getElem.1 this;have hi':i<d.size:=by simpa using hi
   refine⟨i,by omega,?_⟩;rw[getElem!_pos d i hi'];have:d[i]=j:=by simpa using e
   rw[this]
def zSL (W:World) (b:Nat) (G:List En):Prop:=∀i e,G[i]? =some e->∀k u,e.l[k]? =some u->W.cell? ⟨b,i*14+k,none⟩=some u
theorem zO5 {n g cap:Nat} {f:Nat->En} (w:World) (h:zAR w g n cap f) (hn:n<=64):
 Calls Tryz.prog 194 #[.slice (some ⟨g,0,none⟩) n cap] w fun e w'=>∃b c,e= .returned (.slice (some ⟨b,0,none⟩) n c)/\w.heap.size<=b/\b<w'.heap.size/\Below w.heap.size w w'/\Go.Sort.HoldsK (fun i=>(f i).l) 14 w' b 0 (Array.range n):=by
 obtain⟨i0,hi0,hz0,hz1,hz2⟩:=zEo Tryz.infoEn;refine(AnyE.slices_Clone Tryz.cloneEn i0 _ 14 56 hi0 hz0 hz1 hz2 rfl (by decide) Tryz.sizeOf265 g 0 n cap (zG6 n f) w (zH9 n f) (Nat.le_trans hn (by decide)) (by omega) (fun j u hu=>zK3 h j u hu) (zNW n f)).mono ?_;rintro e w' ⟨v',rfl,⟨_,ho⟩,hne,hb⟩;rcases ho with⟨q,_⟩|⟨b,c,cur,rfl,q1,q2,q3,_,q5,q6⟩
 ·exact absurd q hne
 ·exact⟨b,c,rfl,q1,(Array.getElem?_eq_some_iff.1 q2).1,hb,zJM q2 q5 q3 q6⟩
theorem zQg {n births:Nat} {f:Nat->En} {F:List Fl} {G:List En} (hr:Rel n f births F G) (b c:Nat) (w:World) (hn:n<=64) (hH:Go.Sort.HoldsK (fun i=>(f i).l) 14 w b 0 (Array.range n)) (hb:b<w.heap.size):
 Calls Tryz.prog 195 #[.slice (some ⟨b,0,none⟩) n c,.func (.func 196) #[] #[]] w fun e w'=>e= .returned (.tuple #[])/\Below b w w'/\zSL w' b G:=by
 have eg:∀args w,(callFunc 196 args).run Tryz.prog w= .ok (.enter 196 args) w:=enters_of Tryz.func196 (by kernel_rfl) rfl;have hc:=AnyQ.slices_SortFunc Tryz.sortEn 14 Tryz.isAgg265 Tryz.sizeOf265 (fun i=>(f i).l) (fun _=>rfl) (fun i=>En.one (f i)) (fun i j=>zOA (f i).n (f j).n) (zQf f) 196 #[] b 0 c (Array.range n) w eg (fun _ _ _ _ x y=>zQe (f x) (f y) _) hH hb (by rw[Array.size_range];omega);rw[Array.size_range] at hc;refine hc.mono ?_;rintro e w' ⟨rfl,d,m,os,hp,hs,rfl⟩;refine⟨rfl,zK4 _ _ _ _ _ _ _ _ (Nat.le_refl _) (Nat.le_of_lt hb),?_⟩;have hz:d.size=n:=by have:=hp.1;rwa [Array.size_range] at this
 have hk:=SWK.holds (⟨m,os,rfl⟩:SWK (fun i=>(f i).l) 14 w b 0 d _) hb hH (by rw[Array.size_range];exact hz);have hg:=zJN hr d hp hs;intro i e he k u hu;rw[<-hg] at he;have hi:i<n:=by
  have:=(List.getElem?_eq_some_iff.1 he).1
  simpa using this
 have he':f d[i]! =e:=by simpa[hi] using he
 have hk14:k<14:=by have:=(List.getElem?_eq_some_iff.1 hu).1;rwa [En.len] at this
 have:=(hk.cell (i:=i) (c:=k) (by omega) hk14).1;rw[Nat.zero_add] at this;rw[this,<-hu,En.at _ _ hk14]
 show some (f d[i]!).l[k]! =_
 rw[he']
theorem zK5 {T mb room births n g cap:Nat} {f:Nat->En} {F:List Fl} {G:List En} (w:World) (h:zAK w T mb (.slice (some ⟨g,0,none⟩) n cap) room births n f) (hr:Rel n f births F G):
 Calls Tryz.prog 168 #[.pointer (some ⟨T,0,none⟩)] w fun e w'=>∃b c,e= .returned (.slice (some ⟨b,0,none⟩) n c)/\w.heap.size<=b/\b<w'.heap.size/\Below w.heap.size w w'/\zSL w' b G:=by
 have hT3:=h.blk.cell 3 _ rfl;have hn:=Nat.le_trans h.le h.big;have HC:=hid (zO5 w h.ents hn);have HS:=fun(b c:Nat) (W:World) (hH:Hid (Go.Sort.HoldsK (fun i=>(f i).l) 14 W b 0 (Array.range n))) (hb:b<W.heap.size)=>zQg hr b c W hn hH.out hb
 clear h hr hn;go_enter Tryz.func168,Tryz.ntmps168;go_wp2_with (first|(go_at_call 194;refine HC.out.mono ?_;rintro e w2 ⟨b,c,rfl,hb1,hb2,hb3,hh⟩;have HH:=hid hh;have HB3:=hid hb3;clear hh hb3)|(go_at_call 195;refine(HS b c w2 HH hb2).mono ?_;rintro e w3 ⟨rfl,hb4,hg⟩;have HB4:=hid hb4;have HG:=hid hg;clear hb4 hg));go_ret;exact⟨b,c,rfl,hb1,Nat.lt_of_lt_of_le hb2 HB4.out.size,HB3.out.trans (HB4.out.mono hb1),HG.out⟩
theorem zNX {T mb room births:Nat} {f:Nat->En} (w:World) (h:zAK w T mb (.slice none 0 0) room births 0 f):
 Calls Tryz.prog 168 #[.pointer (some ⟨T,0,none⟩)] w fun e w'=>e= .returned (.slice none 0 0)/\w'=w:=by
 have hT3:=h.blk.cell 3 _ rfl;have HC:=hid (AnyE.slices_Clone_nil Tryz.cloneEn 0 0 w);have HS:=hid (AnyF.slices_SortFunc_none Tryz.sortEn none 0 (.func (.func 196) #[] #[]) w);clear h;go_enter Tryz.func168,Tryz.ntmps168;go_wp2_with (first|(go_at_call 194;refine HC.out.mono ?_;rintro e w2 ⟨rfl,rfl⟩)|(go_at_call 195;refine HS.out.mono ?_;rintro e w3 ⟨rfl,rfl⟩));go_ret;exact⟨rfl,rfl⟩
end Go.Proofs.YtclpnafiiobfhaaGreatDoor

import Derived.Test.YtclpnafiiobfhaaGreatDoorQ37
import Derived.Test.YtclpnafiiobfhaaGreatDoorQ38
import Derived.Test.YtclpnafiiobfhaaGreatDoorQ39
set_option linter.unusedVariables false
set_option linter.unusedSimpArgs false
set_option maxRecDepth 20000
set_option maxHeartbeats 6400000
namespace Go.Proofs.YtclpnafiiobfhaaGreatDoor
open Go.RowKit
def zCv (W:World) (S:Nat->Prop) (cv:Value) (R:Option Bk):Prop:=(R=none/\cv= .slice none 0 0)\/∃b g c,R=some b/\zBr b/\cv= .slice (some ⟨g,0,none⟩) (zBl (zA8 b)).size c/\Row W g 0 (zBl (zA8 b))/\g<W.heap.size/\¬S g/\(zBl (zA8 b)).size<=c/\c<=maxLen
abbrev zG4 (lg cv:Value) (K cA cD cR cM:Nat):List Value:=[cv,.pointer (some ⟨K,0,none⟩),.int .u64 (cA:Int),.int .u64 (cD:Int),.int .u64 (cR:Int),.int .u64 (cM:Int),lg]
structure zAa (W:World) (Q K:Nat) (O:Nat->Prop) (lg cv:Value) (R:Option Bk) (room now births:Nat) (F:List Fl) (cA cD cR cM:Nat):Prop where
 blk:Blk 194 W Q (zG4 lg cv K cA cD cR cM)
 code:zCv W (fun x=>x=Q\/O x) cv R
 keeps:Kps W O K room now births F
 own:¬O Q
 cap:1<=room
theorem zCv.below {W W':World} {S:Nat->Prop} {cv:Value} {R:Option Bk} (h:zCv W S cv R) (hb:Below W.heap.size W W'):zCv W' S cv R:=by
 rcases h with q|⟨b,g,c,q1,q2,q3,q4,q5,q6⟩
 ·exact .inl q
 ·exact .inr ⟨b,g,c,q1,q2,q3,fun i hi=>(hb.cell (p:=⟨g,0+i,none⟩) q5).trans (q4 i hi),Nat.lt_of_lt_of_le q5 hb.size,q6⟩
theorem zCv.trn {W W':World} {S S':Nat->Prop} {cv:Value} {R:Option Bk} (h:zCv W S cv R) (ht:Trn S W W') (hs:∀x,x<W.heap.size->S' x->S x):zCv W' S' cv R:=by
 rcases h with q|⟨b,g,c,q1,q2,q3,q4,q5,q6,q7⟩
 ·exact .inl q
 ·exact .inr ⟨b,g,c,q1,q2,q3,fun i hi=>(World.cell?_of_block (a:=⟨g,0+i,none⟩) (ht.block g q5 q6)).trans (q4 i hi),Nat.lt_of_lt_of_le q5 ht.size,fun z=>q6 (hs g q5 z),q7⟩
theorem zAa.below {W W':World} {Q K:Nat} {O:Nat->Prop} {lg cv:Value} {R:Option Bk} {room now births:Nat} {F:List Fl} {cA cD cR cM:Nat} (h:zAa W Q K O lg cv R room now births F cA cD cR cM) (hb:Below W.heap.size W W'):zAa W' Q K O lg cv R room now births F cA cD cR cM:=
 ⟨h.blk.below hb h.blk.lt,h.code.below hb,h.keeps.below hb,h.own,h.cap⟩
theorem zG5 (w:World) (a:Option Addr) (n c:Nat):(binOp .eql 32 (.slice a n c) (.slice none 0 0)).run Tryz.prog w= .ok (.bool a.isNone) w:=by
 have h:=Lib.run_eql_slice_nil (P:=Tryz.prog) w 32 5 a n c 0 0 Tryz.underlying32;exact h
theorem zH6 (w:World):(binOp .eql 192 .nilFunc .nilFunc).run Tryz.prog w= .ok (.bool true) w:=by kernel_rfl
def zDc (R:Option Bk) (d:ByteArray) (i t:Int):Nat:=match R with
 |none=>0
 |some b=>zFs b.pol d (i,t) b.rs
theorem zH7 {Q K:Nat} {O:Nat->Prop} {lg cv:Value} {R:Option Bk} {room now births:Nat} {F:List Fl} {cA cD cR cM:Nat} (w W:World) (hL:zBU W) (h:zAa W Q K O lg cv R room now births F cA cD cR cM) (d:ByteArray) (fb fc:Nat) (i t:Int) (hd:Row W fb 0 d) (hfb:fb<W.heap.size) (h34:34<=d.size) (hdz:d.size<=300000) (hfc:d.size<=fc) (hfm:fc<=maxLen) (hi:0<=i/\i<=255) (ht:0<=t/\t<=2):
 Calls Tryz.prog 129 #[.pointer (some ⟨Q,0,none⟩),.int .u8 i,.slice (some ⟨fb,0,none⟩) d.size fc,.int .u8 t] W fun e w'=>e= .returned (.int .u8 (zDc R d i t:Int))/\Below W.heap.size W w':=by
 have h0:=h.blk.cell 0 _ rfl;have hn0:∀(a:Option Addr) (n c:Nat) (w:World),(binOp .eql 32 (.slice a n c) (.slice none 0 0)).run Tryz.prog w= .ok (.bool a.isNone) w:=fun a n c w=>zG5 w a n c
 rcases h.code with⟨rfl,rfl⟩|⟨b,g,c,rfl,hgb,rfl,hrow,hlt,_,hc,hcm⟩
 ·clear h hd hfb h34 hdz hfc hfm
  show Calls _ _ _ _ fun e w'=>e= .returned (.int .u8 0)/\_
  go_enter Tryz.func129,Tryz.ntmps129;go_wp2_with fail;go_ret;exact⟨rfl,Below.refl _ _⟩
 ·obtain⟨z,hG⟩:=zMq b hgb d (i,t) (by omega) h34 (by dsimp only;omega) (by dsimp only;omega)
  have hF:=zHo _ b hgb (zHp b hgb);have hR:Ran (zBl (zA8 b)) d (i,t) (zFs b.pol d (i,t) b.rs:Int) z 0:= .inr ⟨_,hF.tozJn,hG⟩;have HE:=hid (zO1 (zBl (zA8 b)) d (i,t) _ z 0 g 0 c fb 0 fc W hL hR hc hcm hlt hrow hd hfb hfc hfm (by omega) (by dsimp only;omega) (by dsimp only;omega));generalize (zBl (zA8 b)).size=Z at HE h0;obtain⟨V,hV⟩:∃V:Int,(zDc (some b) d i t:Int)=V:=⟨_,rfl⟩;rw[show(zFs b.pol d (i,t) b.rs:Int)=V from hV] at HE;rw[hV];have wi:i % 4294967296=i:=by omega
  have wt:t % 4294967296=t:=by omega
  dsimp only at HE;clear h hgb hrow hG hF hR hV hd h34 hdz hfc hfm hc hcm hlt hfb;go_enter Tryz.func129,Tryz.ntmps129;go_wp2_with (go_at_call 152;refine HE.out.mono ?_;rintro e W1 ⟨rfl,hb1⟩);go_ret;exact⟨rfl,hb1⟩
def zBZ (c v:Int) (k:Nat):Nat:=if c≠0 then(if k=3 then 1 else 0) else if v=1 then(if k=0 then 1 else 0) else if v=2 then(if k=2 then 1 else 0) else(if k=1 then 1 else 0)
theorem zGJ {Q K:Nat} {lg cv:Value} {cA cD cR cM:Nat} (W:World) (h:Blk 194 W Q (zG4 lg cv K cA cD cR cM)) (c s v:Int) (kn ev:Bool) (b1:cA+1<18446744073709551616) (b2:cD+1<18446744073709551616) (b3:cR+1<18446744073709551616) (b4:cM+1<18446744073709551616):
 Calls Tryz.prog 110 #[.pointer (some ⟨Q,0,none⟩),.agg #[.int .u8 c,.int .u8 s,.int .u8 v,.bool kn,.bool ev]] W fun e w'=>e= .returned (.tuple #[])/\Blk 194 w' Q (zG4 lg cv K (cA+zBZ c v 0) (cD+zBZ c v 1) (cR+zBZ c v 2) (cM+zBZ c v 3))/\Trn (fun x=>x=Q) W w':=by
 have HH:Hid (Blk 194 (W.alloc (.cells #[.int .u8 c,.int .u8 s,.int .u8 v,.bool kn,.bool ev] 188)) Q (zG4 lg cv K cA cD cR cM)):=h.alloc _;have c2:=h.cell 2 _ rfl;have c3:=h.cell 3 _ rfl;have c4:=h.cell 4 _ rfl;have c5:=h.cell 5 _ rfl;have f2:=h.frozen 2;have f3:=h.frozen 3;have f4:=h.frozen 4;have f5:=h.frozen 5;have hQ:=h.lt;have hQn:Q≠W.heap.size:=Nat.ne_of_lt hQ;have w1:IntKind.u64.wrap ((cA:Int)+1)=((cA+1:Nat):Int):=by rw[IntKind.wrap_u64];omega
 have w2:IntKind.u64.wrap ((cD:Int)+1)=((cD+1:Nat):Int):=by rw[IntKind.wrap_u64];omega
 have w3:IntKind.u64.wrap ((cR:Int)+1)=((cR+1:Nat):Int):=by rw[IntKind.wrap_u64];omega
 have w4:IntKind.u64.wrap ((cM:Int)+1)=((cM+1:Nat):Int):=by rw[IntKind.wrap_u64];omega
 have HT:Hid (∀i y,Trn (fun x=>x=Q) W ((W.alloc (.cells #[.int .u8 c,.int .u8 s,.int .u8 v,.bool kn,.bool ev] 188)).setCell ⟨Q,i,none⟩ y)):=fun i y=>(Trn.alloc _ _ _).trans (Trn.setCell (S:=fun x=>x=Q) _ Q i y rfl) (fun _ _ q=>q)
 have HT':Hid (∀i y,Trn (fun x=>x=Q) W ((W.setCell ⟨Q,i,none⟩ y).alloc (.cells #[.int .u8 c,.int .u8 s,.int .u8 v,.bool kn,.bool ev] 188))):=fun i y=>(Trn.setCell (S:=fun x=>x=Q) _ Q i y rfl).trans (Trn.alloc _ _ _) (fun _ _ q=>q)
 have HB':Hid (∀i y,Value.oneCell' y=true->Blk 194 ((W.setCell ⟨Q,i,none⟩ y).alloc (.cells #[.int .u8 c,.int .u8 s,.int .u8 v,.bool kn,.bool ev] 188)) Q ((zG4 lg cv K cA cD cR cM).set i y)):=fun i y hy=>(h.set i y hy).alloc _
 clear h b1 b2 b3 b4
 by_cases hc:c=0
 ·have t1:(c !=0)=false:=by simpa using hc
  by_cases hv:v=1
  ·have t2:(v == 1)=true:=by simpa using hv
   have e:∀k,zBZ c v k=if k=0 then 1 else 0:=fun k=>by unfold zBZ;rw[if_neg (by simpa using hc),if_pos hv]
   rw[e 0,e 1,e 2,e 3];clear e hc hv;go_enter Tryz.func110,Tryz.ntmps110;go_wp2_with fail;go_end0;exact⟨rfl,HB'.out 2 (.int .u64 ((cA+1:Nat):Int)) rfl,HT'.out 2 _⟩
  ·have t2:(v == 1)=false:=by simpa using hv
   by_cases hv2:v=2
   ·have t3:(v == 2)=true:=by simpa using hv2
    have e:∀k,zBZ c v k=if k=2 then 1 else 0:=fun k=>by unfold zBZ;rw[if_neg (by simpa using hc),if_neg hv,if_pos hv2]
    rw[e 0,e 1,e 2,e 3];clear e hc hv hv2;go_enter Tryz.func110,Tryz.ntmps110;go_wp2_with fail;go_end0;exact⟨rfl,HB'.out 4 (.int .u64 ((cR+1:Nat):Int)) rfl,HT'.out 4 _⟩
   ·have t3:(v == 2)=false:=by simpa using hv2
    have e:∀k,zBZ c v k=if k=1 then 1 else 0:=fun k=>by unfold zBZ;rw[if_neg (by simpa using hc),if_neg hv,if_neg hv2]
    rw[e 0,e 1,e 2,e 3];clear e hc hv hv2;go_enter Tryz.func110,Tryz.ntmps110;go_wp2_with fail;go_end0;exact⟨rfl,HB'.out 3 (.int .u64 ((cD+1:Nat):Int)) rfl,HT'.out 3 _⟩
 ·have t1:(c !=0)=true:=by simpa using hc
  have e:∀k,zBZ c v k=if k=3 then 1 else 0:=fun k=>by unfold zBZ;rw[if_pos hc]
  rw[e 0,e 1,e 2,e 3];clear e hc;go_enter Tryz.func110,Tryz.ntmps110;go_wp2_with fail;go_end0;exact⟨rfl,HB'.out 5 (.int .u64 ((cM+1:Nat):Int)) rfl,HT'.out 5 _⟩
theorem zH8 {Q K:Nat} {cv:Value} {cA cD cR cM:Nat} (W:World) (h:Blk 194 W Q (zG4 .nilFunc cv K cA cD cR cM)) (c s v:Int) (kn ev:Bool):
 Calls Tryz.prog 111 #[.pointer (some ⟨Q,0,none⟩),.agg #[.int .u8 c,.int .u8 s,.int .u8 v,.bool kn,.bool ev]] W fun e w'=>e= .returned (.tuple #[])/\Below W.heap.size W w':=by
 have c6:=h.cell 6 _ rfl;have hQ:=h.lt;have hQn:Q≠W.heap.size:=Nat.ne_of_lt hQ;have hnf:=zH6;clear h;go_enter Tryz.func111,Tryz.ntmps111;go_wp2_with fail;refine bodyPost_ret (v:= .tuple #[]) (results_none rfl _ _ _) rfl ?_;exact⟨rfl,bal _ _⟩
structure Ev where
 c:Int
 s:Int
 v:Int
 kn:Bool
 ev:Bool
abbrev Ev.l (e:Ev):List Value:=[.int .u8 e.c,.int .u8 e.s,.int .u8 e.v,.bool e.kn,.bool e.ev]
def zBa (d:ByteArray):Hd:=
 let p:=nth d 23
 ⟨zAB d 26 4,zAB d 30 4,p,if p=6\/p=17 then zAB d 34 2 else if p=1/\(nth d 34=8\/nth d 34=0) then zAB d 38 2 else 0,if p=6\/p=17 then zAB d 36 2 else if p=1/\(nth d 34=8\/nth d 34=0) then zAB d 38 2 else 0,if p=6 then nth d 47 % 64 else if p=1 then nth d 34 else 0⟩
theorem zEI (d:ByteArray):hdr d=(zBa d).cells:=rfl
def evG (R:Option Bk) (room now:Nat) (F:List Fl) (d:ByteArray) (i:Int):Ev×List Fl:=
 if cls d=0 then
  (if zDc R d i (zA6 F (zBa d))=1 then(⟨0,zA6 F (zBa d),1,(zBS F (zBa d)).isSome,(zBX room now F (zBa d)).1⟩,(zBX room now F (zBa d)).2)
  else(⟨0,zA6 F (zBa d),zDc R d i (zA6 F (zBa d)),(zBS F (zBa d)).isSome,false⟩,F))
 else(⟨cls d,0,0,false,false⟩,F)
theorem zO2 {K room now births:Nat} {O:Nat->Prop} {F:List Fl} (w:World) (h:Kps w O K room now births F) (hro:1<=room) (hbi:births+1<18446744073709551616) (hd:Hd) (hw:hd.Wf):
 Calls Tryz.prog 130 #[.pointer (some ⟨K,0,none⟩),.agg hd.cells] w fun e w'=>e= .returned (.bool (zBX room now F hd).1)/\∃O' b',Kps w' O' K room now b' (zBX room now F hd).2/\Trn O w w'/\(∀y,O' y->O y\/w.heap.size<=y)/\b'<=births+1:=by
 by_cases hq:zBS F hd=none
 ·cases hfr:zDw hd with
  |true=>exact zOv w h hro hbi hd hw hq hfr
  |false=>exact zOw w h hro hbi hd hw hq hfr
 ·exact zK1 w h hro hbi hd hw hq
theorem zNQ (F:List Fl) (h:Hd):zA6 F h<=2:=by
 unfold zA6 zBR
 split
 ·split<;>omega
 ·split<;>omega
theorem zD2 {t:TypeId} {w:World} {g:Nat} {z0 z1 z2 z3 z4:Value} (x0 x1 x2 x3 x4:Value) (h:w.heap[g]? =some (.cells #[z0,z1,z2,z3,z4] t (0,0))) (hx:∀v ∈ [x0,x1,x2,x3,x4],v.oneCell'=true):Blk t (((((w.setCell ⟨g,0,none⟩ x0).setCell ⟨g,1,none⟩ x1).setCell ⟨g,2,none⟩ x2).setCell ⟨g,3,none⟩ x3).setCell ⟨g,4,none⟩ x4) g [x0,x1,x2,x3,x4]:=by
 have e:∀(w:World) (L:List Value) (i:Nat) (x:Value),w.heap[g]? =some (.cells L.toArray t (0,0))->(w.setCell ⟨g,i,none⟩ x).heap[g]? =some (.cells (L.set i x).toArray t (0,0)):=fun w L i x h=>by simp[World.setCell,Array.getElem?_modify,h]
 exact⟨e _ _ 4 x4 (e _ _ 3 x3 (e _ _ 2 x2 (e _ _ 1 x1 (e _ [z0,z1,z2,z3,z4] 0 x0 h)))),hx⟩
theorem zD3 (S:Nat->Prop) (w:World) (g:Nat) (x0 x1 x2 x3 x4:Value) (hg:S g):Trn S w (((((w.setCell ⟨g,0,none⟩ x0).setCell ⟨g,1,none⟩ x1).setCell ⟨g,2,none⟩ x2).setCell ⟨g,3,none⟩ x3).setCell ⟨g,4,none⟩ x4):=
 ((((Trn.setCell w g 0 x0 hg).trans (Trn.setCell _ g 1 x1 hg) (fun _ _ q=>q)).trans (Trn.setCell _ g 2 x2 hg) (fun _ _ q=>q)).trans (Trn.setCell _ g 3 x3 hg) (fun _ _ q=>q)).trans (Trn.setCell _ g 4 x4 hg) (fun _ _ q=>q)
theorem zPm:(Tryz.prog.info? 188).map (·.size)=some 5:=by kernel_rfl
theorem zCt (tmps:Array Value) (W:World) (g:Nat) (L:List Value) (h4:tmps.getD 6 undef= .pointer (some ⟨g,0,none⟩)) (hr:Blk 188 W g L) (hl:L.length=5):(results Tryz.f109 tmps).run Tryz.prog W= .ok (.agg L.toArray) W:=by
 have h4':tmps[6]?.getD undef= .pointer (some ⟨g,0,none⟩):=by simpa using h4
 have hld:(loadVar 188 ⟨g,0,none⟩).run Tryz.prog W= .ok (.agg L.toArray) W:=run_loadVar_row W g _ _ L.toArray (0,0) _ hr.1 Tryz.underlying188 rfl (by rw[List.size_toArray,hl];exact zPm);simp[results,Tryz.results109,h4',asAddr,hld]
theorem Kps.trn {W W':World} {O:Nat->Prop} {K room now births:Nat} {F:List Fl} (h:Kps W O K room now births F) {S:Nat->Prop} (ht:Trn S W W') (hs:∀x,O x->¬S x):Kps W' O K room now births F:=by
 obtain⟨T,mb,v,n,f,G,h,rfl⟩:=h;have e:∀y,Ows T mb v y->W'.heap[y]? =W.heap[y]? :=fun y q=>ht.block y (h.tab.own_lt y q) (hs y (.inr q))
 refine⟨T,mb,v,n,f,G,⟨h.blk.trn ht (hs K (.inl rfl)),⟨⟨(e T (.inl rfl)).trans h.tab.blk.1,h.tab.blk.2⟩,?_,h.tab.map.same (e mb (.inr (.inl rfl))),h.tab.wf,h.tab.ns,h.tab.tm,h.tab.tr,h.tab.le,h.tab.big⟩,h.rel,h.own,h.now⟩,rfl⟩;rcases h.tab.row with q|⟨g,cap,rfl,q⟩
 ·exact .inl q
 ·exact .inr ⟨g,cap,rfl,q.same (e g (.inr (.inr rfl)))⟩
theorem zNR (d:ByteArray):(zBa d).Wf:=by
 have n4:∀k,0<=zAB d k 4/\zAB d k 4<4294967296:=fun k=>by have:=zAt d k 4 (by omega);omega
 have n2:∀k,0<=zAB d k 2/\zAB d k 2<65536:=fun k=>by have:=zAD d k;omega
 have n1:∀k,0<=nth d k/\nth d k<256:=fun k=>by have:=zAN d k;omega
 unfold zBa;refine⟨n4 26,n4 30,n1 23,?_,?_,?_⟩
 ·dsimp only
  split
  ·exact n2 34
  ·split
   ·exact n2 38
   ·omega
 ·dsimp only
  split
  ·exact n2 36
  ·split
   ·exact n2 38
   ·omega
 ·dsimp only
  have a:=n1 47;have b:=n1 34
  split
  ·omega
  ·split<;>omega
theorem zJK {Q K:Nat} {O:Nat->Prop} {lg cv:Value} {R:Option Bk} {room now births:Nat} {F:List Fl} {cA cD cR cM:Nat} (W:World) (hL:zBU W) (h:zAa W Q K O lg cv R room now births F cA cD cR cM) (hbi:births+1<18446744073709551616) (d:ByteArray) (fb fc:Nat) (i:Int) (hd:Row W fb 0 d) (hfb:fb<W.heap.size) (hdz:d.size<=300000) (hfc:d.size<=fc) (hfm:fc<=maxLen) (hi:0<=i/\i<=255) (hc:cls d=0):
 Calls Tryz.prog 109 #[.pointer (some ⟨Q,0,none⟩),.int .u8 i,.slice (some ⟨fb,0,none⟩) d.size fc] W fun e w'=>e= .returned (.agg (evG R room now F d i).1.l.toArray)/\(∃O' b',Kps w' O' K room now b' (evG R room now F d i).2/\Trn O W w'/\(∀y,O' y->O y\/W.heap.size<=y)/\b'<=births+1):=by
 have h34:34<=d.size:=(zGw d hc).1;obtain⟨hh,hhe⟩:∃hh,zBa d=hh:=⟨_,rfl⟩;have hw:hh.Wf:=by rw[<-hhe];exact zNR d
 have HE:Hid (evG R room now F d i=if zDc R d i (zA6 F hh)=1 then(⟨0,zA6 F hh,1,(zBS F hh).isSome,(zBX room now F hh).1⟩,(zBX room now F hh).2) else(⟨0,zA6 F hh,zDc R d i (zA6 F hh),(zBS F hh).isSome,false⟩,F)):=by show evG R room now F d i=_;unfold evG;rw[if_pos hc,hhe]
 have hst:=zNQ F hh;have HVB:Hid (zDc R d i (zA6 F hh)=zDc R d i (zA6 F hh)):=rfl;obtain⟨W1,hW1⟩:∃W1,W.alloc (.cells #[.int .u8 0,.int .u8 0,.int .u8 0,.bool false,.bool false] 188)=W1:=⟨_,rfl⟩;have HW1:=hid hW1;have B1:Below W.heap.size W W1:=by rw[<-hW1];exact bal _ _
 have z1:W1.heap.size=W.heap.size+1:=by rw[<-hW1];simp
 have HR1:Hid (Blk 188 W1 W.heap.size [.int .u8 0,.int .u8 0,.int .u8 0,.bool false,.bool false]):=by rw[<-hW1];exact Blk.made W _ [.int .u8 0,.int .u8 0,.int .u8 0,.bool false,.bool false] (zAF rfl)
 have HPA:Hid (Calls Tryz.prog 127 #[.slice (some ⟨fb,0,none⟩) d.size fc] W1 fun e w'=>e= .returned (.tuple #[.agg hh.cells,.int .u8 0])/\Below W1.heap.size W1 w'):=by
  have z:=zFT d fb 0 fc W1 (by unfold maxLen;omega) (by rw[<-hW1];exact hd.alloc hfb _) (by omega);rw[show zA4 d= .tuple #[.agg (zBa d).cells,.int .u8 0] from by simp[zA4,hc,zEI],hhe] at z;exact z
 have HG:=hid h;have HOL:=hid h.keeps.lt;have HP:=hid (And.intro hbi (And.intro hw h.cap));have HB1:=hid B1;have HZ1:=hid z1;have HVD:Hid (∀Wx,Below W.heap.size W Wx->Calls Tryz.prog 129 #[.pointer (some ⟨Q,0,none⟩),.int .u8 i,.slice (some ⟨fb,0,none⟩) d.size fc,.int .u8 (zA6 F hh:Int)] Wx fun e w'=>e= .returned (.int .u8 (zDc R d i (zA6 F hh):Int))/\Below Wx.heap.size Wx w'):=fun Wx hb=>zH7 W Wx (hL.below hb) (HG.out.below hb) d fb fc i (zA6 F hh:Int) (fun j hj=>(hb.cell (p:=⟨fb,0+j,none⟩) hfb).trans (hd j hj)) (Nat.lt_of_lt_of_le hfb hb.size) h34 hdz hfc hfm hi (by omega)
 obtain⟨st,hstv⟩:∃st:Int,(zA6 F hh:Int)=st:=⟨_,rfl⟩;obtain⟨v,hv⟩:∃v:Int,(zDc R d i (zA6 F hh):Int)=v:=⟨_,rfl⟩;obtain⟨kn,hkn⟩:∃kn,(zBS F hh).isSome=kn:=⟨_,rfl⟩;rw[hv,hstv] at HVD;have HVV:=hid (And.intro hv (And.intro hstv hkn));have HLK:Hid (∀Wx,Below W.heap.size W Wx->Calls Tryz.prog 128 #[.pointer (some ⟨K,0,none⟩),.agg hh.cells] Wx fun e w'=>e= .returned (.tuple #[.int .u8 st,.bool kn])/\Below Wx.heap.size Wx w'):=fun Wx hb=>by
  have z:=zOu Wx (HG.out.keeps.below hb) hh hw;rw[hstv,hkn] at z;exact z
 dsimp only[Hd.cells,Ev.l] at HPA HLK ⊢;generalize evG R room now F d i=EV at HE ⊢;clear hW1 hhe hc hd hfb hdz hfc hfm h hL hbi hw hst B1 z1 hv hstv hkn h34;go_enter Tryz.func109,Tryz.ntmps109;go_upto_region 1 with fail
 rw[HW1.out];go_upto_region 4 with(go_at_call 127;refine HPA.out.mono ?_;rintro e w2 ⟨rfl,hb2⟩;have HB2:=hid hb2;clear hb2)
 obtain⟨W3,hW3⟩:∃W3,w2.alloc (.cells #[.int .u32 hh.a,.int .u32 hh.b,.int .u8 hh.p,.int .u16 hh.s,.int .u16 hh.d,.int .u8 hh.f] 38)=W3:=⟨_,rfl⟩;obtain⟨g7,hg7⟩:∃g7,w2.heap.size=g7:=⟨_,rfl⟩;rw[hW3,hg7];have HB13:Hid (Below W1.heap.size W1 W3):=by rw[<-hW3];exact HB2.out.alloc HB2.out.size _
 have HB3:Hid (Below W.heap.size W W3):=HB1.out.trans (HB13.out.mono HB1.out.size);have HH3:Hid (Blk 38 W3 g7 hh.l):=by rw[<-hW3,<-hg7];exact Blk.made w2 _ hh.l hh.one
 have HR3:Hid (Blk 188 W3 W.heap.size [.int .u8 0,.int .u8 0,.int .u8 0,.bool false,.bool false]):=HR1.out.below HB13.out HR1.out.lt;have HG3:Hid (zAa W3 Q K O lg cv R room now births F cA cD cR cM):=HG.out.below HB3.out;have HL3:Hid (∀Wx,Below W3.heap.size W3 Wx->Calls Tryz.prog 128 #[.pointer (some ⟨K,0,none⟩),.agg #[.int .u32 hh.a,.int .u32 hh.b,.int .u8 hh.p,.int .u16 hh.s,.int .u16 hh.d,.int .u8 hh.f]] Wx fun e w'=>e= .returned (.tuple #[.int .u8 st,.bool kn])/\Below W3.heap.size W3 w'):=fun Wx hb=>(HLK.out Wx (HB3.out.trans (hb.mono HB3.out.size))).mono (fun e w' z=>⟨z.1,hb.trans (z.2.mono hb.size)⟩)
 have q1:=HG3.out.blk.cell 1 _ rfl;have h0:=HH3.out.cell 0 _ rfl;have h1:=HH3.out.cell 1 _ rfl;have h2:=HH3.out.cell 2 _ rfl;have h3:=HH3.out.cell 3 _ rfl;have h4:=HH3.out.cell 4 _ rfl;have h5:=HH3.out.cell 5 _ rfl;clear hW3 hg7;go_cut [9,10] from 21 to 29 (fun x y w'=>x= .int .u8 st/\y= .bool kn/\Below W3.heap.size W3 w')
 case first=>
  go_region_with (go_at_call 128;refine(HL3.out _ (by with_reducible first|assumption|exact Below.drew (Below.refl _ _)|exact Below.drew (by with_reducible assumption)|exact Below.refl _ _)).mono ?_;rintro e w4 ⟨rfl,hb4⟩)
  all_goals
   go_wp2_with fail;go_meet;exact⟨rfl,rfl,hb4⟩
 obtain⟨rfl,rfl,hb4⟩:=hcut;have HB4:=hid hb4;have HV4:Hid (Calls Tryz.prog 129 #[.pointer (some ⟨Q,0,none⟩),.int .u8 i,.slice (some ⟨fb,0,none⟩) d.size fc,.int .u8 st] wc _):=HVD.out wc (HB3.out.trans (hb4.mono HB3.out.size));clear hb4 q1 h0 h1 h2 h3 h4 h5;go_upto_region 6 with(go_at_call 129;refine HV4.out.mono ?_;rintro e w5 ⟨rfl,hb5⟩;have HB5:=hid hb5;clear hb5)
 obtain⟨W6,hW6⟩:∃W6,w5.alloc (.cells #[.int .u8 0,.int .u8 st,.int .u8 v,.bool kn,.bool false] 188)=W6:=⟨_,rfl⟩;obtain⟨g11,hg11⟩:∃g11,w5.heap.size=g11:=⟨_,rfl⟩;rw[hW6,hg11];have HB6:Hid (Below W3.heap.size W3 W6):=by rw[<-hW6];exact(HB4.out.trans (HB5.out.mono HB4.out.size)).alloc (Nat.le_trans HB4.out.size HB5.out.size) _
 have HE6:Hid (Blk 188 W6 g11 [.int .u8 0,.int .u8 st,.int .u8 v,.bool kn,.bool false]):=by rw[<-hW6,<-hg11];exact Blk.made w5 _ [.int .u8 0,.int .u8 st,.int .u8 v,.bool kn,.bool false] (zAF rfl)
 have HR6:Hid (Blk 188 W6 W.heap.size [.int .u8 0,.int .u8 0,.int .u8 0,.bool false,.bool false]):=HR3.out.below HB6.out HR3.out.lt;have HBW6:Hid (Below W.heap.size W W6):=HB3.out.trans (HB6.out.mono HB3.out.size);have hgr:W.heap.size<g11:=by have a:=HB13.out.size;have b:=HB4.out.size;have c:=HB5.out.size;have z:=HZ1.out;omega
 have HGR:=hid hgr;have hgn:W.heap.size≠g11:=Nat.ne_of_lt hgr;clear hW6 hg11;have e0:=HE6.out.cell 0 _ rfl;have e1:=HE6.out.cell 1 _ rfl;have e2:=HE6.out.cell 2 _ rfl;have e3:=HE6.out.cell 3 _ rfl;have e4:=HE6.out.cell 4 _ rfl;have r0:=HR6.out.cell 0 _ rfl;have r1:=HR6.out.cell 1 _ rfl;have r2:=HR6.out.cell 2 _ rfl;have r3:=HR6.out.cell 3 _ rfl;have r4:=HR6.out.cell 4 _ rfl;have f0:=HR6.out.frozen 0;have f1:=HR6.out.frozen 1;have f2:=HR6.out.frozen 2;have f3:=HR6.out.frozen 3;have f4:=HR6.out.frozen 4
 by_cases hv1:v=1
 ·have t1:(v == 1)=true:=by simpa using hv1
  have HEV:Hid (EV=(⟨0,st,v,kn,(zBX room now F hh).1⟩,(zBX room now F hh).2)):=by
   show EV=_
   rw[HE.out,if_pos (by have z:=HVV.out.1;omega),HVV.out.2.1,HVV.out.2.2,hv1]
  have HKP:Hid (∀Wx,Below W6.heap.size W6 Wx->Calls Tryz.prog 130 #[.pointer (some ⟨K,0,none⟩),.agg #[.int .u32 hh.a,.int .u32 hh.b,.int .u8 hh.p,.int .u16 hh.s,.int .u16 hh.d,.int .u8 hh.f]] Wx fun e w'=>e= .returned (.bool (zBX room now F hh).1)/\(∃O' b',Kps w' O' K room now b' (zBX room now F hh).2/\Trn O Wx w'/\(∀y,O' y->O y\/Wx.heap.size<=y)/\b'<=births+1)/\Below W6.heap.size W6 Wx/\w'.cell? ⟨g11,4,none⟩=some (.bool false)/\w'.frozen? ⟨g11,4,none⟩=false):=fun Wx hb=>(zO2 Wx (HG3.out.keeps.below (HB6.out.trans (hb.mono HB6.out.size))) HP.out.2.2 HP.out.1 hh HP.out.2.1).mono (fun e w' z=>by
   obtain⟨O',b',q1,q2,q3,q4⟩:=z.2;have hx:Wx.heap[g11]? =W6.heap[g11]? :=hb.block g11 HE6.out.lt;have hy:w'.heap[g11]? =Wx.heap[g11]? :=q2.block g11 (Nat.lt_of_lt_of_le HE6.out.lt hb.size) (fun q=>by have a:=HOL.out _ q;have b:=HGR.out;omega);exact⟨z.1,⟨O',b',q1,q2,q3,q4⟩,hb,(World.cell?_of_block (a:=⟨g11,4,none⟩) (hy.trans hx)).trans e4,(World.frozen?_of_block (a:=⟨g11,4,none⟩) (hy.trans hx)).trans (HE6.out.frozen 4)⟩)
  generalize (zBX room now F hh).1=evv at HEV HKP;generalize (zBX room now F hh).2=F2 at HEV HKP;have q1:=(HG3.out.below HB6.out).blk.cell 1 _ rfl;have h0:=(HH3.out.below HB6.out HH3.out.lt).cell 0 _ rfl;have h1:=(HH3.out.below HB6.out HH3.out.lt).cell 1 _ rfl;have h2:=(HH3.out.below HB6.out HH3.out.lt).cell 2 _ rfl;have h3:=(HH3.out.below HB6.out HH3.out.lt).cell 3 _ rfl;have h4:=(HH3.out.below HB6.out HH3.out.lt).cell 4 _ rfl;have h5:=(HH3.out.below HB6.out HH3.out.lt).cell 5 _ rfl;clear hv1 f0 f1 f2 f3 f4 r0 r1 r2 r3 r4;go_upto_region 7 with fail
  go_cut [48] from 42 to 47 (fun _ w'=>∃Wx wk,Below W6.heap.size W6 Wx/\(∃O' b',Kps wk O' K room now b' F2/\Trn O Wx wk/\(∀y,O' y->O y\/Wx.heap.size<=y)/\b'<=births+1)/\w'=wk.setCell ⟨g11,4,none⟩ (.bool evv))
  case first=>
   go_region_with (go_at_call 130;refine(HKP.out _ (by with_reducible first|assumption|exact Below.drew (Below.refl _ _)|exact Below.drew (by with_reducible assumption)|exact Below.refl _ _)).mono ?_;rintro e w8 ⟨rfl,hk8,hb8,c8,f8⟩;have HK8:Hid (_/\_):=⟨hk8,hb8⟩;clear hk8 hb8)
   all_goals
    go_wp2_with fail;go_meet;exact⟨_,_,HK8.out.2,HK8.out.1,rfl⟩
  obtain⟨Wx,wk,hbx,⟨O',b',k1,k2,k3,k4⟩,hwc⟩:=hcut;have HK9:=hid (And.intro hbx (And.intro k1 (And.intro k2 (And.intro k3 k4))));have hge:wk.heap[g11]? =W6.heap[g11]? :=(k2.block g11 (Nat.lt_of_lt_of_le HE6.out.lt hbx.size) (fun q=>by have a:=HOL.out _ q;omega)).trans (hbx.block g11 HE6.out.lt);have hgr':wk.heap[W.heap.size]? =W6.heap[W.heap.size]? :=(k2.block W.heap.size (Nat.lt_of_lt_of_le HR6.out.lt hbx.size) (fun q=>by have a:=HOL.out _ q;omega)).trans (hbx.block W.heap.size HR6.out.lt);have HEW:Hid (Blk 188 wc g11 [.int .u8 0,.int .u8 st,.int .u8 v,.bool kn,.bool evv]):=by
   rw[hwc];exact Blk.set (L:=[.int .u8 0,.int .u8 st,.int .u8 v,.bool kn,.bool false]) ⟨hge.trans HE6.out.1,HE6.out.2⟩ 4 (.bool evv)
  have HRW:Hid (Blk 188 wc W.heap.size [.int .u8 0,.int .u8 0,.int .u8 0,.bool false,.bool false]):=by
   rw[hwc];exact Blk.other ⟨hgr'.trans HR6.out.1,HR6.out.2⟩ _ (fun q=>hgn q.symm)
  have HTW:Hid (Trn (fun x=>x=g11) wk wc):=by rw[hwc];exact Trn.setCell wk g11 4 _ rfl
  clear hbx k1 k2 k3 k4 hge hgr' hwc e0 e1 e2 e3 e4 q1 h0 h1 h2 h3 h4 h5;have e0:=HEW.out.cell 0 _ rfl;have e1:=HEW.out.cell 1 _ rfl;have e2:=HEW.out.cell 2 _ rfl;have e3:=HEW.out.cell 3 _ rfl;have e4:=HEW.out.cell 4 _ rfl;have r0:=HRW.out.cell 0 _ rfl;have r1:=HRW.out.cell 1 _ rfl;have r2:=HRW.out.cell 2 _ rfl;have r3:=HRW.out.cell 3 _ rfl;have r4:=HRW.out.cell 4 _ rfl;have f0:=HRW.out.frozen 0;have f1:=HRW.out.frozen 1;have f2:=HRW.out.frozen 2;have f3:=HRW.out.frozen 3;have f4:=HRW.out.frozen 4;go_wp2_with fail;have hev:=HEV.out;subst hev;have hb:=zD2 (.int .u8 0) (.int .u8 st) (.int .u8 v) (.bool kn) (.bool evv) HRW.out.1 (zAF rfl);refine bodyPost_ret (v:= .agg [.int .u8 0,.int .u8 st,.int .u8 v,.bool kn,.bool evv].toArray) (zCt _ _ _ _ rfl hb rfl) rfl ⟨rfl,?_⟩;obtain⟨hbx,k1,k2,k3,k4⟩:=HK9.out;have z6:=HBW6.out.size;have zx:=hbx.size;have zk:=k2.size;have tw:Trn (fun x=>x=g11\/x=W.heap.size) wk _:=(HTW.out.mono (fun x _ q=> .inl q)).trans (zD3 (fun x=>x=g11\/x=W.heap.size) wc W.heap.size (.int .u8 0) (.int .u8 st) (.int .u8 v) (.bool kn) (.bool evv) (.inr rfl)) (fun _ _ q=>q);have hr6:=HR6.out.lt;have he6:=HE6.out.lt;refine⟨O',b',k1.trn tw (fun x q=> ?_),?_,fun y q=> ?_,k4⟩
  ·rcases k3 x q with z|z
   ·have a:=HOL.out x z;have b:=HGR.out;omega
   ·omega
  ·exact((Trn.below HBW6.out).trans ((Trn.below hbx).trans k2 (fun _ _ q=>q)) (fun _ _ q=>q)).trans tw (fun m hm q=>by have b:=HGR.out;omega)
  ·rcases k3 y q with z|z
   ·exact .inl z
   ·exact .inr (by omega)
 ·have t1:(v == 1)=false:=by simpa using hv1
  have HEV:Hid (EV=(⟨0,st,v,kn,false⟩,F)):=by
   show EV=_
   rw[HE.out,if_neg (by have z:=HVV.out.1;omega),HVV.out.1,HVV.out.2.1,HVV.out.2.2]
  clear hv1;go_wp2_with fail;have hev:=HEV.out;subst hev;have hb:=zD2 (.int .u8 0) (.int .u8 st) (.int .u8 v) (.bool kn) (.bool false) HR6.out.1 (zAF rfl);refine bodyPost_ret (v:= .agg [.int .u8 0,.int .u8 st,.int .u8 v,.bool kn,.bool false].toArray) (zCt _ _ _ _ rfl hb rfl) rfl ⟨rfl,?_⟩;have tw:Trn (fun x=>x=W.heap.size) W6 _:=zD3 (fun x=>x=W.heap.size) W6 W.heap.size (.int .u8 0) (.int .u8 st) (.int .u8 v) (.bool kn) (.bool false) rfl;refine⟨O,births,(HG.out.keeps.below HBW6.out).trn tw (fun x q=>by have a:=HOL.out x q;omega),(Trn.below HBW6.out).trans tw (fun m hm q=>by omega),fun y q=> .inl q,by omega⟩
end Go.Proofs.YtclpnafiiobfhaaGreatDoor

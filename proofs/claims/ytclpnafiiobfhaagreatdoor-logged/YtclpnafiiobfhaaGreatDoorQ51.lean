import Derived.Test.YtclpnafiiobfhaaGreatDoorQ50
import Derived.Test.YtclpnafiiobfhaaGreatDoorQ45
import Derived.Test.YtclpnafiiobfhaaGreatDoorQ44
import Derived.Test.YtclpnafiiobfhaaGreatDoorQ40
set_option linter.unusedVariables false
set_option linter.unusedSimpArgs false
set_option maxRecDepth 20000
set_option maxHeartbeats 6400000
namespace Go.Proofs.YtclpnafiiobfhaaGreatDoor
open Go.RowKit
theorem zEK.lt {W:World} {rv:Value} {R:Option Bk} (h:zEK W rv R) (x:Nat) (q:rv.ownBlock=some x):x<W.heap.size:=by
 rcases h with⟨_,rfl⟩|⟨b,B,_,_,q3⟩
 ·cases q
 ·exact(q3.lt x q).2
theorem zAQ.lts {W:World} {D:Nat} {rv fv:Value} {R:Option Bk} {room now:Nat} {F:List Fl} {cA cD cR cM:Nat} (h:zAQ W D rv fv R room now F cA cD cR cM) (x:Nat) (q:x=D\/rv.ownBlock=some x\/fv.ownBlock=some x):x<W.heap.size:=by
 rcases q with rfl|q|q
 ·exact h.blk.lt
 ·exact h.rules.lt x q
 ·exact(h.flows.lt x q).2
theorem zBY (tmps:Array Value) (W:World) (g:Nat) (L:List Value) (h4:tmps.getD 6 undef= .pointer (some ⟨g,0,none⟩)) (hr:Blk 188 W g L) (hl:L.length=5):(results Tryz.f85 tmps).run Tryz.prog W= .ok (.agg L.toArray) W:=by
 have h4':tmps[6]?.getD undef= .pointer (some ⟨g,0,none⟩):=by simpa using h4
 have hld:(loadVar 188 ⟨g,0,none⟩).run Tryz.prog W= .ok (.agg L.toArray) W:=run_loadVar_row W g _ _ L.toArray (0,0) _ hr.1 Tryz.underlying188 rfl (by rw[List.size_toArray,hl];exact zPm);simp[results,Tryz.results85,h4',asAddr,hld]
section
variable {D : Nat} {rv fv : Value} {R : Option Bk} {room now : Nat} {F : List Fl} {cA cD cR cM : Nat}
theorem zNm (W:World) (h:zAQ W D rv fv R room now F cA cD cR cM) (hn:now<=zCr) (hF:F.length<=room) (hr1:1<=room) (hr:room<=64) (hd:Hd) (hf:0<=hd.f/\hd.f<=255):
 Calls Tryz.prog 114 #[.pointer (some ⟨D,0,none⟩),.agg hd.cells,.int .i64 (zG7 F hd),.int .i64 (zIM F hd:Int),.int .u8 (zA6 F hd:Int)] W fun e w'=>e= .returned (.bool (zBX room now F hd).1)/\∃fv',zAQ w' D rv fv' R room now (zBX room now F hd).2 cA cD cR cM/\Trn (fun y=>y=D\/fv.ownBlock=some y) W w'/\∀y,fv'.ownBlock=some y->fv.ownBlock=some y\/W.heap.size<=y:=by
 unfold zG7 zIM zA6 zBX;cases hq:zBS F hd with
 |none=>
  show Calls _ _ #[_,_,_,_,.int .u8 ((if zDw hd=true then 0 else 2:Nat):Int)] _ _
  by_cases hfr:zDw hd=true
  ·simp only[if_pos hfr]
   by_cases he:F.length=room
   ·simp only[if_pos he,decide_eq_true he]
    exact zLD W h hn (by omega) hd _ he hr1
   ·simp only[if_neg he,decide_eq_false he]
    exact zLB W h hn (by omega) hd _ he
  ·simp only[if_neg hfr]
   exact(zNk W hd 2 (by decide) _).mono fun e w' z=>⟨z.1,fv,h.below z.2,Trn.below z.2,fun y q=> .inl q⟩
 |some i=>
  have h1:=hq;unfold zBS at h1;rw[List.findIdx?_eq_some_iff_getElem] at h1;obtain⟨hi,h2,_⟩:=h1;have hx:F[i]? =some (F.getD i fl0):=by rw[List.getD_eq_getElem?_getD,List.getElem?_eq_getElem hi];rfl
  have eF:F.getD i fl0=F[i]:=by rw[List.getD_eq_getElem?_getD,List.getElem?_eq_getElem hi];rfl
  have hne:zBo (F.getD i fl0) hd≠0:=by rw[eF];simpa using h2
  exact(zJV W h hn hd hf i _ hx (zBo (F.getD i fl0) hd) (zHv hne) _).mono fun e w' z=>⟨z.1,fv,z.2.1,z.2.2.mono (fun x _ q=> .inr q),fun y q=> .inl q⟩
theorem zAQ.cnt {W:World} (h:zAQ W D rv fv R room now F cA cD cR cM) (k:Nat) (v:Value) (cA' cD' cR' cM':Nat) (hv:v.oneCell'=true) (e:(zQ5 room R rv now fv cA cD cR cM).set k v=zQ5 room R rv now fv cA' cD' cR' cM'):zAQ (W.setCell ⟨D,k,none⟩ v) D rv fv R room now F cA' cD' cR' cM':=by
 have t:=Trn.setCell (S:=fun x=>x=D) W D k v rfl;exact⟨e▸h.blk.set k v hv,h.rules.keep t (fun x q=>(h.rv_ne x q).1),zAr h.flows t (fun x q z=>h.fv_ne (z▸q))⟩
theorem zLE (W:World) (h:zAQ W D rv fv R room now F cA cD cR cM) (b4:cM+1<18446744073709551616) (s:ByteArray) (hs:s.size<=maxLen) (i:Int) (hc:cls s≠0):
 Calls Tryz.prog 85 #[.pointer (some ⟨D,0,none⟩),.int .u8 i,.string s] W fun e w'=>e= .returned (.agg #[.int .u8 (cls s),.int .u8 0,.int .u8 0,.bool false,.bool false])/\zAQ w' D rv fv R room now F cA cD cR (cM+1)/\Trn (fun x=>x=D) W w':=by
 have HP:Hid (∀W:World,Calls Tryz.prog 12 #[.string s] W fun e w'=>e= .returned (.tuple #[.agg #[.int .u32 0,.int .u32 0,.int .u8 0,.int .u16 0,.int .u16 0,.int .u8 0],.int .u8 (cls s)])/\Below W.heap.size W w'):=fun W=>(zDA s W hs).mono fun e w' ⟨he,hb⟩=>⟨by rw[he];unfold zA4;rw[if_neg hc];rfl,hb⟩
 have HH:=hid h;have hD:=h.blk.lt;have hDn:D≠W.heap.size:=Nat.ne_of_lt hD;have q:(cls s !=0)=true:=by simpa using hc
 have w4:IntKind.u64.wrap ((cM:Int)+1)=((cM+1:Nat):Int):=by rw[IntKind.wrap_u64];omega
 generalize cls s=c at HP q ⊢;clear h hs hc b4;go_enter Tryz.func85,Tryz.ntmps85;go_wp2_with (go_at_call 12;refine(HP.out _).mono ?_;rintro e w2 ⟨rfl,hb2⟩;have H2:Hid (zAQ w2 D rv fv R room now F cA cD cR cM/\Trn (fun x=>x=D) W w2):=⟨zAQ.below (HH.out.keep (Trn.alloc (fun _=>False) _ _) (fun _ _ q=>q)) hb2,(Trn.alloc _ _ _).trans (Trn.below hb2) (fun _ _ q=>q)⟩;have HR2:Hid (Blk 188 w2 W.heap.size [.int .u8 0,.int .u8 0,.int .u8 0,.bool false,.bool false]):=(Blk.made W 188 [.int .u8 0,.int .u8 0,.int .u8 0,.bool false,.bool false] (zAF rfl)).below hb2 (by simp);have r0:=HR2.out.cell 0 _ rfl;have r1:=HR2.out.cell 1 _ rfl;have r2:=HR2.out.cell 2 _ rfl;have r3:=HR2.out.cell 3 _ rfl;have r4:=HR2.out.cell 4 _ rfl;have rf:=HR2.out.frozen;have hWl:=HR2.out.lt;have hWn:W.heap.size≠w2.heap.size:=Nat.ne_of_lt hWl;have c9:=H2.out.1.blk.cell 9 _ rfl;have f9:=H2.out.1.blk.frozen 9;have hD2:=H2.out.1.blk.lt;have hDn2:D≠w2.heap.size:=Nat.ne_of_lt hD2;clear hb2);have hA:=H2.out.1.cnt 9 (.int .u64 ((cM:Int)+1)) cA cD cR (cM+1) rfl rfl;have tA:=Trn.setCell (S:=fun x=>x=D) w2 D 9 (.int .u64 ((cM:Int)+1)) rfl;have hb:=((zD2 (.int .u8 c) (.int .u8 0) (.int .u8 0) (.bool false) (.bool false) (HR2.out.trn tA (fun q=>hDn q.symm)).1 (zAF rfl)).alloc (.cells #[.int .u32 0,.int .u32 0,.int .u8 0,.int .u16 0,.int .u16 0,.int .u8 0] 38)).alloc (.cells #[.int .u8 c,.int .u8 0,.int .u8 0,.bool false,.bool false] 188);have t5:=((zD3 (fun x=>x=W.heap.size) (w2.setCell ⟨D,9,none⟩ (.int .u64 ((cM:Int)+1))) W.heap.size (.int .u8 c) (.int .u8 0) (.int .u8 0) (.bool false) (.bool false) rfl).trans (Trn.alloc (fun x=>x=W.heap.size) _ (.cells #[.int .u32 0,.int .u32 0,.int .u8 0,.int .u16 0,.int .u16 0,.int .u8 0] 38)) (fun _ _ q=>q)).trans (Trn.alloc (fun x=>x=W.heap.size) _ (.cells #[.int .u8 c,.int .u8 0,.int .u8 0,.bool false,.bool false] 188)) (fun _ _ q=>q);refine bodyPost_ret (v:= .agg [.int .u8 c,.int .u8 0,.int .u8 0,.bool false,.bool false].toArray) (zBY _ _ _ _ rfl hb rfl) rfl ⟨rfl,hA.keep t5 (fun x q e=> ?_),(H2.out.2.trans tA (fun _ _ q=>q)).trans t5 (fun m hm q=>by omega)⟩;have:=HH.out.lts x q;omega
end
section
variable {D : Nat} {rv fv : Value} {R : Option Bk} {room now : Nat} {F : List Fl} {cA cD cR cM : Nat}
structure Frm (W X:World) (S:Nat->Prop) (D hb eb:Nat) (rv fv:Value) (R:Option Bk) (room now:Nat) (F:List Fl) (cA cD cR cM:Nat) (hl el:List Value):Prop where
 doc:zAQ X D rv fv R room now F cA cD cR cM
 hd:Blk 38 X hb hl
 ev:Blk 188 X eb el
 res:Blk 188 X W.heap.size [.int .u8 0,.int .u8 0,.int .u8 0,.bool false,.bool false]
 lts:∀x,(x=D\/rv.ownBlock=some x\/fv.ownBlock=some x)->x<W.heap.size\/eb<x
 n0:D<W.heap.size
 n1:W.heap.size<hb
 n2:hb<eb
 sD:S D
 trn:Trn S W X
variable {S : Nat → Prop}
theorem Frm.below {W X Y:World} {hb eb:Nat} {hl el:List Value} (h:Frm W X S D hb eb rv fv R room now F cA cD cR cM hl el) (b:Below X.heap.size X Y):Frm W Y S D hb eb rv fv R room now F cA cD cR cM hl el:=
 ⟨h.doc.below b,h.hd.below b h.hd.lt,h.ev.below b h.ev.lt,h.res.below b h.res.lt,h.lts,h.n0,h.n1,h.n2,h.sD,h.trn.trans (Trn.below b) (fun _ _ q=>q)⟩
theorem Frm.set {W X:World} {hb eb:Nat} {hl el:List Value} (h:Frm W X S D hb eb rv fv R room now F cA cD cR cM hl el) (k:Nat) (v:Value) (hv:v.oneCell'=true):Frm W (X.setCell ⟨eb,k,none⟩ v) S D hb eb rv fv R room now F cA cD cR cM hl (el.set k v):=by
 have t:=Trn.setCell (S:=fun x=>x=eb) X eb k v rfl;have n1:=h.n1;have n2:=h.n2;exact⟨h.doc.keep t (fun x q e=>by have:=h.lts x q;omega),h.hd.trn t (fun e=>by omega),h.ev.set k v hv,h.res.trn t (fun e=>by omega),h.lts,h.n0,n1,n2,h.sD,h.trn.trans t (fun m hm q=>by omega)⟩
theorem Frm.cnt {W X:World} {hb eb:Nat} {hl el:List Value} (h:Frm W X S D hb eb rv fv R room now F cA cD cR cM hl el) (k:Nat) (v:Value) (cA' cD' cR' cM':Nat) (hv:v.oneCell'=true) (e:(zQ5 room R rv now fv cA cD cR cM).set k v=zQ5 room R rv now fv cA' cD' cR' cM'):Frm W (X.setCell ⟨D,k,none⟩ v) S D hb eb rv fv R room now F cA' cD' cR' cM' hl el:=by
 have t:=Trn.setCell (S:=fun x=>x=D) X D k v rfl;have n0:=h.n0;have n1:=h.n1;have n2:=h.n2;exact⟨h.doc.cnt k v cA' cD' cR' cM' hv e,h.hd.trn t (fun e=>by omega),h.ev.trn t (fun e=>by omega),h.res.trn t (fun e=>by omega),h.lts,n0,n1,n2,h.sD,h.trn.trans t (fun m _ q=>by rw[q];exact h.sD)⟩
theorem Frm.kept {W X Y:World} {hb eb:Nat} {hl el:List Value} {fv':Value} {F':List Fl} (h:Frm W X S D hb eb rv fv R room now F cA cD cR cM hl el) (hf:∀y,fv.ownBlock=some y->y<W.heap.size/\S y) (d:zAQ Y D rv fv' R room now F' cA cD cR cM) (t:Trn (fun y=>y=D\/fv.ownBlock=some y) X Y) (n:∀y,fv'.ownBlock=some y->fv.ownBlock=some y\/X.heap.size<=y):Frm W Y S D hb eb rv fv' R room now F' cA cD cR cM hl el:=by
 have n0:=h.n0;have n1:=h.n1;have n2:=h.n2;have he:=h.ev.lt;refine⟨d,h.hd.trn t (fun e=> ?_),h.ev.trn t (fun e=> ?_),h.res.trn t (fun e=> ?_),fun x q=> ?_,n0,n1,n2,h.sD,h.trn.trans t (fun m _ q=> ?_)⟩
 ·rcases e with e|e
  ·omega
  ·have:=(hf _ e).1;omega
 ·rcases e with e|e
  ·omega
  ·have:=(hf _ e).1;omega
 ·rcases e with e|e
  ·omega
  ·have:=(hf _ e).1;omega
 ·rcases q with q|q|q
  ·exact h.lts x (.inl q)
  ·exact h.lts x (.inr (.inl q))
  ·rcases n x q with z|z
   ·exact .inl (hf x z).1
   ·exact .inr (by omega)
 ·rcases q with q|q
  ·rw[q];exact h.sD
  ·exact(hf m q).2
theorem Frm.start {W w2:World} (h:zAQ W D rv fv R room now F cA cD cR cM) (hS:S D) (hb:Below (W.alloc (.cells #[.int .u8 0,.int .u8 0,.int .u8 0,.bool false,.bool false] 188)).heap.size (W.alloc (.cells #[.int .u8 0,.int .u8 0,.int .u8 0,.bool false,.bool false] 188)) w2) (hl el:List Value) (h1:∀v ∈ hl,v.oneCell'=true) (h2:∀v ∈ el,v.oneCell'=true):Frm W ((w2.alloc (.cells hl.toArray 38)).alloc (.cells el.toArray 188)) S D w2.heap.size (w2.heap.size+1) rv fv R room now F cA cD cR cM hl el:=by
 have z:(W.alloc (.cells #[.int .u8 0,.int .u8 0,.int .u8 0,.bool false,.bool false] 188)).heap.size=W.heap.size+1:=by simp
 have z2:(w2.alloc (.cells hl.toArray 38)).heap.size=w2.heap.size+1:=by simp
 have s2:=hb.size;have q2:=Blk.made (w2.alloc (.cells hl.toArray 38)) 188 el h2;rw[z2] at q2;have b0:Below W.heap.size W (W.alloc (.cells #[.int .u8 0,.int .u8 0,.int .u8 0,.bool false,.bool false] 188)):=bal _ _;have bW:Below W.heap.size W ((w2.alloc (.cells hl.toArray 38)).alloc (.cells el.toArray 188)):=((b0.trans (hb.mono (by omega))).alloc (by omega) _).alloc (by omega) _;exact⟨h.below bW,(Blk.made w2 38 hl h1).alloc _,q2,(((Blk.made W 188 [.int .u8 0,.int .u8 0,.int .u8 0,.bool false,.bool false] (zAF rfl)).below hb (by omega)).alloc _).alloc _,fun x q=> .inl (h.lts x q),h.blk.lt,by omega,by omega,hS,Trn.below bW⟩
theorem Frm.fin {W X:World} {hb eb:Nat} {hl el:List Value} (h:Frm W X S D hb eb rv fv R room now F cA cD cR cM hl el) (x0 x1 x2 x3 x4:Value) (h1:∀v ∈ [x0,x1,x2,x3,x4],v.oneCell'=true):Blk 188 (((((X.setCell ⟨W.heap.size,0,none⟩ x0).setCell ⟨W.heap.size,1,none⟩ x1).setCell ⟨W.heap.size,2,none⟩ x2).setCell ⟨W.heap.size,3,none⟩ x3).setCell ⟨W.heap.size,4,none⟩ x4) W.heap.size [x0,x1,x2,x3,x4]/\zAQ (((((X.setCell ⟨W.heap.size,0,none⟩ x0).setCell ⟨W.heap.size,1,none⟩ x1).setCell ⟨W.heap.size,2,none⟩ x2).setCell ⟨W.heap.size,3,none⟩ x3).setCell ⟨W.heap.size,4,none⟩ x4) D rv fv R room now F cA cD cR cM/\Trn S W (((((X.setCell ⟨W.heap.size,0,none⟩ x0).setCell ⟨W.heap.size,1,none⟩ x1).setCell ⟨W.heap.size,2,none⟩ x2).setCell ⟨W.heap.size,3,none⟩ x3).setCell ⟨W.heap.size,4,none⟩ x4):=by
 have t:=zD3 (fun x=>x=W.heap.size) X W.heap.size x0 x1 x2 x3 x4 rfl;have n1:=h.n1;have n2:=h.n2;exact⟨zD2 x0 x1 x2 x3 x4 h.res.1 h1,h.doc.keep t (fun x q e=>by have:=h.lts x q;omega),h.trn.trans t (fun m hm q=>by omega)⟩
theorem zKR (pol:Nat) (hp:pol<=2) (a b p sp dp f:Int) (m:Int×Int):∀l:List Rl,(∀r ∈ l,zGa r)->zJR pol a b p sp dp f m l<=2
 |[],_=>hp
 |r::l,h=>by
  rw[zJR]
  split
  ·exact(h r (List.mem_cons_self ..)).v
  ·exact zKR pol hp a b p sp dp f m l (fun x hx=>h x (List.mem_cons_of_mem _ hx))
theorem zNn (F:List Fl) (h:Hd):decide ((0:Int)<=zG7 F h)=(zBS F h).isSome:=by
 unfold zG7;cases zBS F h<;>simp
theorem zQx (F:List Fl) (h:Hd):(zA6 F h:Int)<=2:=by have:=zNQ F h;omega
theorem zJW (W:World) (h:zAQ W D rv fv none room now F cA cD cR cM) (hn:now<=zCr) (hF:F.length<=room) (hr1:1<=room) (hr:room<=64) (b1:cA+1<18446744073709551616) (b2:cD+1<18446744073709551616) (b3:cR+1<18446744073709551616) (s:ByteArray) (hs:s.size<=maxLen) (i:Int) (hi:0<=i/\i<=255) (hc:cls s=0) (hw:(zBa s).Wf):
 Calls Tryz.prog 85 #[.pointer (some ⟨D,0,none⟩),.int .u8 i,.string s] W fun e w'=>e= .returned (.agg (evG none room now F s i).1.l.toArray)/\∃fv',zAQ w' D rv fv' none room now (evG none room now F s i).2 (cA+zBZ (evG none room now F s i).1.c (evG none room now F s i).1.v 0) (cD+zBZ (evG none room now F s i).1.c (evG none room now F s i).1.v 1) (cR+zBZ (evG none room now F s i).1.c (evG none room now F s i).1.v 2) (cM+zBZ (evG none room now F s i).1.c (evG none room now F s i).1.v 3)/\Trn (fun y=>y=D\/fv.ownBlock=some y) W w'/\∀y,fv'.ownBlock=some y->fv.ownBlock=some y\/W.heap.size<=y:=by
 have HP:Hid (∀V:World,Calls Tryz.prog 12 #[.string s] V fun e w'=>e= .returned (.tuple #[.agg (zBa s).cells,.int .u8 0])/\Below V.heap.size V w'):=fun V=>(zDA s V hs).mono fun e w' ⟨he,hb⟩=>⟨by rw[he];unfold zA4;rw[if_pos hc,hc,zEI],hb⟩
 have HH:=hid h;have HFO:Hid (∀V:World,zAQ V D rv fv none room now F cA cD cR cM->Calls Tryz.prog 112 #[.pointer (some ⟨D,0,none⟩),.agg (zBa s).cells] V fun e w'=>e= .returned (.tuple #[.int .i64 (zG7 F (zBa s)),.int .i64 (zIM F (zBa s):Int)])/\Below V.heap.size V w'):=fun V hv=>zGQ V hv (by omega) (zBa s)
 have HST:Hid (∀V:World,zAQ V D rv fv none room now F cA cD cR cM->Calls Tryz.prog 113 #[.pointer (some ⟨D,0,none⟩),.agg (zBa s).cells,.int .i64 (zG7 F (zBa s)),.int .i64 (zIM F (zBa s):Int)] V fun e w'=>e= .returned (.int .u8 (zA6 F (zBa s):Int))/\Below V.heap.size V w'):=fun V hv=>zGR V hv (zBa s) hw.f
 have hD:=h.blk.lt;have hDn:D≠W.heap.size:=Nat.ne_of_lt hD;have HE:Hid (evG none room now F s i=_):=show evG none room now F s i=_ by unfold evG;rw[if_pos hc]
 have HIS:=zNn F (zBa s);obtain⟨hd0,hhd⟩:∃hd0,zBa s=hd0:=⟨_,rfl⟩;rw[hhd] at HP HFO HST HE HIS hw;obtain⟨kn,hkn⟩:∃kn,(zBS F hd0).isSome=kn:=⟨_,rfl⟩;rw[hkn] at HIS HE;generalize zG7 F hd0=ix at*;generalize (zIM F hd0:Int)=wy at*;clear hkn hhd;generalize (zA6 F hd0:Int)=st at HST HE;generalize evG none room now F s i=EV at HE ⊢;have w7:IntKind.u64.wrap ((cD:Int)+1)=(cD:Int)+1:=by rw[IntKind.wrap_u64];omega
 obtain⟨a,b,p,sp,dp,fl⟩:=hd0;dsimp only[Hd.cells] at HP HFO HST;clear h hs hc hw hn hF hr1 hr b1 b2 b3;go_enter Tryz.func85,Tryz.ntmps85;go_wp2_with (first|(go_at_call 12;refine(HP.out _).mono ?_;rintro e w2 ⟨rfl,hb2⟩;have HF2:Hid (Frm W ((w2.alloc (.cells #[.int .u32 a,.int .u32 b,.int .u8 p,.int .u16 sp,.int .u16 dp,.int .u8 fl] 38)).alloc (.cells #[.int .u8 0,.int .u8 0,.int .u8 0,.bool false,.bool false] 188)) (fun y=>y=D\/fv.ownBlock=some y) D w2.heap.size (w2.heap.size+1) rv fv none room now F cA cD cR cM [.int .u32 a,.int .u32 b,.int .u8 p,.int .u16 sp,.int .u16 dp,.int .u8 fl] [.int .u8 0,.int .u8 0,.int .u8 0,.bool false,.bool false]):=Frm.start HH.out (.inl rfl) hb2 [.int .u32 a,.int .u32 b,.int .u8 p,.int .u16 sp,.int .u16 dp,.int .u8 fl] [.int .u8 0,.int .u8 0,.int .u8 0,.bool false,.bool false] (zAF rfl) (zAF rfl);clear hb2)|(go_at_call 112;refine(HFO.out _ HF2.out.doc).mono ?_;rintro e w3 ⟨rfl,hb3⟩;have HF3:Hid (Frm W w3 (fun y=>y=D\/fv.ownBlock=some y) D w2.heap.size (w2.heap.size+1) rv fv none room now F cA cD cR cM [.int .u32 a,.int .u32 b,.int .u8 p,.int .u16 sp,.int .u16 dp,.int .u8 fl] [.int .u8 0,.int .u8 0,.int .u8 0,.bool false,.bool false]):=HF2.out.below hb3;clear hb3;have x3:=HF3.out.ev.cell 3 _ rfl;have xf:=HF3.out.ev.frozen 3;have y0:=HF3.out.hd.cell 0 _ rfl;have y1:=HF3.out.hd.cell 1 _ rfl;have y2:=HF3.out.hd.cell 2 _ rfl;have y3:=HF3.out.hd.cell 3 _ rfl;have y4:=HF3.out.hd.cell 4 _ rfl;have y5:=HF3.out.hd.cell 5 _ rfl;have n1:=HF3.out.n1;have n2:w2.heap.size≠w2.heap.size+1:=(by omega))|(go_at_call 113;refine(HST.out _ (HF3.out.set 3 (.bool kn) rfl).doc).mono ?_;rintro e w4 ⟨rfl,hb4⟩;have HF4:Hid (Frm W w4 (fun y=>y=D\/fv.ownBlock=some y) D w2.heap.size (w2.heap.size+1) rv fv none room now F cA cD cR cM [.int .u32 a,.int .u32 b,.int .u8 p,.int .u16 sp,.int .u16 dp,.int .u8 fl] [.int .u8 0,.int .u8 0,.int .u8 0,.bool kn,.bool false]):=(HF3.out.set 3 (.bool kn) rfl).below hb4;clear hb4 x3 xf y0 y1 y2 y3 y4 y5;skip;have x0:=HF4.out.ev.cell 0 _ rfl;have x1:=HF4.out.ev.cell 1 _ rfl;have x2:=HF4.out.ev.cell 2 _ rfl;have x3:=HF4.out.ev.cell 3 _ rfl;have x4:=HF4.out.ev.cell 4 _ rfl;have xg:=HF4.out.ev.frozen;have r0:=HF4.out.res.cell 0 _ rfl;have r1:=HF4.out.res.cell 1 _ rfl;have r2:=HF4.out.res.cell 2 _ rfl;have r3:=HF4.out.res.cell 3 _ rfl;have r4:=HF4.out.res.cell 4 _ rfl;have rg:=HF4.out.res.frozen;have d1:=HF4.out.doc.blk.cell 1 _ rfl;have d6:=HF4.out.doc.blk.cell 6 _ rfl;have d7:=HF4.out.doc.blk.cell 7 _ rfl;have d8:=HF4.out.doc.blk.cell 8 _ rfl;have dg:=HF4.out.doc.blk.frozen;have n3:D≠w2.heap.size+1:=(by omega);have n4:W.heap.size≠w2.heap.size+1:=(by omega)));have q:=((HF4.out.set 1 (.int .u8 st) rfl).cnt 7 (.int .u64 ((cD:Int)+1)) cA (cD+1) cR cM rfl rfl).fin (.int .u8 0) (.int .u8 st) (.int .u8 0) (.bool kn) (.bool false) (zAF rfl);have hev:EV=(⟨0,st,0,kn,false⟩,F):=by rw[HE.out,if_neg (show ¬zDc none s i st=1 from(show ¬(0:Nat)=1 by decide))];rfl
 subst hev;refine bodyPost_ret (v:= .agg [.int .u8 0,.int .u8 st,.int .u8 0,.bool kn,.bool false].toArray) (zBY _ _ _ _ rfl q.1 rfl) rfl ⟨rfl,fv,q.2.1,q.2.2,fun y z=> .inl z⟩
theorem zJX (W:World) (bk:Bk) (h:zAQ W D rv fv (some bk) room now F cA cD cR cM) (hn:now<=zCr) (hF:F.length<=room) (hr1:1<=room) (hr:room<=64) (b1:cA+1<18446744073709551616) (b2:cD+1<18446744073709551616) (b3:cR+1<18446744073709551616) (s:ByteArray) (hs:s.size<=maxLen) (i:Int) (hi:0<=i/\i<=255) (hc:cls s=0) (hw:(zBa s).Wf):
 Calls Tryz.prog 85 #[.pointer (some ⟨D,0,none⟩),.int .u8 i,.string s] W fun e w'=>e= .returned (.agg (evG (some bk) room now F s i).1.l.toArray)/\∃fv',zAQ w' D rv fv' (some bk) room now (evG (some bk) room now F s i).2 (cA+zBZ (evG (some bk) room now F s i).1.c (evG (some bk) room now F s i).1.v 0) (cD+zBZ (evG (some bk) room now F s i).1.c (evG (some bk) room now F s i).1.v 1) (cR+zBZ (evG (some bk) room now F s i).1.c (evG (some bk) room now F s i).1.v 2) (cM+zBZ (evG (some bk) room now F s i).1.c (evG (some bk) room now F s i).1.v 3)/\Trn (fun y=>y=D\/fv.ownBlock=some y) W w'/\∀y,fv'.ownBlock=some y->fv.ownBlock=some y\/W.heap.size<=y:=by
 have hgb:zBr bk:=by
  rcases h.rules with⟨q,_⟩|⟨b',B',q,q2,q3⟩
  ·cases q
  ·cases q;exact q2
 have HFL:Hid (∀y,fv.ownBlock=some y->y<W.heap.size):=fun y q=>h.lts y (.inr (.inr q))
 obtain⟨rp,rc,rfl⟩:∃rp rc,rv= .slice rp bk.rs.length rc:=by
  rcases h.rules with⟨q,_⟩|⟨b',B',q,q2,q3⟩
  ·cases q
  ·cases q;exact zAn q3
 have HP:Hid (∀V:World,Calls Tryz.prog 12 #[.string s] V fun e w'=>e= .returned (.tuple #[.agg (zBa s).cells,.int .u8 0])/\Below V.heap.size V w'):=fun V=>(zDA s V hs).mono fun e w' ⟨he,hb⟩=>⟨by rw[he];unfold zA4;rw[if_pos hc,hc,zEI],hb⟩
 have HH:=hid h;have HFO:Hid (∀V:World,zAQ V D (.slice rp bk.rs.length rc) fv (some bk) room now F cA cD cR cM->Calls Tryz.prog 112 #[.pointer (some ⟨D,0,none⟩),.agg (zBa s).cells] V fun e w'=>e= .returned (.tuple #[.int .i64 (zG7 F (zBa s)),.int .i64 (zIM F (zBa s):Int)])/\Below V.heap.size V w'):=fun V hv=>zGQ V hv (by omega) (zBa s)
 have HST:Hid (∀V:World,zAQ V D (.slice rp bk.rs.length rc) fv (some bk) room now F cA cD cR cM->Calls Tryz.prog 113 #[.pointer (some ⟨D,0,none⟩),.agg (zBa s).cells,.int .i64 (zG7 F (zBa s)),.int .i64 (zIM F (zBa s):Int)] V fun e w'=>e= .returned (.int .u8 (zA6 F (zBa s):Int))/\Below V.heap.size V w'):=fun V hv=>zGR V hv (zBa s) hw.f
 have hD:=h.blk.lt;have hDn:D≠W.heap.size:=Nat.ne_of_lt hD;have HE:Hid (evG (some bk) room now F s i=_):=show evG (some bk) room now F s i=_ by unfold evG;rw[if_pos hc]
 have HIS:=zNn F (zBa s);have ht2:(0:Int)<=(zA6 F (zBa s):Int)/\(zA6 F (zBa s):Int)<=2:=⟨by omega,zQx F (zBa s)⟩;have e1:zDc (some bk) s i (zA6 F (zBa s))=zJR bk.pol (zBa s).a (zBa s).b (zBa s).p (zBa s).s (zBa s).d (zBa s).f (i,(zA6 F (zBa s):Int)) bk.rs:=zKN (zQs hc) (i,(zA6 F (zBa s):Int)) ht2 bk.pol bk.rs hgb.rs;have HVD:Hid (∀V:World,zAQ V D (.slice rp bk.rs.length rc) fv (some bk) room now F cA cD cR cM->Calls Tryz.prog 14 #[.agg #[.int .i64 (bk.pol:Int),.slice rp bk.rs.length rc],.agg (zBa s).cells,.int .i64 i,.int .i64 (zA6 F (zBa s):Int)] V fun e w'=>e= .returned (.int .i64 (zDc (some bk) s i (zA6 F (zBa s)):Int))/\Below V.heap.size V w'):=fun V hv=>by
  rw[e1];rcases hv.rules with⟨q,_⟩|⟨b',B',q,q2,q3⟩
  ·cases q
  ·cases q
   exact zIG bk.pol bk.rs rp bk.rs.length rc B' _ _ _ _ _ _ (i,(zA6 F (zBa s):Int)) V q3 hgb.len hgb.rs ⟨hw.a.1,by have:=hw.a.2;omega⟩ ⟨hw.b.1,by have:=hw.b.2;omega⟩ ⟨hw.p.1,by have:=hw.p.2;omega⟩ ⟨hw.s.1,by have:=hw.s.2;omega⟩ ⟨hw.d.1,by have:=hw.d.2;omega⟩ hw.f ht2
 have hv2:zDc (some bk) s i (zA6 F (zBa s))<=2:=by rw[e1];exact zKR _ hgb.pol _ _ _ _ _ _ _ _ hgb.rs
 have HKP:Hid (∀(V:World) (cA:Nat),zAQ V D (.slice rp bk.rs.length rc) fv (some bk) room now F cA cD cR cM->Calls Tryz.prog 114 #[.pointer (some ⟨D,0,none⟩),.agg (zBa s).cells,.int .i64 (zG7 F (zBa s)),.int .i64 (zIM F (zBa s):Int),.int .u8 (zA6 F (zBa s):Int)] V fun e w'=>e= .returned (.bool (zBX room now F (zBa s)).1)/\∃fv',zAQ w' D (.slice rp bk.rs.length rc) fv' (some bk) room now (zBX room now F (zBa s)).2 cA cD cR cM/\Trn (fun y=>y=D\/fv.ownBlock=some y) V w'/\∀y,fv'.ownBlock=some y->fv.ownBlock=some y\/V.heap.size<=y):=fun V cA hv=>zNm V hv hn hF hr1 hr (zBa s) hw.f
 obtain⟨hd0,hhd⟩:∃hd0,zBa s=hd0:=⟨_,rfl⟩;rw[hhd] at HP HFO HST HE HIS hw HVD HKP hv2 ht2;obtain⟨kn,hkn⟩:∃kn,(zBS F hd0).isSome=kn:=⟨_,rfl⟩;rw[hkn] at HIS HE;generalize zG7 F hd0=ix at*;generalize (zIM F hd0:Int)=wy at*;clear hkn hhd e1;obtain⟨V0,hV0⟩:∃V0,zDc (some bk) s i (zA6 F hd0:Int)=V0:=⟨_,rfl⟩;rw[hV0] at HVD HE hv2;clear hV0;generalize (zA6 F hd0:Int)=st at HST HE HVD HKP ht2;obtain⟨ko,hko⟩:∃ko,(zBX room now F hd0).1=ko:=⟨_,rfl⟩;obtain⟨F2,hF2⟩:∃F2,(zBX room now F hd0).2=F2:=⟨_,rfl⟩;rw[hko,hF2] at HKP HE;clear hko hF2;generalize evG (some bk) room now F s i=EV at HE ⊢;have w7:IntKind.u64.wrap ((cD:Int)+1)=(cD:Int)+1:=by rw[IntKind.wrap_u64];omega
 have w6:IntKind.u64.wrap ((cA:Int)+1)=(cA:Int)+1:=by rw[IntKind.wrap_u64];omega
 have w8:IntKind.u64.wrap ((cR:Int)+1)=(cR:Int)+1:=by rw[IntKind.wrap_u64];omega
 have wv0:IntKind.u8.wrap (V0:Int)=(V0:Int):=by rw[IntKind.wrap_u8];omega
 obtain⟨v,hv⟩:∃v:Int,(V0:Int)=v:=⟨_,rfl⟩;have HVN:=hid (And.intro hv hv2);rw[hv] at HVD wv0;clear hv hv2;have wi:IntKind.i64.wrap i=i:=by rw[IntKind.wrap_i64];omega
 have ws:IntKind.i64.wrap st=st:=by rw[IntKind.wrap_i64];omega
 obtain⟨a,b,p,sp,dp,fl⟩:=hd0;dsimp only[Hd.cells] at HP HFO HST HVD HKP;clear h hs hc hw hn hF hr1 hr b1 b2 b3;go_enter Tryz.func85,Tryz.ntmps85;go_upto_region 10 with(first|(go_at_call 12;refine(HP.out _).mono ?_;rintro e w2 ⟨rfl,hb2⟩;have HF2:Hid (Frm W ((w2.alloc (.cells #[.int .u32 a,.int .u32 b,.int .u8 p,.int .u16 sp,.int .u16 dp,.int .u8 fl] 38)).alloc (.cells #[.int .u8 0,.int .u8 0,.int .u8 0,.bool false,.bool false] 188)) (fun y=>y=D\/fv.ownBlock=some y) D w2.heap.size (w2.heap.size+1) (.slice rp bk.rs.length rc) fv (some bk) room now F cA cD cR cM [.int .u32 a,.int .u32 b,.int .u8 p,.int .u16 sp,.int .u16 dp,.int .u8 fl] [.int .u8 0,.int .u8 0,.int .u8 0,.bool false,.bool false]):=Frm.start HH.out (.inl rfl) hb2 [.int .u32 a,.int .u32 b,.int .u8 p,.int .u16 sp,.int .u16 dp,.int .u8 fl] [.int .u8 0,.int .u8 0,.int .u8 0,.bool false,.bool false] (zAF rfl) (zAF rfl);clear hb2)|(go_at_call 112;refine(HFO.out _ HF2.out.doc).mono ?_;rintro e w3 ⟨rfl,hb3⟩;have HF3:Hid (Frm W w3 (fun y=>y=D\/fv.ownBlock=some y) D w2.heap.size (w2.heap.size+1) (.slice rp bk.rs.length rc) fv (some bk) room now F cA cD cR cM [.int .u32 a,.int .u32 b,.int .u8 p,.int .u16 sp,.int .u16 dp,.int .u8 fl] [.int .u8 0,.int .u8 0,.int .u8 0,.bool false,.bool false]):=HF2.out.below hb3;clear hb3;have x3:=HF3.out.ev.cell 3 _ rfl;have xf:=HF3.out.ev.frozen 3;have y0:=HF3.out.hd.cell 0 _ rfl;have y1:=HF3.out.hd.cell 1 _ rfl;have y2:=HF3.out.hd.cell 2 _ rfl;have y3:=HF3.out.hd.cell 3 _ rfl;have y4:=HF3.out.hd.cell 4 _ rfl;have y5:=HF3.out.hd.cell 5 _ rfl;have n1:=HF3.out.n1;have n2:w2.heap.size≠w2.heap.size+1:=(by omega))|(go_at_call 113;refine(HST.out _ (HF3.out.set 3 (.bool kn) rfl).doc).mono ?_;rintro e w4 ⟨rfl,hb4⟩;have HF4:Hid (Frm W w4 (fun y=>y=D\/fv.ownBlock=some y) D w2.heap.size (w2.heap.size+1) (.slice rp bk.rs.length rc) fv (some bk) room now F cA cD cR cM [.int .u32 a,.int .u32 b,.int .u8 p,.int .u16 sp,.int .u16 dp,.int .u8 fl] [.int .u8 0,.int .u8 0,.int .u8 0,.bool kn,.bool false]):=(HF3.out.set 3 (.bool kn) rfl).below hb4;clear hb4 x3 xf y0 y1 y2 y3 y4 y5;skip;have x0:=HF4.out.ev.cell 0 _ rfl;have x1:=HF4.out.ev.cell 1 _ rfl;have x2:=HF4.out.ev.cell 2 _ rfl;have x3:=HF4.out.ev.cell 3 _ rfl;have x4:=HF4.out.ev.cell 4 _ rfl;have xg:=HF4.out.ev.frozen;have r0:=HF4.out.res.cell 0 _ rfl;have r1:=HF4.out.res.cell 1 _ rfl;have r2:=HF4.out.res.cell 2 _ rfl;have r3:=HF4.out.res.cell 3 _ rfl;have r4:=HF4.out.res.cell 4 _ rfl;have rg:=HF4.out.res.frozen;have d1:=HF4.out.doc.blk.cell 1 _ rfl;have d6:=HF4.out.doc.blk.cell 6 _ rfl;have d7:=HF4.out.doc.blk.cell 7 _ rfl;have d8:=HF4.out.doc.blk.cell 8 _ rfl;have dg:=HF4.out.doc.blk.frozen;have n3:D≠w2.heap.size+1:=(by omega);have n4:W.heap.size≠w2.heap.size+1:=(by omega)))
 obtain⟨X5,hX5⟩:∃X5,w4.setCell ⟨w2.heap.size+1,1,none⟩ (.int .u8 st)=X5:=⟨_,rfl⟩;rw[hX5];have HF5:Hid (Frm W X5 (fun y=>y=D\/fv.ownBlock=some y) D w2.heap.size (w2.heap.size+1) (.slice rp bk.rs.length rc) fv (some bk) room now F cA cD cR cM [.int .u32 a,.int .u32 b,.int .u8 p,.int .u16 sp,.int .u16 dp,.int .u8 fl] [.int .u8 0,.int .u8 st,.int .u8 0,.bool kn,.bool false]):=by rw[<-hX5];exact HF4.out.set 1 (.int .u8 st) rfl
 clear hX5 x0 x1 x2 x3 x4 xg r0 r1 r2 r3 r4 rg d1 d6 d7 d8 dg HF4 HF3 HF2;have SOF:Hid (∀w':World,Below X5.heap.size X5 w'->(Below X5.heap.size X5 w'/\w'.cell? ⟨D,2,none⟩=some (.int .i64 (bk.pol:Int))/\w'.cell? ⟨D,3,none⟩=some (.slice rp bk.rs.length rc)/\w'.cell? ⟨w2.heap.size,0,none⟩=some (.int .u32 a)/\w'.cell? ⟨w2.heap.size,1,none⟩=some (.int .u32 b)/\w'.cell? ⟨w2.heap.size,2,none⟩=some (.int .u8 p)/\w'.cell? ⟨w2.heap.size,3,none⟩=some (.int .u16 sp)/\w'.cell? ⟨w2.heap.size,4,none⟩=some (.int .u16 dp)/\w'.cell? ⟨w2.heap.size,5,none⟩=some (.int .u8 fl)/\w'.cell? ⟨w2.heap.size+1,1,none⟩=some (.int .u8 st))):=fun w' hb=>⟨hb,(hb.cell (p:=⟨D,2,none⟩) HF5.out.doc.blk.lt).trans (HF5.out.doc.blk.cell 2 _ rfl),(hb.cell (p:=⟨D,3,none⟩) HF5.out.doc.blk.lt).trans (HF5.out.doc.blk.cell 3 _ rfl),(hb.cell (p:=⟨w2.heap.size,0,none⟩) HF5.out.hd.lt).trans (HF5.out.hd.cell 0 _ rfl),(hb.cell (p:=⟨w2.heap.size,1,none⟩) HF5.out.hd.lt).trans (HF5.out.hd.cell 1 _ rfl),(hb.cell (p:=⟨w2.heap.size,2,none⟩) HF5.out.hd.lt).trans (HF5.out.hd.cell 2 _ rfl),(hb.cell (p:=⟨w2.heap.size,3,none⟩) HF5.out.hd.lt).trans (HF5.out.hd.cell 3 _ rfl),(hb.cell (p:=⟨w2.heap.size,4,none⟩) HF5.out.hd.lt).trans (HF5.out.hd.cell 4 _ rfl),(hb.cell (p:=⟨w2.heap.size,5,none⟩) HF5.out.hd.lt).trans (HF5.out.hd.cell 5 _ rfl),(hb.cell (p:=⟨w2.heap.size+1,1,none⟩) HF5.out.ev.lt).trans (HF5.out.ev.cell 1 _ rfl)⟩
 have HVX:Hid (∀V:World,Below X5.heap.size X5 V->Calls Tryz.prog 14 #[.agg #[.int .i64 (bk.pol:Int),.slice rp bk.rs.length rc],.agg #[.int .u32 a,.int .u32 b,.int .u8 p,.int .u16 sp,.int .u16 dp,.int .u8 fl],.int .i64 i,.int .i64 st] V fun e w'=>e= .returned (.int .i64 v)/\Below X5.heap.size X5 w'):=fun V hb=>(HVD.out V (HF5.out.doc.below hb)).mono fun e w' z=>⟨z.1,hb.trans (z.2.mono hb.size)⟩
 go_cut [12] from 52 to 62 (fun x w'=>x= .int .i64 v/\Below X5.heap.size X5 w')
 case first=>
  go_region_held3 (fun w'=>Below X5.heap.size X5 w'/\w'.cell? ⟨D,2,none⟩=some (.int .i64 (bk.pol:Int))/\w'.cell? ⟨D,3,none⟩=some (.slice rp bk.rs.length rc)/\w'.cell? ⟨w2.heap.size,0,none⟩=some (.int .u32 a)/\w'.cell? ⟨w2.heap.size,1,none⟩=some (.int .u32 b)/\w'.cell? ⟨w2.heap.size,2,none⟩=some (.int .u8 p)/\w'.cell? ⟨w2.heap.size,3,none⟩=some (.int .u16 sp)/\w'.cell? ⟨w2.heap.size,4,none⟩=some (.int .u16 dp)/\w'.cell? ⟨w2.heap.size,5,none⟩=some (.int .u8 fl)/\w'.cell? ⟨w2.heap.size+1,1,none⟩=some (.int .u8 st)) ((go_split_ands;refine SOF.out _ ?_;with_reducible first|assumption|exact Below.drew (Below.refl _ _)|exact Below.drew (by with_reducible assumption))) ((go_at_call 14;refine(HVX.out _ (by with_reducible first|assumption|exact Below.drew (Below.refl _ _)|exact Below.drew (by with_reducible assumption))).mono ?_;rintro e w5 ⟨rfl,hb5⟩))
  all_goals
   go_wp2_with fail;go_meet;exact⟨rfl,by assumption⟩
 obtain⟨rfl,hb5⟩:=hcut;have HF6:Hid (Frm W wc (fun y=>y=D\/fv.ownBlock=some y) D w2.heap.size (w2.heap.size+1) (.slice rp bk.rs.length rc) fv (some bk) room now F cA cD cR cM [.int .u32 a,.int .u32 b,.int .u8 p,.int .u16 sp,.int .u16 dp,.int .u8 fl] [.int .u8 0,.int .u8 st,.int .u8 0,.bool kn,.bool false]):=HF5.out.below hb5;clear hb5 SOF HVX;have x0:=HF6.out.ev.cell 0 _ rfl;have x1:=HF6.out.ev.cell 1 _ rfl;have x2:=HF6.out.ev.cell 2 _ rfl;have x3:=HF6.out.ev.cell 3 _ rfl;have x4:=HF6.out.ev.cell 4 _ rfl;have xg:=HF6.out.ev.frozen;have r0:=HF6.out.res.cell 0 _ rfl;have r1:=HF6.out.res.cell 1 _ rfl;have r2:=HF6.out.res.cell 2 _ rfl;have r3:=HF6.out.res.cell 3 _ rfl;have r4:=HF6.out.res.cell 4 _ rfl;have rg:=HF6.out.res.frozen;have d6:=HF6.out.doc.blk.cell 6 _ rfl;have d7:=HF6.out.doc.blk.cell 7 _ rfl;have d8:=HF6.out.doc.blk.cell 8 _ rfl;have dg:=HF6.out.doc.blk.frozen
 by_cases hv1:v=1
 ·have t1:(v == 1)=true:=by simpa using hv1
  have HV1:Hid (v=1):=hv1;clear hv1;go_upto_region 16 with fail
  obtain⟨X8,hX8⟩:∃X8,(wc.setCell ⟨w2.heap.size+1,2,none⟩ (.int .u8 v)).setCell ⟨D,6,none⟩ (.int .u64 ((cA:Int)+1))=X8:=⟨_,rfl⟩;rw[hX8];have HF8:Hid (Frm W X8 (fun y=>y=D\/fv.ownBlock=some y) D w2.heap.size (w2.heap.size+1) (.slice rp bk.rs.length rc) fv (some bk) room now F (cA+1) cD cR cM [.int .u32 a,.int .u32 b,.int .u8 p,.int .u16 sp,.int .u16 dp,.int .u8 fl] [.int .u8 0,.int .u8 st,.int .u8 v,.bool kn,.bool false]):=by rw[<-hX8];exact(HF6.out.set 2 (.int .u8 v) rfl).cnt 6 (.int .u64 ((cA:Int)+1)) (cA+1) cD cR cM rfl rfl
  clear hX8 x0 x1 x2 x3 x4 xg r0 r1 r2 r3 r4 rg d6 d7 d8 dg HF6 HF5;have HKX:Hid (∀V:World,Below X8.heap.size X8 V->Calls Tryz.prog 114 #[.pointer (some ⟨D,0,none⟩),.agg #[.int .u32 a,.int .u32 b,.int .u8 p,.int .u16 sp,.int .u16 dp,.int .u8 fl],.int .i64 ix,.int .i64 wy,.int .u8 st] V fun e w'=>e= .returned (.bool ko)/\∃fv',Frm W w' (fun y=>y=D\/fv.ownBlock=some y) D w2.heap.size (w2.heap.size+1) (.slice rp bk.rs.length rc) fv' (some bk) room now F2 (cA+1) cD cR cM [.int .u32 a,.int .u32 b,.int .u8 p,.int .u16 sp,.int .u16 dp,.int .u8 fl] [.int .u8 0,.int .u8 st,.int .u8 v,.bool kn,.bool false]/\∀y,fv'.ownBlock=some y->fv.ownBlock=some y\/W.heap.size<=y):=fun V hb=>(HKP.out V (cA+1) (HF8.out.doc.below hb)).mono fun e w' z=>by
   obtain⟨z1,fv',z2,z3,z4⟩:=z;exact⟨z1,fv',(HF8.out.below hb).kept (fun y q=>⟨HFL.out y q,.inr q⟩) z2 z3 z4,fun y q=>(z4 y q).imp id (fun r=>Nat.le_trans (Nat.le_trans HF8.out.trn.size hb.size) r)⟩
  have y0:=HF8.out.hd.cell 0 _ rfl;have y1:=HF8.out.hd.cell 1 _ rfl;have y2:=HF8.out.hd.cell 2 _ rfl;have y3:=HF8.out.hd.cell 3 _ rfl;have y4:=HF8.out.hd.cell 4 _ rfl;have y5:=HF8.out.hd.cell 5 _ rfl;have y6:=HF8.out.ev.cell 1 _ rfl;go_upto_region 17 with(go_at_call 114;refine(HKX.out _ (Below.refl _ _)).mono ?_;rintro e w9 ⟨rfl,fv',hk9,hm9⟩;have HFM:=hid hm9;have HF9:=hid hk9;clear hk9 hm9)
  clear HKX HF8 y0 y1 y2 y3 y4 y5 y6;have x0:=HF9.out.ev.cell 0 _ rfl;have x1:=HF9.out.ev.cell 1 _ rfl;have x2:=HF9.out.ev.cell 2 _ rfl;have x3:=HF9.out.ev.cell 3 _ rfl;have x4:=HF9.out.ev.cell 4 _ rfl;have xg:=HF9.out.ev.frozen;have r0:=HF9.out.res.cell 0 _ rfl;have r1:=HF9.out.res.cell 1 _ rfl;have r2:=HF9.out.res.cell 2 _ rfl;have r3:=HF9.out.res.cell 3 _ rfl;have r4:=HF9.out.res.cell 4 _ rfl;have rg:=HF9.out.res.frozen;go_wp2_with fail;have q:=(HF9.out.set 4 (.bool ko) rfl).fin (.int .u8 0) (.int .u8 st) (.int .u8 v) (.bool kn) (.bool ko) (zAF rfl);have hev:EV=(⟨0,st,1,kn,ko⟩,F2):=by rw[HE.out,if_pos (by have:=HVN.out.1;have:=HV1.out;omega)]
  subst hev;have e1:=HV1.out;subst e1;exact bodyPost_ret (v:= .agg [.int .u8 0,.int .u8 st,.int .u8 1,.bool kn,.bool ko].toArray) (zBY _ _ _ _ rfl q.1 rfl) rfl ⟨rfl,fv',q.2.1,q.2.2,HFM.out⟩
 ·have t1:(v == 1)=false:=by simpa using hv1
  have HV1:Hid (¬v=1):=hv1;clear hv1
  by_cases hv3:v=2
  ·have t2:(v == 2)=true:=by simpa using hv3
   have HV3:Hid (v=2):=hv3;clear hv3;go_wp2_with fail;have q:=((HF6.out.set 2 (.int .u8 v) rfl).cnt 8 (.int .u64 ((cR:Int)+1)) cA cD (cR+1) cM rfl rfl).fin (.int .u8 0) (.int .u8 st) (.int .u8 v) (.bool kn) (.bool false) (zAF rfl);have hev:EV=(⟨0,st,v,kn,false⟩,F):=by rw[HE.out,if_neg (fun e=>HV1.out (by have:=HVN.out.1;omega)),HVN.out.1]
   subst hev;have hk:∀k,zBZ 0 v k=if k=2 then 1 else 0:=fun k=>by unfold zBZ;rw[if_neg (by decide),if_neg HV1.out,if_pos HV3.out]
   exact bodyPost_ret (v:= .agg [.int .u8 0,.int .u8 st,.int .u8 v,.bool kn,.bool false].toArray) (zBY _ _ _ _ rfl q.1 rfl) rfl ⟨rfl,fv,by rw[hk 0,hk 1,hk 2,hk 3];exact q.2.1,q.2.2,fun y z=> .inl z⟩
  ·have t2:(v == 2)=false:=by simpa using hv3
   have HV3:Hid (¬v=2):=hv3;clear hv3;go_wp2_with fail;have q:=((HF6.out.set 2 (.int .u8 v) rfl).cnt 7 (.int .u64 ((cD:Int)+1)) cA (cD+1) cR cM rfl rfl).fin (.int .u8 0) (.int .u8 st) (.int .u8 v) (.bool kn) (.bool false) (zAF rfl);have hev:EV=(⟨0,st,v,kn,false⟩,F):=by rw[HE.out,if_neg (fun e=>HV1.out (by have:=HVN.out.1;omega)),HVN.out.1]
   subst hev;have hk:∀k,zBZ 0 v k=if k=1 then 1 else 0:=fun k=>by unfold zBZ;rw[if_neg (by decide),if_neg HV1.out,if_neg HV3.out]
   exact bodyPost_ret (v:= .agg [.int .u8 0,.int .u8 st,.int .u8 v,.bool kn,.bool false].toArray) (zBY _ _ _ _ rfl q.1 rfl) rfl ⟨rfl,fv,by rw[hk 0,hk 1,hk 2,hk 3];exact q.2.1,q.2.2,fun y z=> .inl z⟩
theorem zLF (W:World) (h:zAQ W D rv fv R room now F cA cD cR cM) (hn:now<=zCr) (hF:F.length<=room) (hr1:1<=room) (hr:room<=64) (b1:cA+1<18446744073709551616) (b2:cD+1<18446744073709551616) (b3:cR+1<18446744073709551616) (b4:cM+1<18446744073709551616) (s:ByteArray) (hs:s.size<=maxLen) (i:Int) (hi:0<=i/\i<=255) (hw:(zBa s).Wf):
 Calls Tryz.prog 85 #[.pointer (some ⟨D,0,none⟩),.int .u8 i,.string s] W fun e w'=>e= .returned (.agg (evG R room now F s i).1.l.toArray)/\∃fv',zAQ w' D rv fv' R room now (evG R room now F s i).2 (cA+zBZ (evG R room now F s i).1.c (evG R room now F s i).1.v 0) (cD+zBZ (evG R room now F s i).1.c (evG R room now F s i).1.v 1) (cR+zBZ (evG R room now F s i).1.c (evG R room now F s i).1.v 2) (cM+zBZ (evG R room now F s i).1.c (evG R room now F s i).1.v 3)/\Trn (fun y=>y=D\/fv.ownBlock=some y) W w'/\∀y,fv'.ownBlock=some y->fv.ownBlock=some y\/W.heap.size<=y:=by
 by_cases hc:cls s=0
 ·cases R with
  |none=>exact zJW W h hn hF hr1 hr b1 b2 b3 s hs i hi hc hw
  |some bk=>exact zJX W bk h hn hF hr1 hr b1 b2 b3 s hs i hi hc hw
 ·have e:evG R room now F s i=(⟨cls s,0,0,false,false⟩,F):=by unfold evG;rw[if_neg hc]
  rw[e];have hk:∀k,zBZ (cls s) 0 k=if k=3 then 1 else 0:=fun k=>by unfold zBZ;rw[if_pos hc]
  refine(zLE W h b4 s hs i hc).mono fun e w' z=>⟨z.1,fv,?_,z.2.2.mono (fun x _ q=> .inl q),fun y q=> .inl q⟩
  dsimp only;rw[hk 0,hk 1,hk 2,hk 3];exact z.2.1
end
end Go.Proofs.YtclpnafiiobfhaaGreatDoor

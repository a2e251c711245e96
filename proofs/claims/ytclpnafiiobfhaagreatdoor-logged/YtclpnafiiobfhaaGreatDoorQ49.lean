import Derived.Test.YtclpnafiiobfhaaGreatDoorQ48
set_option linter.unusedVariables false
set_option linter.unusedSimpArgs false
set_option maxHeartbeats 6400000
set_option maxRecDepth 20000
namespace Go.Proofs.YtclpnafiiobfhaaGreatDoor
open Go.RowKit
theorem zDB (y:Fl) (L:List Value) (m k:Nat) (v:Value) (h:k=m+8):(y.l++L).set k v=y.l++L.set m v:=by
 subst h;rw[List.set_append_right _ _ (by rw[Fl.len];omega),Fl.len,Nat.add_sub_cancel]
theorem zIO:∀(F:List Fl) (i:Nat) (x:Fl),i<F.length->zAV (F.set i x)=((((((((zAV F).set (i*8) (.int .u32 x.a)).set (i*8+1) (.int .u32 x.b)).set (i*8+2) (.int .u8 x.p)).set (i*8+3) (.int .u16 x.s)).set (i*8+4) (.int .u16 x.d)).set (i*8+5) (.bool x.rep)).set (i*8+6) (.bool x.clo)).set (i*8+7) (.int .u64 (x.u:Int))
 |[],i,x,h=>absurd h (by simp)
 |y::F,0,x,_=>rfl
 |y::F,i+1,x,h=>by
  have ih:=zIO F i x (by simpa using h)
  show y.l++zAV (F.set i x)=((((((((y.l++zAV F).set ((i+1)*8) _).set ((i+1)*8+1) _).set ((i+1)*8+2) _).set ((i+1)*8+3) _).set ((i+1)*8+4) _).set ((i+1)*8+5) _).set ((i+1)*8+6) _).set ((i+1)*8+7) _
  rw[ih,zDB y _ (i*8) _ _ (by omega),zDB y _ (i*8+1) _ _ (by omega),zDB y _ (i*8+2) _ _ (by omega),zDB y _ (i*8+3) _ _ (by omega),zDB y _ (i*8+4) _ _ (by omega),zDB y _ (i*8+5) _ _ (by omega),zDB y _ (i*8+6) _ _ (by omega),zDB y _ (i*8+7) _ _ (by omega)]
theorem zFh (A B:List Fl):zAV (A++B)=zAV A++zAV B:=by simp[zAV]
theorem zNj {W:World} {B g n c:Nat} {F:List Fl} (h:W.ownsRow B 197 8 (.slice (some ⟨g,0,none⟩) n c) n (zAV F)) (i:Nat) (hi:i<F.length) (x:Fl):
 ((((((((W.setCell ⟨g,i*8,none⟩ (.int .u32 x.a)).setCell ⟨g,i*8+1,none⟩ (.int .u32 x.b)).setCell ⟨g,i*8+2,none⟩ (.int .u8 x.p)).setCell ⟨g,i*8+3,none⟩ (.int .u16 x.s)).setCell ⟨g,i*8+4,none⟩ (.int .u16 x.d)).setCell ⟨g,i*8+5,none⟩ (.bool x.rep)).setCell ⟨g,i*8+6,none⟩ (.bool x.clo)).setCell ⟨g,i*8+7,none⟩ (.int .u64 (x.u:Int))).ownsRow B 197 8 (.slice (some ⟨g,0,none⟩) n c) n (zAV (F.set i x)):=by
 rw[zIO F i x hi];exact((((((((h.stored _ _).1.stored _ _).1.stored _ _).1.stored _ _).1.stored _ _).1.stored _ _).1.stored _ _).1.stored _ _).1
theorem zLA (k pb m c:Nat) (x:Int) (hx:x=(k:Int)) (hk:k<=m) (hm:m<=c) (hc:c<=9223372036854775807):∃o',(k<c->o'=k*8)/\∀W,(Instr.slice 128 (.slice (some ⟨pb,0,none⟩) m c) (some (.int .i64 x)) none none).run Tryz.prog W= .ok (.slice (some ⟨pb,o',none⟩) (m-k) (c-k)) W:=by
 subst hx;refine⟨if k<c then k*8 else 0,fun h=>if_pos h,fun W=> ?_⟩;have hs:∀w,(sizeOf (Tryz.prog.elem 128)).run Tryz.prog w= .ok 8 w:=fun w=>by kernel_rfl
 have e:(Tryz.prog.elem 128)=197:=by kernel_rfl
 rw[run_slice_l (P:=Tryz.prog) W 128 (some ⟨pb,0,none⟩) m c (by rw[e];exact Tryz.underlying128) .i64 (k:Int) (by omega) (by omega),hs];simp only[Result.andThen,sliced]
 by_cases hm:k<c
 ·have ea:(⟨pb,0,none⟩:Addr).add (k*8)=⟨pb,k*8,none⟩:=by simp only[Addr.add];split<;>simp_all
  have:¬c=k:=by omega
  simp[hm,ea,this]
 ·have:c=k:=by omega
  simp[this]
theorem zG8 (k pb n c:Nat) (hk:k<=c):∀W,(Instr.slice 128 (.slice (some ⟨pb,0,none⟩) n c) none (some (.int .i64 (k:Int))) none).run Tryz.prog W= .ok (.slice (some ⟨pb,0,none⟩) k c) W:=by
 intro W;have hs:∀w,(sizeOf (Tryz.prog.elem 128)).run Tryz.prog w= .ok 8 w:=fun w=>by kernel_rfl
 have e:(Tryz.prog.elem 128)=197:=by kernel_rfl
 rw[run_slice_h (P:=Tryz.prog) W 128 (some ⟨pb,0,none⟩) n c (by rw[e];exact Tryz.underlying128) .i64 (k:Int) (by omega) (by omega),hs];simp[Result.andThen,sliced,Addr.add]
theorem zPL {F:List Fl} {j k:Nat} {x y:Fl} (hx:F[j]? =some x) (hy:F[k]? =some y) (h:zFX (F.take j) k):zFX (F.take (j+1)) (if x.u<y.u then j else k):=by
 obtain⟨hj,rfl⟩:=List.getElem?_eq_some_iff.1 hx;obtain⟨hk,rfl⟩:=List.getElem?_eq_some_iff.1 hy;have hkj:k<j:=by have:=h.lt;simp at this;omega
 have hlen:(F.take (j+1)).length=j+1:=by simp;omega
 have le:∀i (hi:i<j),F[k].u<=(F[i]'(by omega)).u:=fun i hi=>by
  have:=h.le i (by simp;omega)
  simpa using this
 have fi:∀i (hi:i<k),F[k].u<(F[i]'(by omega)).u:=fun i hi=>by
  have:=h.first i hi
  simpa using this
 by_cases q:F[j].u<F[k].u
 ·rw[if_pos q]
  refine⟨by omega,fun i hi=> ?_,fun i hi=> ?_⟩
  ·simp only[List.getElem_take]
   by_cases e:i=j
   ·subst e;exact Nat.le_refl _
   ·have:=le i (by omega);omega
  ·simp only[List.getElem_take]
   have:=le i hi;omega
 ·rw[if_neg q]
  refine⟨by omega,fun i hi=> ?_,fun i hi=> ?_⟩
  ·simp only[List.getElem_take]
   by_cases e:i=j
   ·subst e;omega
   ·exact le i (by omega)
  ·simp only[List.getElem_take]
   exact fi i hi
section
variable {D : Nat} {rv fv : Value} {R : Option Bk} {room now : Nat} {F : List Fl} {cA cD cR cM : Nat}
theorem zNk (W:World) (hd:Hd) (s:Int) (hs:s≠0) (way:Int):
 Calls Tryz.prog 114 #[.pointer (some ⟨D,0,none⟩),.agg hd.cells,.int .i64 (-1),.int .i64 way,.int .u8 s] W fun e w'=>e= .returned (.bool false)/\Below W.heap.size W w':=by
 obtain⟨a,b,p,sp,dp,f⟩:=hd;have q:(s !=0)=true:=by simpa using hs
 go_enter Tryz.func114,Tryz.ntmps114;go_wp2_with fail;go_ret;exact⟨rfl,bal _ _⟩
theorem zPM (x1 x2 x3 x4 x5:Int) (x6 x7:Bool) (x8:Nat) (hd:Hd) (now:Nat) (way:Nat) (hw:zC7 ⟨x1,x2,x3,x4,x5,x6,x7,x8⟩ hd=decide (way=2)):zGH ⟨x1,x2,x3,x4,x5,x6,x7,x8⟩ hd now=⟨x1,x2,x3,x4,x5,if way=2 then true else x6,if zDx hd=true then true else x7,zBO now (zCV ⟨x1,x2,x3,x4,x5,if way=2 then true else x6,if zDx hd=true then true else x7,x8⟩)⟩:=by
 unfold zGH;rw[hw];have e1:(x6||decide (way=2))=if way=2 then true else x6:=by by_cases q:way=2<;>simp[q]
 have e2:(x7||zDx hd)=if zDx hd=true then true else x7:=by cases zDx hd<;>simp
 simp only[e1,e2]
theorem zG9 {W w2:World} {hc fc:List Value} (hb2:Below ((W.alloc (.cells hc.toArray 38)).alloc (.cells fc.toArray 197)).heap.size ((W.alloc (.cells hc.toArray 38)).alloc (.cells fc.toArray 197)) w2) (hone:∀v ∈ fc,v.oneCell'=true:=by exact zAF rfl):Below W.heap.size W w2/\Blk 197 w2 (W.heap.size+1) fc/\W.heap.size+2<=w2.heap.size:=by
 have z:(W.alloc (.cells hc.toArray 38)).heap.size=W.heap.size+1:=by simp
 have z2:((W.alloc (.cells hc.toArray 38)).alloc (.cells fc.toArray 197)).heap.size=W.heap.size+2:=by simp
 have q:=Blk.made (W.alloc (.cells hc.toArray 38)) 197 fc hone;rw[z] at q;have b0:Below W.heap.size W ((W.alloc (.cells hc.toArray 38)).alloc (.cells fc.toArray 197)):=(bal _ _).alloc (by simp) _;exact⟨b0.trans (hb2.mono (by omega)),q.below hb2 (by omega),by have:=hb2.size;omega⟩
theorem zPN {W W3:World} {g c i:Nat} (h:zAQ W D rv (.slice (some ⟨g,0,none⟩) F.length c) R room now F cA cD cR cM) (hi:i<F.length) (b3:Below W.heap.size W W3) (y:Fl):
 zAQ ((((((((W3.setCell ⟨g,i*8,none⟩ (.int .u32 y.a)).setCell ⟨g,i*8+1,none⟩ (.int .u32 y.b)).setCell ⟨g,i*8+2,none⟩ (.int .u8 y.p)).setCell ⟨g,i*8+3,none⟩ (.int .u16 y.s)).setCell ⟨g,i*8+4,none⟩ (.int .u16 y.d)).setCell ⟨g,i*8+5,none⟩ (.bool y.rep)).setCell ⟨g,i*8+6,none⟩ (.bool y.clo)).setCell ⟨g,i*8+7,none⟩ (.int .u64 (y.u:Int))).drew D rv (.slice (some ⟨g,0,none⟩) F.length c) R room now (F.set i y) cA cD cR cM/\Trn (fun y=>(Value.slice (some ⟨g,0,none⟩) F.length c).ownBlock=some y) W ((((((((W3.setCell ⟨g,i*8,none⟩ (.int .u32 y.a)).setCell ⟨g,i*8+1,none⟩ (.int .u32 y.b)).setCell ⟨g,i*8+2,none⟩ (.int .u8 y.p)).setCell ⟨g,i*8+3,none⟩ (.int .u16 y.s)).setCell ⟨g,i*8+4,none⟩ (.int .u16 y.d)).setCell ⟨g,i*8+5,none⟩ (.bool y.rep)).setCell ⟨g,i*8+6,none⟩ (.bool y.clo)).setCell ⟨g,i*8+7,none⟩ (.int .u64 (y.u:Int))).drew:=by
 have h3:=h.below b3;have t:∀(A:World) (k:Nat) (v:Value),Trn (fun y=>y=g) A (A.setCell ⟨g,k,none⟩ v):=fun A k v=>Trn.setCell (S:=fun y=>y=g) A g k v rfl
 have tt:Trn (fun y=>y=g) W3 _:=(((((((t _ (i*8) (.int .u32 y.a)).trans (t _ (i*8+1) (.int .u32 y.b)) (fun _ _ q=>q)).trans (t _ (i*8+2) (.int .u8 y.p)) (fun _ _ q=>q)).trans (t _ (i*8+3) (.int .u16 y.s)) (fun _ _ q=>q)).trans (t _ (i*8+4) (.int .u16 y.d)) (fun _ _ q=>q)).trans (t _ (i*8+5) (.bool y.rep)) (fun _ _ q=>q)).trans (t _ (i*8+6) (.bool y.clo)) (fun _ _ q=>q)).trans (t _ (i*8+7) (.int .u64 (y.u:Int))) (fun _ _ q=>q);have hgD:g≠D:=fun e=>h.fv_ne (by rw[e];rfl)
 refine⟨zAQ.below (W:=_) ⟨h3.blk.trn tt (fun q=>hgD q.symm),h3.rules.keep tt (fun x q e=>(h3.rv_ne x q).2 (by rw[e];rfl)),?_⟩ (Below.refl _ _).drew,((Trn.below b3).trans (tt.mono (fun x _ q=>by rw[q];rfl)) (fun _ _ q=>q)).trans (Trn.drew _ _) (fun _ _ q=>q)⟩;rw[List.length_set];exact zNj h3.flows i hi y
theorem zJV (W:World) (h:zAQ W D rv fv R room now F cA cD cR cM) (hn:now<=zCr) (hd:Hd) (hf:0<=hd.f/\hd.f<=255) (i:Nat) (x:Fl) (hx:F[i]? =some x) (way:Nat) (hw:zC7 x hd=decide (way=2)) (st:Int):
 Calls Tryz.prog 114 #[.pointer (some ⟨D,0,none⟩),.agg hd.cells,.int .i64 (i:Int),.int .i64 (way:Int),.int .u8 st] W fun e w'=>e= .returned (.bool false)/\zAQ w' D rv fv R room now (F.set i (zGH x hd now)) cA cD cR cM/\Trn (fun y=>fv.ownBlock=some y) W w':=by
 obtain⟨a,b,p,s,d,f⟩:=hd;dsimp only at hf;dsimp only[Hd.cells];obtain⟨fl,rfl⟩:∃fl:Nat,f=(fl:Int):=⟨f.toNat,by omega⟩;have i5:bits BinOp.and IntKind.u8 (fl:Int) 5=((fl&&& 5:Nat):Int):=zKA fl 5 (by omega) (by decide);have HEN:Hid (zDx ⟨a,b,p,s,d,(fl:Int)⟩=(decide (p=6)&& !decide (fl&&& 5=0))):=rfl;obtain⟨x1,x2,x3,x4,x5,x6,x7,x8⟩:=x;obtain⟨F9,hF9⟩:∃F9,F.set i (zGH ⟨x1,x2,x3,x4,x5,x6,x7,x8⟩ ⟨a,b,p,s,d,(fl:Int)⟩ now)=F9:=⟨_,rfl⟩;rw[hF9];rw[zPM x1 x2 x3 x4 x5 x6 x7 x8 _ now way hw] at hF9;have HM:=hid hF9;clear hF9;have hi:i<F.length:=(List.getElem?_eq_some_iff.1 hx).1;obtain⟨g,c,hfv,hg,hc⟩:=h.flow hx;subst hfv;have HH:=hid h;have hD:=h.blk.lt;have hDn:D≠W.heap.size:=Nat.ne_of_lt hD;have hgn:g≠W.heap.size:=Nat.ne_of_lt hg;have c5:=h.blk.cell 5 _ rfl;have HC1:=hid hc;have HZ1:Hid (∀k,W.frozen? ⟨g,k,none⟩=false):=fun k=>h.flows.frozenAt k
 have e0:=hc 0 _ rfl;have e1:=hc 1 _ rfl;have e2:=hc 2 _ rfl;have e3:=hc 3 _ rfl;have e4:=hc 4 _ rfl;have e5:=hc 5 _ rfl;have e6:=hc 6 _ rfl;have e7:=hc 7 _ rfl;dsimp only at e0 e1 e2 e3 e4 e5 e6 e7;rw[Nat.add_zero] at e0;have j1:(0:Int)<=(i:Int):=by omega
 have j2:(i:Int)<(F.length:Int):=by omega
 have HLS:Hid (∀(y:Fl) (V:World),Below W.heap.size W V->Calls Tryz.prog 133 #[.pointer (some ⟨D,0,none⟩),.agg y.cells] V fun e w'=>e= .returned (.int .u64 (zBO now (zCV y):Int))/\Below V.heap.size V w'):=fun y V hb=>zEJ D now y V hn ((hb.cell (p:=⟨D,4,none⟩) hD).trans (h.blk.cell 4 _ rfl)) (by have:=hb.size;omega)
 clear h hc hn hx hw;obtain⟨b1,t1⟩:∃b1,((way:Int) == 2)=b1:=⟨_,rfl⟩;obtain⟨b2,t2⟩:∃b2,(p == 6)=b2:=⟨_,rfl⟩;obtain⟨b3,t3⟩:∃b3,((((fl&&& 5:Nat):Int)) !=0)=b3:=⟨_,rfl⟩;obtain⟨A,hA⟩:∃A,(b1||x6)=A:=⟨_,rfl⟩;obtain⟨B,hB⟩:∃B,((b2&&b3)||x7)=B:=⟨_,rfl⟩;have a1:(if way=2 then true else x6)=A:=by
  rw[<-hA,<-t1]
  by_cases h:way=2
  ·simp[h]
  ·have:((way:Int) == 2)=false:=by simp;omega
   simp[h,this]
 have a2:(if zDx ⟨a,b,p,s,d,(fl:Int)⟩=true then true else x7)=B:=by
  rw[HEN.out,<-hB,<-t2,<-t3]
  by_cases h:p=6<;>by_cases h5:fl&&& 5=0<;>simp[h,h5]
 rw[a1,a2] at HM;obtain⟨U,hU⟩:∃U,zBO now (zCV ⟨x1,x2,x3,x4,x5,A,B,x8⟩)=U:=⟨_,rfl⟩;rw[hU] at HM;have HLX:Hid (∀V:World,Below W.heap.size W V->Calls Tryz.prog 133 #[.pointer (some ⟨D,0,none⟩),.agg #[.int .u32 x1,.int .u32 x2,.int .u8 x3,.int .u16 x4,.int .u16 x5,.bool A,.bool B,.int .u64 (x8:Int)]] V fun e w'=>e= .returned (.int .u64 (U:Int))/\Below V.heap.size V w'):=fun V hb=>by rw[<-hU];exact HLS.out ⟨x1,x2,x3,x4,x5,A,B,x8⟩ V hb
 generalize ((fl&&& 5:Nat):Int)=fx at i5 t3;clear a1 a2 hU HLS HEN HC1 hf;cases b1<;>cases b2<;>cases b3
 all_goals
  simp only[Bool.true_or,Bool.false_or,Bool.true_and,Bool.false_and] at hA hB;rw[<-hA,<-hB] at HLX;have HA:Hid (_=A):=hA;have HBB:Hid (_=B):=hB;clear hA hB;go_enter Tryz.func114,Tryz.ntmps114;go_upto_region 8 with(go_at_call 133;refine(HLX.out _ ((bal _ _).alloc (by simp) _)).mono ?_;rintro e w2 ⟨rfl,hb2⟩;have HB2:Hid (Below W.heap.size W w2/\Blk 197 w2 (W.heap.size+1) [.int .u32 x1,.int .u32 x2,.int .u8 x3,.int .u16 x4,.int .u16 x5,.bool A,.bool B,.int .u64 (x8:Int)]/\W.heap.size+2<=w2.heap.size):=(by rw[<-HA.out,<-HBB.out];exact zG9 hb2);have r7:=HB2.out.2.1.cell 7 _ rfl;have rf:=HB2.out.2.1.frozen 7;clear hb2)
  obtain⟨W3,hW3⟩:∃W3,w2.setCell ⟨W.heap.size+1,7,none⟩ (.int .u64 (U:Int))=W3:=⟨_,rfl⟩;rw[hW3];have B3:Hid (Below W.heap.size W W3):=by rw[<-hW3];exact HB2.out.1.setCell (p:=⟨W.heap.size+1,7,none⟩) (Nat.le_succ _) _
  have R3:Hid (Blk 197 W3 (W.heap.size+1) [.int .u32 x1,.int .u32 x2,.int .u8 x3,.int .u16 x4,.int .u16 x5,.bool A,.bool B,.int .u64 (U:Int)]):=by rw[<-hW3];exact HB2.out.2.1.set 7 (.int .u64 (U:Int))
  clear r7 rf hW3 HB2;have r0:=R3.out.cell 0 _ rfl;have r1:=R3.out.cell 1 _ rfl;have r2:=R3.out.cell 2 _ rfl;have r3:=R3.out.cell 3 _ rfl;have r4:=R3.out.cell 4 _ rfl;have r5:=R3.out.cell 5 _ rfl;have r6:=R3.out.cell 6 _ rfl;have r7:=R3.out.cell 7 _ rfl;have d5:=(B3.out.cell (p:=⟨D,5,none⟩) hD).trans c5;have y0:=(B3.out.cell (p:=⟨g,i*8,none⟩) hg).trans e0;have z0:=(B3.out.frozen (p:=⟨g,i*8,none⟩) hg).trans (HZ1.out (i*8));have y1:=(B3.out.cell (p:=⟨g,i*8+1,none⟩) hg).trans e1;have z1:=(B3.out.frozen (p:=⟨g,i*8+1,none⟩) hg).trans (HZ1.out (i*8+1));have y2:=(B3.out.cell (p:=⟨g,i*8+2,none⟩) hg).trans e2;have z2:=(B3.out.frozen (p:=⟨g,i*8+2,none⟩) hg).trans (HZ1.out (i*8+2));have y3:=(B3.out.cell (p:=⟨g,i*8+3,none⟩) hg).trans e3;have z3:=(B3.out.frozen (p:=⟨g,i*8+3,none⟩) hg).trans (HZ1.out (i*8+3));have y4:=(B3.out.cell (p:=⟨g,i*8+4,none⟩) hg).trans e4;have z4:=(B3.out.frozen (p:=⟨g,i*8+4,none⟩) hg).trans (HZ1.out (i*8+4));have y5:=(B3.out.cell (p:=⟨g,i*8+5,none⟩) hg).trans e5;have z5:=(B3.out.frozen (p:=⟨g,i*8+5,none⟩) hg).trans (HZ1.out (i*8+5));have y6:=(B3.out.cell (p:=⟨g,i*8+6,none⟩) hg).trans e6;have z6:=(B3.out.frozen (p:=⟨g,i*8+6,none⟩) hg).trans (HZ1.out (i*8+6));have y7:=(B3.out.cell (p:=⟨g,i*8+7,none⟩) hg).trans e7;have z7:=(B3.out.frozen (p:=⟨g,i*8+7,none⟩) hg).trans (HZ1.out (i*8+7));have n1:g≠W.heap.size+1:=by omega
  clear e0 e1 e2 e3 e4 e5 e6 e7 c5;have HKE:Hid (_/\_):=zPN HH.out hi B3.out ⟨x1,x2,x3,x4,x5,A,B,U⟩;rw[HM.out] at HKE;clear HM HH HLX HZ1;go_cut [49] from 43 to 48 (fun _ w'=>zAQ w' D rv (.slice (some ⟨g,0,none⟩) F.length c) R room now F9 cA cD cR cM/\Trn (fun y=>(Value.slice (some ⟨g,0,none⟩) F.length c).ownBlock=some y) W w')
  case first=>
   go_big_region;go_wp2_with fail;go_meet;exact HKE.out
  have HCU:Hid (_/\_):=hcut;clear hcut HKE r0 r1 r2 r3 r4 r5 r6 r7 d5 y0 y1 y2 y3 y4 y5 y6 y7 z0 z1 z2 z3 z4 z5 z6 z7;go_wp2_with fail;go_ret;exact⟨rfl,HCU.out⟩
end
end Go.Proofs.YtclpnafiiobfhaaGreatDoor

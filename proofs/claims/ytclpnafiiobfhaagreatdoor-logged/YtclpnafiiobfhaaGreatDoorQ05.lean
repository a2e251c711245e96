import Derived.Test.YtclpnafiiobfhaaGreatDoorQ04
import Derived.Deep.WholeRow
import Derived.Great.Walk
set_option linter.unusedVariables false
set_option linter.unusedSimpArgs false
set_option maxRecDepth 20000
set_option maxHeartbeats 12800000
namespace Go.Proofs.YtclpnafiiobfhaaGreatDoor
open Go.RowKit
def zQ2 (c:Nat) (L:List Value) (v:List Nat):List Value:=
 if c=0 then L.set 9 (.int .i64 (n0 v 0))
 else if c=1\/c=2 then(L.set (9+c) (.int .i64 (n0 v 0))).set (11+c) (.int .i64 (n0 v 1))
 else if c=3 then L.set 14 (.int .i64 (n0 v 0))
 else if c=4\/c=5 then zL4 (c-4) L v
 else if c=6 then(L.set 19 (.int .i64 (n0 v 0))).set 20 (.int .i64 (n0 v 1))
 else((L.set 21 (.bool (v.getD 0 0 == 1))).set 22 (.bool (v.getD 1 0 == 1))).set 23 (.bool (v.getD 2 0 == 1))
theorem zMA (g c:Nat) (s:ByteArray) (L:List Value) (w:World) (hc:c<8) (hs:s.size<=2000) (hR:Rc w g L) (hl:L.length=24) (h7:c=7->L[21]? =some (.bool false)/\L[22]? =some (.bool false)/\L[23]? =some (.bool false)):
 Calls Tryz.prog 41 #[.pointer (some ⟨g,0,none⟩),.int .i64 (c:Int),.string s] w fun e w'=>e= .returned (.int .i64 ((zAf c s).1:Int))/\zHW g L (zQ2 c L (zAf c s).2) (zAf c s).1 w w':=by
 have h8:c=0\/(c=1\/c=2)\/c=3\/(c=4\/c=5)\/c=6\/c=7:=by omega
 rcases h8 with rfl|h|rfl|h|rfl|rfl
 ·exact zPs g s L w hs hR hl
 ·have e1:zAf c s=zAX s:=by unfold zAf;rw[if_neg (by omega),if_pos h]
  have e2:zQ2 c L (zAX s).2=(L.set (9+c) (.int .i64 (n0 (zAX s).2 0))).set (11+c) (.int .i64 (n0 (zAX s).2 1)):=by unfold zQ2;rw[if_neg (by omega),if_pos h]
  rw[e1,e2];exact zOJ g c s L w h hs hR hl
 ·exact zPt g s L w hs hR hl
 ·have e1:zAf c s=zAI s:=by unfold zAf;rw[if_neg (by omega),if_neg (by omega),if_neg (by omega),if_pos h]
  have e2:zQ2 c L (zAI s).2=zL4 (c-4) L (zAI s).2:=by unfold zQ2;rw[if_neg (by omega),if_neg (by omega),if_neg (by omega),if_pos h]
  rw[e1,e2];exact zOK g c s L w h hs hR hl
 ·exact zPv g s L w hs hR hl
 ·obtain⟨a,b,d⟩:=h7 rfl
  exact zPu g s L w hs hR hl a b d
def cvO (o:Option (List Nat)) (j:Nat):Value:= .int .i64 (n0 (o.getD []) j)
def stO (o:Option (List Nat)) (j:Nat):Value:= .bool ((o.getD []).getD j 0 == 1)
def zAC (v:Int) (cs:Cs):List Value:=
 [.int .i64 v,.bool (cs.getD 0 none).isSome,.bool (cs.getD 1 none).isSome,.bool (cs.getD 2 none).isSome,.bool (cs.getD 3 none).isSome,.bool (cs.getD 4 none).isSome,.bool (cs.getD 5 none).isSome,.bool (cs.getD 6 none).isSome,.bool (cs.getD 7 none).isSome,
  cvO (cs.getD 0 none) 0,cvO (cs.getD 1 none) 0,cvO (cs.getD 2 none) 0,cvO (cs.getD 1 none) 1,cvO (cs.getD 2 none) 1,cvO (cs.getD 3 none) 0,cvO (cs.getD 4 none) 0,cvO (cs.getD 5 none) 0,cvO (cs.getD 4 none) 1,cvO (cs.getD 5 none) 1,cvO (cs.getD 6 none) 0,cvO (cs.getD 6 none) 1,
  stO (cs.getD 7 none) 0,stO (cs.getD 7 none) 1,stO (cs.getD 7 none) 2]
theorem zBd (v:Int) (cs:Cs):(zAC v cs).length=24:=rfl
theorem zEV (v:Int) (cs:Cs) (c:Nat) (hc:c<8):(zAC v cs)[1+c]? =some (.bool (cs.getD c none).isSome):=by
 have h8:c=0\/c=1\/c=2\/c=3\/c=4\/c=5\/c=6\/c=7:=by omega
 rcases h8 with rfl|rfl|rfl|rfl|rfl|rfl|rfl|rfl<;>rfl
theorem zOL {cs:Cs} (h:cs.length=8):∃a b c d e f g i,cs=[a,b,c,d,e,f,g,i]:=by
 rcases cs with _|⟨a,_|⟨b,_|⟨c,_|⟨d,_|⟨e,_|⟨f,_|⟨g,_|⟨i,_|⟨j,r⟩⟩⟩⟩⟩⟩⟩⟩⟩<;>simp at h
 exact⟨a,b,c,d,e,f,g,i,rfl⟩
theorem zHa (v:Int) (cs:Cs) (c:Nat) (x:List Nat) (hl:cs.length=8) (hc:c<8):zQ2 c ((zAC v cs).set (1+c) (.bool true)) x=zAC v (cs.set c (some x)):=by
 obtain⟨a,b,d,e,f,g,i,j,rfl⟩:=zOL hl;have h8:c=0\/c=1\/c=2\/c=3\/c=4\/c=5\/c=6\/c=7:=by omega
 rcases h8 with rfl|rfl|rfl|rfl|rfl|rfl|rfl|rfl<;>rfl
theorem zFp (v:Int) (cs:Cs) (b:Value) (h:cs.getD 7 none=none):((zAC v cs).set 8 b)[21]? =some (.bool false)/\((zAC v cs).set 8 b)[22]? =some (.bool false)/\((zAC v cs).set 8 b)[23]? =some (.bool false):=by
 refine⟨?_,?_,?_⟩
 ·show some (stO (cs.getD 7 none) 0)=_;rw[h];rfl
 ·show some (stO (cs.getD 7 none) 1)=_;rw[h];rfl
 ·show some (stO (cs.getD 7 none) 2)=_;rw[h];rfl
theorem zHb (v:Int) (cs:Cs):∀x ∈ zAC v cs,x.oneCell'=true:=by
 intro x hx;simp only[zAC,List.mem_cons,List.not_mem_nil,or_false] at hx;rcases hx with rfl|rfl|rfl|rfl|rfl|rfl|rfl|rfl|rfl|rfl|rfl|rfl|rfl|rfl|rfl|rfl|rfl|rfl|rfl|rfl|rfl|rfl|rfl|rfl<;>rfl
theorem Tryz.sizeRule:(Tryz.prog.info? 65).map (·.size)=some 24:=by kernel_rfl
theorem zCC {L:List Value} (hl:L.length=24):(Tryz.prog.info? 65).map (·.size)=some L.toArray.size:=by rw[List.size_toArray,hl];exact Tryz.sizeRule
theorem zLW {L:List Value} (h:∀v ∈ L,v.oneCell'=true):L.toArray.all (·.oneCell')=true:=Array.all_eq_true_iff_forall_mem.2 (fun v hv=>h v (by simpa using hv))
theorem Rc.row {w:World} {g:Nat} {L M:List Value} (h:Rc w g L) (hM:∀v ∈ M,v.oneCell'=true):Rc (w.setRow g M.toArray) g M:=by
 refine⟨?_,hM⟩;have h:=h.1;simp only[World.setRow,Array.getElem?_modify,h,if_true,Option.map_some]
theorem zMB {B g:Nat} {a w:World} (h:Below B a w) (hg:B<=g) (M:Array Value):Below B a (w.setRow g M):=by
 refine⟨h.os,h.tape,h.output,?_,fun m hm=> ?_⟩
 ·have:=h.size;simpa[World.setRow] using this
 ·rw[<-h.block m hm]
  simp only[World.setRow,Array.getElem?_modify];rw[if_neg (by omega)]
theorem zMC {W:World} {g:Nat} {L:List Value} (h:Rc W g L) (hl:L.length=24):(loadVar 65 ⟨g,0,none⟩).run Tryz.prog W= .ok (.agg L.toArray) W:=
 run_loadVar_row W g _ _ L.toArray (0,0) _ h.1 Tryz.underlying65 rfl (zCC hl)
theorem zE5 {P:Program} {t:TypeId} {z:Array Value} (ρ:Operand->Value) {o:Oper} (ho:o.op= .alloc t) (hz:∀w,(zeroValue t).run P w= .ok (.agg z) w) (w:World):(execOp ρ o).run P w= .ok (.value (.pointer (some ⟨w.heap.size,0,none⟩))) (w.alloc (.cells z t)):=by
 unfold execOp;rw[ho];simp[Instr.alloc,Sem.run_bind,hz,go_sem]
theorem zKe:Tryz.prog.built 65 []=some (zAC 0 zAq).toArray:=by kernel_rfl
theorem zHc:∃Z:List Value,Z.length=24/\(∀w,(zeroValue 65).run Tryz.prog w= .ok (.agg Z.toArray) w)/\(∀f:Nat×Operand->Nat×Value,Tryz.prog.built 65 ((#[]:Array (Nat×Operand)).map f).toList=some Z.toArray)/\Z=zAC 0 zAq:=⟨_,rfl,fun w=>by kernel_rfl,fun f=>by rw[Array.map_empty];exact zKe,rfl⟩
def zMD (ps:List ByteArray) (ahead:Nat) (w:World) (e:Ending) (w':World):Prop:=(∃L:List Value,L.length=24/\(∀v ∈ L,v.oneCell'=true)/\e= .returned (.tuple #[.agg L.toArray,.int .i64 ((zAT ps ahead).1:Int)])/\((zAT ps ahead).1=0->L=zAC ((zAT ps ahead).2.v:Int) (zAT ps ahead).2.cs))/\Below w.heap.size w w'
structure RW (w:World) (L0 L:List Value) (W:World):Prop where
 a:Rc W w.heap.size L0
 r:Rc W (w.heap.size+1) L
 b:Below w.heap.size w W
theorem RW.alloc {w W:World} {L0 L:List Value} (h:RW w L0 L W) (o:Obj):RW w L0 L (W.alloc o):=⟨h.a.alloc _,h.r.alloc _,h.b.alloc h.b.size _⟩
theorem RW.drew {w W:World} {L0 L:List Value} (h:RW w L0 L W):RW w L0 L W.drew:=⟨h.a,h.r,h.b.drew⟩
theorem Rc.other {w:World} {g i:Nat} {L:List Value} (h:Rc w g L) (g':Nat) (v:Value) (hg:g'≠g):Rc (w.setCell ⟨g',i,none⟩ v) g L:=by
 refine⟨?_,h.2⟩;have h:=h.1;simp only[World.setCell,Array.getElem?_modify,h];rw[if_neg hg]
theorem RW.set {w W:World} {L0 L:List Value} (h:RW w L0 L W) (i:Nat) (v:Value) (hv:v.oneCell'=true:=by rfl):RW w L0 (L.set i v) (W.setCell ⟨w.heap.size+1,i,none⟩ v):=
 ⟨h.a.other _ _ (by omega),h.r.set _ _ hv,h.b.setCell (p:=⟨w.heap.size+1,i,none⟩) (by show w.heap.size<=w.heap.size+1;omega) _⟩
theorem Rc.apart {w:World} {g g':Nat} {L:List Value} {M:Array Value} (h:Rc w g L) (hg:g'≠g):Rc (w.setRow g' M) g L:=by
 refine⟨?_,h.2⟩;have h:=h.1;simp only[World.setRow,Array.getElem?_modify,h];rw[if_neg hg]
theorem RW.ret {w W:World} {L0 L:List Value} (h:RW w L0 L W):RW w L L (W.setRow w.heap.size L.toArray):=
 ⟨h.a.row h.r.2,h.r.apart (by omega),zMB h.b (Nat.le_refl _) _⟩
theorem RW.lt {w W:World} {L0 L:List Value} (h:RW w L0 L W):w.heap.size+2<=W.heap.size:=by have:=h.r.lt;omega
theorem RW.says {w W W':World} {L0 L L1:List Value} {k:Nat} (h:RW w L0 L W) (hs:zHW (w.heap.size+1) L L1 k W W'):∃L',L'.length=24/\(k=0->L'=L1)/\RW w L0 L' W':=by
 obtain⟨ht,L',hr,hl,hk⟩:=hs;refine⟨L',hl,hk,⟨?_,h.a.2⟩,hr,h.b.trans (ht.below (by omega) h.b.size)⟩;rw[ht.block _ h.a.lt (by omega)];exact h.a.1
theorem zPw {cs:Cs} (hg:zCB cs):zBP cs=((((cs.getD 4 none).isSome||(cs.getD 5 none).isSome)&& !((cs.getD 3 none).isSome&& !(n0 ((cs.getD 3 none).getD []) 0 == 1)))||((cs.getD 6 none).isSome&&(!(cs.getD 3 none).isSome|| !(n0 ((cs.getD 3 none).getD []) 0 == 6)))):=by
 unfold zBP zAM;cases h:cs.getD 3 none with
 |none=>simp
 |some u=>
  have:=hg.2 3 u h;unfold zJj at this;simp at this;rcases this with rfl|rfl|rfl<;>simp[n0]
theorem zA3 (tmps:Array Value) (W:World) (g:Nat) (L:List Value) (k:Int) (h4:tmps.getD 4 undef= .pointer (some ⟨g,0,none⟩)) (h5:tmps.getD 5 undef= .int .i64 k) (hr:Rc W g L) (hl:L.length=24):(results Tryz.f24 tmps).run Tryz.prog W= .ok (.tuple #[.agg L.toArray,.int .i64 k]) W:=by
 have h4':tmps[4]?.getD undef= .pointer (some ⟨g,0,none⟩):=by simpa using h4
 have h5':tmps[5]?.getD undef= .int .i64 k:=by simpa using h5
 simp[results,Tryz.results24,h4',h5',asAddr,zMC hr hl]
theorem zME (ps:List ByteArray) (ahead pb cap:Nat) (w:World) (hS:zB2 w pb 0 ps) (hpl:pb<w.heap.size) (hp:1<=ps.length) (hpz:ps.length<=3000) (hsz:∀p ∈ ps,p.size<=2000) (ha:ahead<=100):
 Calls Tryz.prog 24 #[.slice (some ⟨pb,0,none⟩) ps.length cap,.int .i64 (ahead:Int)] w (zMD ps ahead w):=by
 have c0:=hS 0 (by omega);rw[Nat.zero_add] at c0;obtain⟨p0,hp0⟩:∃p,ps.getD 0 ByteArray.empty=p:=⟨_,rfl⟩;rw[hp0] at c0;have HS:=hid hS;have HSZ:=hid hsz;have HP0:=hid hp0;clear hS hsz hp0;obtain⟨Z,hZl,hZ1,hZ2,hZ3⟩:=zHc;have HZ1:=hid hZ1;have HZ2:=hid hZ2;have HZ3:=hid hZ3;have HZ4:Hid (∀v ∈ Z,v.oneCell'=true):=by rw[hZ3];exact zHb _ _
 clear hZ1 hZ2 hZ3;go_enter Tryz.func24,Tryz.ntmps24;go_upto_region 2 with(first|(refine Go.Great.wpList_allocTo rfl _ rfl _ _ (zE5 _ rfl HZ1.out _) ?_)|(refine wpList_buildTo rfl 65 #[] rfl _ rfl Z.toArray (HZ2.out _) ?_)|(refine wpList_store_rowTo rfl 65 _ _ rfl rfl _ Z.toArray rfl rfl 65 Z.toArray (heap_alloc_new (w.alloc _) _) (zCC hZl) rfl (zLW HZ4.out) ?_;rw[World.setRow_alloc_new]))
 go_simp;have H1:Hid (RW w Z Z ((w.alloc (.cells Z.toArray 65)).alloc (.cells Z.toArray 65))):=⟨Rc.alloc ⟨heap_alloc_new w _,HZ4.out⟩ _,⟨heap_alloc2_new w _ _,HZ4.out⟩,(bal _ _).alloc (by simp) _⟩;generalize (w.alloc (.cells Z.toArray 65)).alloc (.cells Z.toArray 65)=W1 at H1 ⊢;have z1:=H1.out.lt;have c1:W1.cell? ⟨pb,0,none⟩=some (.string p0):=(H1.out.b.cell (p:=⟨pb,0,none⟩) hpl).trans c0;have m0:W1.cell? ⟨w.heap.size+1,0,none⟩=some (.int .i64 0):=H1.out.r.cell 0 _ (by rw[HZ3.out];rfl);have f0:=H1.out.r.frozen 0;have HPl:Hid (∀W:World,W.heap=(W1.alloc (.cells (vws.map Value.string).toArray 9)).heap->Calls Tryz.prog 22 #[.slice (some ⟨W1.heap.size,0,none⟩) 3 3,.string p0] W fun e w'=>e= .returned (.int .i64 (plc vws p0))/\w'=W):=fun W hW=>zCX vws W1.heap.size 0 3 p0 W (by decide) (fun j hj=>by
  have:=zB2.made W1 vws 9 j hj;simp only[World.cell?,hW] at this ⊢;exact this)
 have n1:pb≠W1.heap.size:=by omega
 have n2:w.heap.size+1≠W1.heap.size:=by omega
 have n3:w.heap.size+1<W1.heap.size:=by omega
 have n4:pb<W1.heap.size:=by omega
 clear c0;go_cut [12] from 13 to 17 (fun x w'=>RW w Z (Z.set 0 (.int .i64 (plc vws p0))) w')
 case first=>
  go_region_with (first|(go_at_call 23;refine(zDo _).mono ?_;rintro e w' ⟨rfl,rfl⟩)|(go_at_call 22;refine(HPl.out _ (by rfl)).mono ?_;rintro e w' ⟨rfl,rfl⟩))
  all_goals
   go_wp2_with fail;go_meet
   repeat (with_reducible first|exact H1.out|refine RW.drew ?_|refine RW.alloc ?_ _|refine RW.set ?_ _ _ rfl)
 have H2:=hid hcut;clear hcut H1 c1 m0 f0 HPl n1 n2 n3 n4 z1;obtain⟨L,hL⟩:∃L,Z.set 0 (.int .i64 (plc vws p0))=L:=⟨_,rfl⟩;rw[hL] at H2;have HL:Hid (L=zAC (plc vws p0) zAq):=by rw[<-hL,HZ3.out];exact(rfl:(zAC 0 zAq).set 0 (.int .i64 (plc vws p0))=zAC (plc vws p0) zAq)
 have hl:L.length=24:=by rw[HL.out];exact zBd _ _
 have z2:=H2.out.lt;have m0:wc.cell? ⟨w.heap.size+1,0,none⟩=some (.int .i64 (plc vws p0)):=H2.out.r.cell 0 _ (by rw[HL.out];rfl);clear hL;obtain⟨v,hv⟩:∃v,plc vws p0=v:=⟨_,rfl⟩;have HV:Hid (plc vws (ps.getD 0 ByteArray.empty)=v):=by rw[HP0.out];exact hv
 rw[hv] at m0 HL;clear hv HP0
 by_cases hneg:v<0
 ·have HE:Hid ((zAT ps ahead).1=3):=show(zAT ps ahead).1=3 by unfold zAT;rw[HV.out,if_pos hneg]
  go_wp2_with (first|(refine wpList_load_row rfl 65 _ rfl (w.heap.size+1) rfl 65 L.toArray (0,0) _ H2.out.r.1 Tryz.underlying65 rfl (zCC hl) ?_)|(refine wpList_store_rowTo rfl 65 _ _ rfl rfl w.heap.size L.toArray rfl rfl 65 Z.toArray H2.out.a.1 (zCC hl) (by rw[List.size_toArray,List.size_toArray,hZl,hl]) (zLW H2.out.r.2) ?_));refine bodyPost_ret (v:= .tuple #[.agg L.toArray,.int .i64 3]) (zA3 _ _ _ _ _ rfl rfl H2.out.ret.a hl) rfl ?_;exact⟨⟨L,hl,H2.out.r.2,by rw[HE.out];rfl,fun e=>absurd (HE.out.symm.trans e) (by decide)⟩,H2.out.ret.b⟩
 have hv0:(0:Int)<=v:=by omega
 have d0:decide (v<0)=false:=by simp;omega
 by_cases ha48:(48:Int)<=(ahead:Int)
 ·have HE:Hid ((zAT ps ahead).1=4):=show(zAT ps ahead).1=4 by unfold zAT;rw[HV.out,if_neg hneg,if_pos (by omega)]
  go_wp2_with (first|(refine wpList_load_row rfl 65 _ rfl (w.heap.size+1) rfl 65 L.toArray (0,0) _ H2.out.r.1 Tryz.underlying65 rfl (zCC hl) ?_)|(refine wpList_store_rowTo rfl 65 _ _ rfl rfl w.heap.size L.toArray rfl rfl 65 Z.toArray H2.out.a.1 (zCC hl) (by rw[List.size_toArray,List.size_toArray,hZl,hl]) (zLW H2.out.r.2) ?_));refine bodyPost_ret (v:= .tuple #[.agg L.toArray,.int .i64 4]) (zA3 _ _ _ _ _ rfl rfl H2.out.ret.a hl) rfl ?_;exact⟨⟨L,hl,H2.out.r.2,by rw[HE.out];rfl,fun e=>absurd (HE.out.symm.trans e) (by decide)⟩,H2.out.ret.b⟩
 have HRO:Hid (zAT ps ahead=if(zAy ps.tail zAq).1≠0 then((zAy ps.tail zAq).1,⟨0,zAq⟩) else if zBP (zAy ps.tail zAq).2 then(7,⟨0,zAq⟩) else(0,⟨v.toNat,(zAy ps.tail zAq).2⟩)):=show zAT ps ahead=_ by unfold zAT;rw[HV.out,if_neg hneg,if_neg (by omega)]
 have d48:decide ((48:Int)<=(ahead:Int))=false:=by simp;omega
 rw[HL.out] at H2;clear HL hl z2;go_wp2_with fail;clear m0;go_loopw [7] (fun i wr=>∃(j:Nat) (cs:Cs),1<=j/\j<=ps.length+1/\i= .int .i64 j/\zAy ps.tail zAq=zAy (ps.drop j) cs/\cs.length=8/\zCB cs/\RW w Z (zAC v cs) wr) (fun i _=>ps.length+1-(intOf i).toNat)
 case atStart=>exact⟨1,zAq,by omega,by omega,rfl,by rw[List.drop_one],rfl,zHN,H2.out⟩
 case round=>
  obtain⟨j,cs,hj1,hj2,rfl,hcd,hc8,hcg,hrw⟩:=hrel;have HCD:=hid hcd;have HCG:Hid (zCB cs):=hcg;have HR:=hid hrw;have hlc:=zBd v cs;have hzr:=hrw.lt;clear hcd hcg hrw
  by_cases hlt:j<ps.length
  ·have c:=HS.out j hlt
   rw[Nat.zero_add] at c;obtain⟨n,hn⟩:∃n,ps.getD j ByteArray.empty=n:=⟨_,rfl⟩;rw[hn] at c;have HN:Hid (ps.drop j=n::ps.drop (j+1)):=by
    rw[List.drop_eq_getElem_cons hlt,<-hn,List.getD_eq_getElem?_getD,List.getElem?_eq_getElem hlt];rfl
   have c1:wr.cell? ⟨pb,j,none⟩=some (.string n):=(HR.out.b.cell (p:=⟨pb,j,none⟩) hpl).trans c;have HPl:Hid (∀W:World,W.heap=(wr.alloc (.cells (nws.map Value.string).toArray 9)).heap->Calls Tryz.prog 22 #[.slice (some ⟨wr.heap.size,0,none⟩) 8 8,.string n] W fun e w'=>e= .returned (.int .i64 (plc nws n))/\w'=W):=fun W hW=>zCX nws wr.heap.size 0 8 n W (by decide) (fun j hj=>by
    have:=zB2.made wr nws 9 j hj;simp only[World.cell?,hW] at this ⊢;exact this)
   have n1:pb≠wr.heap.size:=by omega
   have n4:pb<wr.heap.size:=by omega
   have i1:(0:Int)<=(j:Int):=by omega
   have i2:(j:Int)<(ps.length:Int):=by omega
   have i3:IntKind.i64.wrap ((j:Int)+1)=(j:Int)+1:=by rw[IntKind.wrap_i64];omega
   clear hn c;go_upto_region 10 with fail
   go_cut [8] from 31 to 36 (fun x w'=>x= .int .i64 (plc nws n)/\RW w Z (zAC v cs) w')
   case first=>
    go_region_with (first|(go_at_call 25;refine(zE4 _).mono ?_;rintro e w' ⟨rfl,rfl⟩)|(go_at_call 22;refine(HPl.out _ (by rfl)).mono ?_;rintro e w' ⟨rfl,rfl⟩))
    all_goals
     go_wp2_with fail;go_meet;refine⟨rfl,?_⟩
     repeat (with_reducible first|exact HR.out|refine RW.drew ?_|refine RW.alloc ?_ _)
   obtain⟨rfl,hr1⟩:=hcut;have H3:=hid hr1;clear hr1 HR HPl c1 n1 n4;have HB8:Hid (plc nws n<8):=zCy nws n
   by_cases hneg2:plc nws n<0
   ·have HE:Hid ((zAT ps ahead).1=3):=show(zAT ps ahead).1=3 by
     have:(zAy ps.tail zAq).1=3:=by
      rw[HCD.out,HN.out];rcases ps.drop (j+1) with _|⟨p,r⟩
      ·rfl
      ·rw[zAy,if_pos hneg2]
     rw[HRO.out,if_pos (by rw[this];decide),this]
    have d1:decide (plc nws n<0)=true:=by simpa using hneg2
    go_wp2_with (first|(refine wpList_load_row rfl 65 _ rfl (w.heap.size+1) rfl 65 (zAC v cs).toArray (0,0) _ H3.out.r.1 Tryz.underlying65 rfl (zCC hlc) ?_)|(refine wpList_store_rowTo rfl 65 _ _ rfl rfl w.heap.size (zAC v cs).toArray rfl rfl 65 Z.toArray H3.out.a.1 (zCC hlc) (by rw[List.size_toArray,List.size_toArray,hZl,hlc]) (zLW H3.out.r.2) ?_));refine bodyPost_ret (v:= .tuple #[.agg (zAC v cs).toArray,.int .i64 3]) (zA3 _ _ _ _ _ rfl rfl H3.out.ret.a hlc) rfl ?_;exact⟨⟨(zAC v cs),hlc,H3.out.r.2,by rw[HE.out];rfl,fun e=>absurd (HE.out.symm.trans e) (by decide)⟩,H3.out.ret.b⟩
   obtain⟨k,hk⟩:∃k:Nat,plc nws n=(k:Int):=⟨(plc nws n).toNat,by omega⟩;have HK:=hid hk;have hk8:k<8:=by have:=HB8.out;omega
   rw[hk];clear hk hneg2 HB8;have d1:decide ((k:Int)<0)=false:=by simp
   by_cases hl2:(j:Int)+1=(ps.length:Int)
   ·have HE:Hid ((zAT ps ahead).1=3):=show(zAT ps ahead).1=3 by
     have:(zAy ps.tail zAq).1=3:=by
      rw[HCD.out,HN.out,List.drop_eq_nil_of_le (by omega)];rfl
     rw[HRO.out,if_pos (by rw[this];decide),this]
    go_wp2_with (first|(refine wpList_load_row rfl 65 _ rfl (w.heap.size+1) rfl 65 (zAC v cs).toArray (0,0) _ H3.out.r.1 Tryz.underlying65 rfl (zCC hlc) ?_)|(refine wpList_store_rowTo rfl 65 _ _ rfl rfl w.heap.size (zAC v cs).toArray rfl rfl 65 Z.toArray H3.out.a.1 (zCC hlc) (by rw[List.size_toArray,List.size_toArray,hZl,hlc]) (zLW H3.out.r.2) ?_));refine bodyPost_ret (v:= .tuple #[.agg (zAC v cs).toArray,.int .i64 3]) (zA3 _ _ _ _ _ rfl rfl H3.out.ret.a hlc) rfl ?_;exact⟨⟨(zAC v cs),hlc,H3.out.r.2,by rw[HE.out];rfl,fun e=>absurd (HE.out.symm.trans e) (by decide)⟩,H3.out.ret.b⟩
   have hj3:j+1<ps.length:=by omega
   have c2:=HS.out (j+1) hj3;rw[Nat.zero_add] at c2;obtain⟨p,hp1⟩:∃p,ps.getD (j+1) ByteArray.empty=p:=⟨_,rfl⟩;rw[hp1] at c2;have hpg:ps[j+1]=p:=by rw[<-hp1,List.getD_eq_getElem?_getD,List.getElem?_eq_getElem hj3];rfl
   have HN2:Hid (ps.drop j=n::p::ps.drop (j+2)):=show ps.drop j=n::p::ps.drop (j+1+1) by rw[HN.out,List.drop_eq_getElem_cons hj3,hpg]
   have hps:p.size<=2000:=HSZ.out p (by rw[<-hpg];exact List.getElem_mem hj3);have HCN:Hid (zAy ps.tail zAq=if(cs.getD k none).isSome then(6,cs) else if(zAf k p).1≠0 then((zAf k p).1,cs) else zAy (ps.drop (j+2)) (cs.set k (some (zAf k p).2))):=by
    rw[HCD.out,HN2.out,zAy,HK.out,if_neg (by omega)];rfl
   have d2:decide ((j:Int)+1=(ps.length:Int))=false:=by simpa using hl2
   obtain⟨bh,hbh⟩:∃b,(cs.getD k none).isSome=b:=⟨_,rfl⟩;have m1:wc.cell? ⟨w.heap.size+1,1+k,none⟩=some (.bool bh):=H3.out.r.cell (1+k) _ (by rw[zEV v cs k hk8,hbh]);have f1:=H3.out.r.frozen (1+k);have k1:(0:Int)<=(k:Int):=by omega
   have k2:(k:Int)<8:=by omega
   have HBH:=hid hbh;clear hp1 hpg hbh;cases bh with
   |true=>
    have HE:Hid ((zAT ps ahead).1=6):=show(zAT ps ahead).1=6 by
     have:(zAy ps.tail zAq).1=6:=by rw[HCN.out,if_pos HBH.out]
     rw[HRO.out,if_pos (by rw[this];decide),this]
    go_wp2_with (first|(refine wpList_load_row rfl 65 _ rfl (w.heap.size+1) rfl 65 (zAC v cs).toArray (0,0) _ H3.out.r.1 Tryz.underlying65 rfl (zCC hlc) ?_)|(refine wpList_store_rowTo rfl 65 _ _ rfl rfl w.heap.size (zAC v cs).toArray rfl rfl 65 Z.toArray H3.out.a.1 (zCC hlc) (by rw[List.size_toArray,List.size_toArray,hZl,hlc]) (zLW H3.out.r.2) ?_));refine bodyPost_ret (v:= .tuple #[.agg (zAC v cs).toArray,.int .i64 6]) (zA3 _ _ _ _ _ rfl rfl H3.out.ret.a hlc) rfl ?_;exact⟨⟨(zAC v cs),hlc,H3.out.r.2,by rw[HE.out];rfl,fun e=>absurd (HE.out.symm.trans e) (by decide)⟩,H3.out.ret.b⟩
   |false=>
    have HX:Hid (RW w Z ((zAC v cs).set (1+k) (.bool true)) (wc.setCell ⟨w.heap.size+1,1+k,none⟩ (.bool true))):=H3.out.set _ _ rfl;have HC:Hid (Calls Tryz.prog 41 #[.pointer (some ⟨w.heap.size+1,0,none⟩),.int .i64 (k:Int),.string p] (wc.setCell ⟨w.heap.size+1,1+k,none⟩ (.bool true)) fun e w'=>e= .returned (.int .i64 ((zAf k p).1:Int))/\zHW (w.heap.size+1) ((zAC v cs).set (1+k) (.bool true)) (zAC v (cs.set k (some (zAf k p).2))) (zAf k p).1 (wc.setCell ⟨w.heap.size+1,1+k,none⟩ (.bool true)) w'):=by
     have:=zMA (w.heap.size+1) k p ((zAC v cs).set (1+k) (.bool true)) (wc.setCell ⟨w.heap.size+1,1+k,none⟩ (.bool true)) hk8 hps HX.out.r (by rw[List.length_set];exact hlc) (fun e=>by subst e;exact zFp v cs _ (by have:=HBH.out;revert this;cases cs.getD 7 none<;>simp));rw[zHa v cs k _ hc8 hk8] at this;exact this
    have c3:(wc.setCell ⟨w.heap.size+1,1+k,none⟩ (.bool true)).cell? ⟨pb,j+1,none⟩=some (.string p):=(HX.out.b.cell (p:=⟨pb,j+1,none⟩) hpl).trans c2;obtain⟨q,hq⟩:∃q,(zAf k p).1=q:=⟨_,rfl⟩;have HQ:=hid hq;have n5:pb≠w.heap.size+1:=by omega
    have i4:(0:Int)<=(j:Int)+1:=by omega
    have i5:(j:Int)+1<(ps.length:Int):=by omega
    rw[hq] at HC;clear hq c2
    by_cases hq0:q=0
    ·subst hq0
     have i6:IntKind.i64.wrap ((j:Int)+2)=(j:Int)+2:=by rw[IntKind.wrap_i64];omega
     go_wp2_with (go_at_call 41;refine HC.out.mono ?_;rintro e w2 ⟨rfl,hs2⟩;obtain⟨L',hl',hk',hr'⟩:=HX.out.says hs2;rw[hk' rfl] at hr';have H4:=hid hr';clear hs2 hr' hk' hl');go_roundw
     case rel=>exact⟨j+2,cs.set k (some (zAf k p).2),by omega,by omega,by go_num,by rw[HCN.out,if_neg (by rw[HBH.out];decide),if_neg (by rw[HQ.out];simp)],by rw[List.length_set];exact hc8,HCG.out.set k _ (zEQ k p HQ.out),H4.out⟩
     case measure=>simp[intOf];omega
    ·have hqn:((q:Int) == 0)=false:=by simp;omega
     have HE:Hid ((zAT ps ahead).1=q):=show(zAT ps ahead).1=q by
      have:(zAy ps.tail zAq).1=q:=by rw[HCN.out,if_neg (by rw[HBH.out];decide),if_pos (by rw[HQ.out];exact hq0),HQ.out]
      rw[HRO.out,if_pos (by rw[this];exact hq0),this]
     go_wp2_with (first|(go_at_call 41;refine HC.out.mono ?_;rintro e w2 ⟨rfl,hs2⟩;obtain⟨L',hl',hk',hr'⟩:=HX.out.says hs2;have H4:=hid hr';clear hs2 hr')|(refine wpList_load_row rfl 65 _ rfl (w.heap.size+1) rfl 65 L'.toArray (0,0) _ H4.out.r.1 Tryz.underlying65 rfl (zCC hl') ?_)|(refine wpList_store_rowTo rfl 65 _ _ rfl rfl w.heap.size L'.toArray rfl rfl 65 Z.toArray H4.out.a.1 (zCC hl') (by rw[List.size_toArray,List.size_toArray,hZl,hl']) (zLW H4.out.r.2) ?_));refine bodyPost_ret (v:= .tuple #[.agg L'.toArray,.int .i64 (q:Int)]) (zA3 _ _ _ _ _ rfl rfl H4.out.ret.a hl') rfl ?_;exact⟨⟨L',hl',H4.out.r.2,by rw[HE.out],fun e=>absurd (HE.out.symm.trans e) hq0⟩,H4.out.ret.b⟩
  ·have HE0:Hid (zAy ps.tail zAq=(0,cs)):=show zAy ps.tail zAq=(0,cs) by rw[HCD.out,List.drop_eq_nil_of_le (by omega)];rfl
   have hms:=zPw HCG.out;obtain⟨P,hP⟩:∃P,n0 ((cs.getD 3 none).getD []) 0=P:=⟨_,rfl⟩;obtain⟨h3,e3⟩:∃b,(cs.getD 3 none).isSome=b:=⟨_,rfl⟩;obtain⟨h4,e4⟩:∃b,(cs.getD 4 none).isSome=b:=⟨_,rfl⟩;obtain⟨h5,e5⟩:∃b,(cs.getD 5 none).isSome=b:=⟨_,rfl⟩;obtain⟨h6,e6⟩:∃b,(cs.getD 6 none).isSome=b:=⟨_,rfl⟩;have m4:wr.cell? ⟨w.heap.size+1,4,none⟩=some (.bool h3):=HR.out.r.cell 4 _ (by rw[<-e3];rfl);have m5:wr.cell? ⟨w.heap.size+1,5,none⟩=some (.bool h4):=HR.out.r.cell 5 _ (by rw[<-e4];rfl);have m6:wr.cell? ⟨w.heap.size+1,6,none⟩=some (.bool h5):=HR.out.r.cell 6 _ (by rw[<-e5];rfl);have m7:wr.cell? ⟨w.heap.size+1,7,none⟩=some (.bool h6):=HR.out.r.cell 7 _ (by rw[<-e6];rfl);have m14:wr.cell? ⟨w.heap.size+1,14,none⟩=some (.int .i64 P):=HR.out.r.cell 14 _ (by rw[<-hP];rfl);rw[e3,e4,e5,e6,hP] at hms;have HM:=hid hms;have HE1:Hid (zAT ps ahead=if zBP cs then(7,⟨0,zAq⟩) else(0,⟨v.toNat,cs⟩)):=by rw[HRO.out,HE0.out];exact if_neg (by simp)
   have HVN:Hid (((v.toNat:Nat):Int)=v):=show((v.toNat:Nat):Int)=v by omega
   have hjl:decide ((j:Int)<(ps.length:Int))=false:=by simp;omega
   clear hms e3 e4 e5 e6 hP HRO HCD HE0 HS HSZ;obtain⟨q1,hq1⟩:∃b,(P == 1)=b:=⟨_,rfl⟩;obtain⟨q6,hq6⟩:∃b,(P == 6)=b:=⟨_,rfl⟩;rw[hq1,hq6] at HM;obtain⟨qp,hqp⟩:∃b,(h3&& !q1)=b:=⟨_,rfl⟩;obtain⟨qa,hqa⟩:∃b,((h4||h5)&& !qp)=b:=⟨_,rfl⟩;obtain⟨qc,hqc⟩:∃b,(h6&&(!h3|| !q6))=b:=⟨_,rfl⟩;rw[hqp,hqa,hqc] at HM;have HQP:=hid hqp;have HQA:=hid hqa;have HQC:=hid hqc;clear hqp hqa hqc;go_upto_region 19 with fail
   go_cut [10] from 66 to 73 (fun x w'=>x= .bool qp/\w'=wr)
   case first=>
    clear HQA HQC;cases h3 with
    |false=>
     go_wp2_with fail;go_meet;exact⟨by rw[<-HQP.out];rfl,rfl⟩
    |true=>
     go_wp2_with fail;go_meet;exact⟨by rw[<-HQP.out,<-hq1];rfl,rfl⟩
   obtain⟨rfl,hw1⟩:=hcut;obtain rfl:wr=wc:=hw1.symm;clear hw1;go_upto_region 20 with fail
   go_cut [85] from 74 to 84 (fun x w'=>x= .bool qa/\w'=wr)
   case first=>
    clear HQP HQC;cases h4 with
    |true=>
     go_wp2_with fail;go_meet;exact⟨by rw[<-HQA.out];rfl,rfl⟩
    |false=>
     cases h5
     all_goals
      go_wp2_with fail;go_meet;exact⟨by rw[<-HQA.out];rfl,rfl⟩
   obtain⟨rfl,hw1⟩:=hcut;obtain rfl:wr=wc:=hw1.symm;clear hw1 HQA HQP;cases qa with
   |true=>
    rw[HM.out] at HE1;go_wp2_with (first|(refine wpList_load_row rfl 65 _ rfl (w.heap.size+1) rfl 65 (zAC v cs).toArray (0,0) _ HR.out.r.1 Tryz.underlying65 rfl (zCC hlc) ?_)|(refine wpList_store_rowTo rfl 65 _ _ rfl rfl w.heap.size (zAC v cs).toArray rfl rfl 65 Z.toArray HR.out.a.1 (zCC hlc) (by rw[List.size_toArray,List.size_toArray,hZl,hlc]) (zLW HR.out.r.2) ?_));refine bodyPost_ret (v:= .tuple #[.agg (zAC v cs).toArray,.int .i64 7]) (zA3 _ _ _ _ _ rfl rfl HR.out.ret.a hlc) rfl ?_;exact⟨⟨zAC v cs,hlc,HR.out.r.2,by rw[HE1.out];rfl,fun e=>absurd e (by rw[HE1.out];exact(by decide:¬(7:Nat)=0))⟩,HR.out.ret.b⟩
   |false=>
    go_upto_region 22 with fail
    go_cut [100] from 87 to 99 (fun x w'=>x= .bool qc/\w'=wr)
    case first=>
     cases h6 with
     |false=>
      go_wp2_with fail;go_meet;exact⟨by rw[<-HQC.out];rfl,rfl⟩
     |true=>
      cases h3 with
      |false=>
       go_wp2_with fail;go_meet;exact⟨by rw[<-HQC.out];rfl,rfl⟩
      |true=>
       go_wp2_with fail;go_meet;exact⟨by rw[<-HQC.out,<-hq6];rfl,rfl⟩
    obtain⟨rfl,hw1⟩:=hcut;obtain rfl:wr=wc:=hw1.symm;clear hw1 HQC;cases qc with
    |true=>
     rw[HM.out] at HE1;go_wp2_with (first|(refine wpList_load_row rfl 65 _ rfl (w.heap.size+1) rfl 65 (zAC v cs).toArray (0,0) _ HR.out.r.1 Tryz.underlying65 rfl (zCC hlc) ?_)|(refine wpList_store_rowTo rfl 65 _ _ rfl rfl w.heap.size (zAC v cs).toArray rfl rfl 65 Z.toArray HR.out.a.1 (zCC hlc) (by rw[List.size_toArray,List.size_toArray,hZl,hlc]) (zLW HR.out.r.2) ?_));refine bodyPost_ret (v:= .tuple #[.agg (zAC v cs).toArray,.int .i64 7]) (zA3 _ _ _ _ _ rfl rfl HR.out.ret.a hlc) rfl ?_;exact⟨⟨zAC v cs,hlc,HR.out.r.2,by rw[HE1.out];rfl,fun e=>absurd e (by rw[HE1.out];exact(by decide:¬(7:Nat)=0))⟩,HR.out.ret.b⟩
    |false=>
     rw[HM.out] at HE1;go_wp2_with (first|(refine wpList_load_row rfl 65 _ rfl (w.heap.size+1) rfl 65 (zAC v cs).toArray (0,0) _ HR.out.r.1 Tryz.underlying65 rfl (zCC hlc) ?_)|(refine wpList_store_rowTo rfl 65 _ _ rfl rfl w.heap.size (zAC v cs).toArray rfl rfl 65 Z.toArray HR.out.a.1 (zCC hlc) (by rw[List.size_toArray,List.size_toArray,hZl,hlc]) (zLW HR.out.r.2) ?_));refine bodyPost_ret (v:= .tuple #[.agg (zAC v cs).toArray,.int .i64 0]) (zA3 _ _ _ _ _ rfl rfl HR.out.ret.a hlc) rfl ?_;exact⟨⟨zAC v cs,hlc,HR.out.r.2,by rw[HE1.out];rfl,fun e=>by rw[HE1.out];show zAC v cs=zAC ((v.toNat:Nat):Int) cs;rw[HVN.out]⟩,HR.out.ret.b⟩
end Go.Proofs.YtclpnafiiobfhaaGreatDoor

import Derived.Great.Walk
import Derived.Deep.WholeRow
import Derived.Test.YtclpnafiiobfhaaGreatDoorQ25
set_option linter.unusedVariables false
set_option linter.unusedSimpArgs false
set_option maxHeartbeats 3200000
set_option maxRecDepth 20000
namespace Go.Proofs.YtclpnafiiobfhaaGreatDoor
open Go.RowKit
def Blk (t:TypeId) (w:World) (g:Nat) (L:List Value):Prop:=w.heap[g]? =some (.cells L.toArray t (0,0))/\∀v ∈ L,v.oneCell'=true
section
variable {t : TypeId} {w w' : World} {g : Nat} {L M : List Value}
theorem Blk.lt (h:Blk t w g L):g<w.heap.size:=(Array.getElem?_eq_some_iff.1 h.1).1
theorem Blk.cell (h:Blk t w g L) (i:Nat) (v:Value) (hi:L[i]? =some v):w.cell? ⟨g,i,none⟩=some v:=by
 have h:=h.1;simp only[World.cell?,h]
 simpa using hi
theorem Blk.frozen (h:Blk t w g L) (i:Nat):w.frozen? ⟨g,i,none⟩=false:=by
 have h:=h.1;simp[World.frozen?,h]
theorem Blk.set (h:Blk t w g L) (i:Nat) (v:Value) (hv:v.oneCell'=true:=by rfl):Blk t (w.setCell ⟨g,i,none⟩ v) g (L.set i v):=by
 refine⟨?_,fun x hx=> ?_⟩
 ·have h:=h.1
  simp only[World.setCell,Array.getElem?_modify,h,if_true,Option.map_some];simp
 ·rcases List.mem_or_eq_of_mem_set hx with q|q
  ·exact h.2 x q
  ·rw[q];exact hv
theorem Blk.other (h:Blk t w g L) {g' i:Nat} (v:Value) (hg:g'≠g):Blk t (w.setCell ⟨g',i,none⟩ v) g L:=by
 refine⟨?_,h.2⟩;have h:=h.1;simp only[World.setCell,Array.getElem?_modify,h];rw[if_neg hg]
theorem Blk.below {B:Nat} (h:Blk t w g L) (hb:Below B w w') (hg:g<B):Blk t w' g L:=by
 refine⟨?_,h.2⟩;rw[hb.block g hg];exact h.1
theorem Blk.alloc (h:Blk t w g L) (o:Obj):Blk t (w.alloc o) g L:=h.below (bal _ _) h.lt
theorem Blk.made (w:World) (t:TypeId) (L:List Value) (hL:∀v ∈ L,v.oneCell'=true):Blk t (w.alloc (.cells L.toArray t)) w.heap.size L:=⟨heap_alloc_new w _,hL⟩
theorem Blk.row (h:Blk t w g L) (hM:∀v ∈ M,v.oneCell'=true):Blk t (w.setRow g M.toArray) g M:=by
 refine⟨?_,hM⟩;have h:=h.1;simp only[World.setRow,Array.getElem?_modify,h,if_true,Option.map_some]
end
theorem zEH {B g:Nat} {a w:World} (h:Below B a w) (hg:B<=g) (M:Array Value):Below B a (w.setRow g M):=by
 refine⟨h.os,h.tape,h.output,?_,fun m hm=> ?_⟩
 ·have:=h.size;simpa[World.setRow] using this
 ·rw[<-h.block m hm]
  simp only[World.setRow,Array.getElem?_modify];rw[if_neg (by omega)]
theorem zSC {L:List Value} (h:∀v ∈ L,v.oneCell'=true):L.toArray.all (·.oneCell')=true:=Array.all_eq_true_iff_forall_mem.2 (fun v hv=>h v (by simpa using hv))
theorem Tryz.sizeFlow:(Tryz.prog.info? 241).map (·.size)=some 8:=by kernel_rfl
theorem zFZ {L:List Value} (hl:L.length=8):(Tryz.prog.info? 241).map (·.size)=some L.toArray.size:=by rw[List.size_toArray,hl];exact Tryz.sizeFlow
abbrev Fl.l (f:Fl):List Value:=[.int .u32 f.a,.int .u32 f.b,.int .u8 f.p,.int .u16 f.s,.int .u16 f.d,.bool f.rep,.bool f.clo,.int .u64 (f.u:Int)]
abbrev Hd.l (h:Hd):List Value:=[.int .u32 h.a,.int .u32 h.b,.int .u8 h.p,.int .u16 h.s,.int .u16 h.d,.int .u8 h.f]
theorem Fl.one (f:Fl):∀v ∈ f.l,v.oneCell'=true:=by
 intro v hv;simp only[Fl.l,List.mem_cons,List.not_mem_nil,or_false] at hv;rcases hv with rfl|rfl|rfl|rfl|rfl|rfl|rfl|rfl<;>rfl
theorem Hd.one (h:Hd):∀v ∈ h.l,v.oneCell'=true:=by
 intro v hv;simp only[Hd.l,List.mem_cons,List.not_mem_nil,or_false] at hv;rcases hv with rfl|rfl|rfl|rfl|rfl|rfl<;>rfl
theorem zM9 {W:World} {g:Nat} {L:List Value} (h:Blk 241 W g L) (hl:L.length=8):(loadVar 241 ⟨g,0,none⟩).run Tryz.prog W= .ok (.agg L.toArray) W:=
 run_loadVar_row W g _ _ L.toArray (0,0) _ h.1 Tryz.underlying241 rfl (zFZ hl)
theorem zNA (x:Fl) (h:Hd) (w:World):
 Calls Tryz.prog 150 #[.agg x.cells,.agg h.cells] w fun e w'=>e= .returned (.int .u8 (zBR (some x) h:Int))/\Below w.heap.size w w':=by
 have HE:Hid (zBR (some x) h=if(x.rep||zC7 x h)=true then 1 else 0):=rfl;have HBk:Hid (∀W:World,Calls Tryz.prog 176 #[.agg x.cells,.agg h.cells] W fun e w'=>e= .returned (.bool (zC7 x h))/\Below W.heap.size W w'):=fun W=>zGI x h W
 generalize zBR (some x) h=st at HE;generalize zC7 x h=q at HE HBk;obtain⟨a,b,p,s,d,f⟩:=h;obtain⟨a',b',p',s',d',rep,clo,u⟩:=x;dsimp only[Hd.cells,Fl.cells] at HE HBk ⊢;cases rep with
 |true=>
  go_enter Tryz.func150,Tryz.ntmps150;go_wp2_with fail;go_ret;exact⟨by rw[HE.out];rfl,(bal _ _).alloc (by simp) _⟩
 |false=>
  cases q
  all_goals
   go_enter Tryz.func150,Tryz.ntmps150;go_wp2_with fail;refine(HBk.out _).mono ?_;rintro e w2 ⟨rfl,hb2⟩;have HB2:Hid (Below w.heap.size w w2):=((bal _ _).alloc (by simp) _).trans (hb2.mono (by simp;omega));clear hb2;go_wp2_with fail;go_ret;exact⟨by rw[HE.out];rfl,HB2.out⟩
theorem zCs (tmps:Array Value) (W:World) (g:Nat) (L:List Value) (h4:tmps.getD 4 undef= .pointer (some ⟨g,0,none⟩)) (hr:Blk 241 W g L) (hl:L.length=8):(results Tryz.f153 tmps).run Tryz.prog W= .ok (.agg L.toArray) W:=by
 have h4':tmps[4]?.getD undef= .pointer (some ⟨g,0,none⟩):=by simpa using h4
 simp[results,Tryz.results153,h4',asAddr,zM9 hr hl]
theorem zNB (x:Fl) (h:Hd) (w:World) (hf:0<=h.f/\h.f<=255):
 Calls Tryz.prog 153 #[.agg x.cells,.agg h.cells] w fun e w'=>e= .returned (.agg (Fl.mk x.a x.b x.p x.s x.d (x.rep||zC7 x h) (x.clo||zDx h) x.u).l.toArray)/\Below w.heap.size w w':=by
 have HBk:Hid (∀W:World,Calls Tryz.prog 176 #[.agg x.cells,.agg h.cells] W fun e w'=>e= .returned (.bool (zC7 x h))/\Below W.heap.size W w'):=fun W=>zGI x h W
 generalize zC7 x h=q at HBk ⊢;have ox:=x.one;have oh:=h.one;obtain⟨a,b,p,s,d,f⟩:=h;obtain⟨a',b',p',s',d',rep,clo,u⟩:=x;dsimp only at hf;obtain⟨F,rfl⟩:∃F:Nat,f=(F:Int):=⟨f.toNat,by omega⟩;have i1:bits BinOp.and IntKind.u8 (F:Int) 5=((F&&& 5:Nat):Int):=zKA F 5 (by omega) (by decide);have HE:Hid (zDx ⟨a,b,p,s,d,(F:Int)⟩=((p == 6)&&(((F&&& 5:Nat):Int) !=0))):=show zDx ⟨a,b,p,s,d,(F:Int)⟩=_ by
  unfold zDx;simp only[Int.toNat_natCast]
  by_cases h1:p=6<;>by_cases h2:F&&& 5=0<;>simp[h1,h2]<;>omega
 generalize ((F&&& 5:Nat):Int)=y at i1 HE;generalize zDx ⟨a,b,p,s,d,(F:Int)⟩=ends at HE ⊢;obtain⟨q6,hq6⟩:∃t,(p == 6)=t:=⟨_,rfl⟩;obtain⟨qy,hqy⟩:∃t,(y !=0)=t:=⟨_,rfl⟩;rw[hq6,hqy] at HE;dsimp only[Hd.cells,Fl.cells,Fl.l,Hd.l] at HBk ox oh ⊢;have OX:=hid ox;have OH:=hid oh;obtain⟨r1,hr1⟩:∃r1,(rep||q)=r1:=⟨_,rfl⟩;rw[hr1];have HR1:=hid hr1;clear hr1;clear hf ox oh;go_enter Tryz.func153,Tryz.ntmps153;go_wp2_with fail;refine(HBk.out _).mono ?_;rintro e w2 ⟨rfl,hb2⟩;have A2:Hid (Blk 241 w2 w.heap.size [.int .u32 a',.int .u32 b',.int .u8 p',.int .u16 s',.int .u16 d',.bool rep,.bool clo,.int .u64 (u:Int)]):=(((Blk.made w _ _ OX.out).alloc _).alloc _).below hb2 (by simp;omega);have K2:Hid (Blk 38 w2 (w.heap.size+1) [.int .u32 a,.int .u32 b,.int .u8 p,.int .u16 s,.int .u16 d,.int .u8 (F:Int)]):=by
  have h:=((Blk.made (w.alloc (.cells #[.int .u32 a',.int .u32 b',.int .u8 p',.int .u16 s',.int .u16 d',.bool rep,.bool clo,.int .u64 (u:Int)] 241)) 38 _ OH.out).alloc (.cells #[.int .u32 0,.int .u32 0,.int .u8 0,.int .u16 0,.int .u16 0,.bool false,.bool false,.int .u64 0] 241)).below hb2 (by simp);rw[show(w.alloc (.cells #[.int .u32 a',.int .u32 b',.int .u8 p',.int .u16 s',.int .u16 d',.bool rep,.bool clo,.int .u64 (u:Int)] 241)).heap.size=w.heap.size+1 from by simp] at h;exact h
 have R2:Hid (Blk 241 w2 (w.heap.size+2) [.int .u32 0,.int .u32 0,.int .u8 0,.int .u16 0,.int .u16 0,.bool false,.bool false,.int .u64 0]):=by
  have h:=(Blk.made ((w.alloc (.cells #[.int .u32 a',.int .u32 b',.int .u8 p',.int .u16 s',.int .u16 d',.bool rep,.bool clo,.int .u64 (u:Int)] 241)).alloc (.cells #[.int .u32 a,.int .u32 b,.int .u8 p,.int .u16 s,.int .u16 d,.int .u8 (F:Int)] 38)) 241 [.int .u32 0,.int .u32 0,.int .u8 0,.int .u16 0,.int .u16 0,.bool false,.bool false,.int .u64 0] (Fl.one ⟨0,0,0,0,0,false,false,0⟩)).below hb2 (by simp);rw[show((w.alloc (.cells #[.int .u32 a',.int .u32 b',.int .u8 p',.int .u16 s',.int .u16 d',.bool rep,.bool clo,.int .u64 (u:Int)] 241)).alloc (.cells #[.int .u32 a,.int .u32 b,.int .u8 p,.int .u16 s,.int .u16 d,.int .u8 (F:Int)] 38)).heap.size=w.heap.size+2 from by simp] at h;exact h
 have B2:Hid (Below w.heap.size w w2):=(((bal _ _).alloc (by simp) _).alloc (by simp;omega) _).trans (hb2.mono (by simp;omega));clear hb2 OX OH;cases q
 case' false=>
  go_upto_region 3 with fail
  have A3:Hid (Blk 241 (w2) w.heap.size [.int .u32 a',.int .u32 b',.int .u8 p',.int .u16 s',.int .u16 d',.bool r1,.bool clo,.int .u64 (u:Int)]):=by rw[<-HR1.out,Bool.or_false];exact A2.out
  have K3:=hid K2.out;have R3:=hid R2.out;have B3:=hid B2.out;clear A2 K2 R2 B2;generalize w2=W3 at A3 K3 R3 B3 ⊢;clear HR1
 case' true=>
  have x5:=A2.out.cell 5 _ rfl;have f5:=A2.out.frozen 5;go_upto_region 3 with fail
  have A3:Hid (Blk 241 (w2.setCell ⟨w.heap.size,5,none⟩ (.bool true)) w.heap.size [.int .u32 a',.int .u32 b',.int .u8 p',.int .u16 s',.int .u16 d',.bool r1,.bool clo,.int .u64 (u:Int)]):=by rw[<-HR1.out,Bool.or_true];exact A2.out.set 5 (.bool true)
  have K3:Hid (Blk 38 (w2.setCell ⟨w.heap.size,5,none⟩ (.bool true)) (w.heap.size+1) [.int .u32 a,.int .u32 b,.int .u8 p,.int .u16 s,.int .u16 d,.int .u8 (F:Int)]):=K2.out.other _ (by omega);have R3:Hid (Blk 241 (w2.setCell ⟨w.heap.size,5,none⟩ (.bool true)) (w.heap.size+2) [.int .u32 0,.int .u32 0,.int .u8 0,.int .u16 0,.int .u16 0,.bool false,.bool false,.int .u64 0]):=R2.out.other _ (by omega);have B3:Hid (Below w.heap.size w (w2.setCell ⟨w.heap.size,5,none⟩ (.bool true))):=B2.out.setCell (p:=⟨w.heap.size,5,none⟩) (Nat.le_refl _) _;clear A2 K2 R2 B2;generalize w2.setCell ⟨w.heap.size,5,none⟩ (.bool true)=W3 at A3 K3 R3 B3 ⊢;clear HR1
 all_goals
  have k2:=K3.out.cell 2 _ rfl;have k5:=K3.out.cell 5 _ rfl;have x6:=A3.out.cell 6 _ rfl;have f6:=A3.out.frozen 6;cases q6 with
  |false=>
   go_wp2_with (first|(refine wpList_load_row rfl 241 _ rfl w.heap.size rfl 241 ([.int .u32 a',.int .u32 b',.int .u8 p',.int .u16 s',.int .u16 d',.bool r1,.bool clo,.int .u64 (u:Int)]:List Value).toArray (0,0) _ A3.out.1 Tryz.underlying241 rfl (zFZ rfl) ?_)|(refine wpList_store_rowTo rfl 241 _ _ rfl rfl (w.heap.size+2) ([.int .u32 a',.int .u32 b',.int .u8 p',.int .u16 s',.int .u16 d',.bool r1,.bool clo,.int .u64 (u:Int)]:List Value).toArray rfl rfl 241 _ R3.out.1 (zFZ rfl) rfl (zSC A3.out.2) ?_));refine bodyPost_ret (v:= .agg ([.int .u32 a',.int .u32 b',.int .u8 p',.int .u16 s',.int .u16 d',.bool r1,.bool clo,.int .u64 (u:Int)]:List Value).toArray) (zCs _ _ _ _ rfl (R3.out.row A3.out.2) rfl) rfl ⟨by rw[HE.out];simp,zEH B3.out (by omega) _⟩
  |true=>
   cases qy with
   |false=>
    go_wp2_with (first|(refine wpList_load_row rfl 241 _ rfl w.heap.size rfl 241 ([.int .u32 a',.int .u32 b',.int .u8 p',.int .u16 s',.int .u16 d',.bool r1,.bool clo,.int .u64 (u:Int)]:List Value).toArray (0,0) _ A3.out.1 Tryz.underlying241 rfl (zFZ rfl) ?_)|(refine wpList_store_rowTo rfl 241 _ _ rfl rfl (w.heap.size+2) ([.int .u32 a',.int .u32 b',.int .u8 p',.int .u16 s',.int .u16 d',.bool r1,.bool clo,.int .u64 (u:Int)]:List Value).toArray rfl rfl 241 _ R3.out.1 (zFZ rfl) rfl (zSC A3.out.2) ?_));refine bodyPost_ret (v:= .agg ([.int .u32 a',.int .u32 b',.int .u8 p',.int .u16 s',.int .u16 d',.bool r1,.bool clo,.int .u64 (u:Int)]:List Value).toArray) (zCs _ _ _ _ rfl (R3.out.row A3.out.2) rfl) rfl ⟨by rw[HE.out];simp,zEH B3.out (by omega) _⟩
   |true=>
    have A4:Hid (Blk 241 (W3.setCell ⟨w.heap.size,6,none⟩ (.bool true)) w.heap.size [.int .u32 a',.int .u32 b',.int .u8 p',.int .u16 s',.int .u16 d',.bool r1,.bool true,.int .u64 (u:Int)]):=A3.out.set 6 (.bool true);have R4:Hid (Blk 241 (W3.setCell ⟨w.heap.size,6,none⟩ (.bool true)) (w.heap.size+2) [.int .u32 0,.int .u32 0,.int .u8 0,.int .u16 0,.int .u16 0,.bool false,.bool false,.int .u64 0]):=R3.out.other _ (by omega);go_wp2_with (first|(refine wpList_load_row rfl 241 _ rfl w.heap.size rfl 241 ([.int .u32 a',.int .u32 b',.int .u8 p',.int .u16 s',.int .u16 d',.bool r1,.bool true,.int .u64 (u:Int)]:List Value).toArray (0,0) _ A4.out.1 Tryz.underlying241 rfl (zFZ rfl) ?_)|(refine wpList_store_rowTo rfl 241 _ _ rfl rfl (w.heap.size+2) ([.int .u32 a',.int .u32 b',.int .u8 p',.int .u16 s',.int .u16 d',.bool r1,.bool true,.int .u64 (u:Int)]:List Value).toArray rfl rfl 241 _ R4.out.1 (zFZ rfl) rfl (zSC A4.out.2) ?_));refine bodyPost_ret (v:= .agg ([.int .u32 a',.int .u32 b',.int .u8 p',.int .u16 s',.int .u16 d',.bool r1,.bool true,.int .u64 (u:Int)]:List Value).toArray) (zCs _ _ _ _ rfl (R4.out.row A4.out.2) rfl) rfl ⟨by rw[HE.out];simp,zEH (B3.out.setCell (p:=⟨w.heap.size,6,none⟩) (Nat.le_refl _) _) (by omega) _⟩
abbrev En.l (e:En):List Value:=[.int .u32 e.k.la,.int .u16 e.k.lp,.int .u32 e.k.ha,.int .u16 e.k.hp,.int .u8 e.k.p,.int .u32 e.v.a,.int .u32 e.v.b,.int .u8 e.v.p,.int .u16 e.v.s,.int .u16 e.v.d,.bool e.v.rep,.bool e.v.clo,.int .u64 (e.v.u:Int),.int .u64 (e.n:Int)]
theorem En.one (e:En):∀v ∈ e.l,v.oneCell'=true:=by
 intro v hv;simp only[En.l,List.mem_cons,List.not_mem_nil,or_false] at hv;rcases hv with rfl|rfl|rfl|rfl|rfl|rfl|rfl|rfl|rfl|rfl|rfl|rfl|rfl|rfl<;>rfl
def zAR (W:World) (g n cap:Nat) (f:Nat->En):Prop:=∃cur:Array Value,W.heap[g]? =some (.cells cur 265 (0,0))/\cur.size=cap*14/\n<=cap/\cap<=maxLen/\∀i,i<n->∀k v,(f i).l[k]? =some v->cur[i*14+k]? =some v
theorem zAR.cell {W:World} {g n cap:Nat} {f:Nat->En} (h:zAR W g n cap f) {i:Nat} (hi:i<n) (k:Nat) (v:Value) (hv:(f i).l[k]? =some v):W.cell? ⟨g,i*14+k,none⟩=some v:=by
 obtain⟨cur,hh,_,_,_,hc⟩:=h;simp only[World.cell?,hh];exact hc i hi k v hv
theorem zAR.frozen {W:World} {g n cap:Nat} {f:Nat->En} (h:zAR W g n cap f) (i:Nat):W.frozen? ⟨g,i,none⟩=false:=by
 obtain⟨cur,hh,_⟩:=h;simp[World.frozen?,hh]
theorem zAR.below {W W':World} {g n cap B:Nat} {f:Nat->En} (h:zAR W g n cap f) (hb:Below B W W') (hg:g<B):zAR W' g n cap f:=by
 obtain⟨cur,hh,r⟩:=h;exact⟨cur,by rw[hb.block g hg];exact hh,r⟩
theorem zAR.lt {W:World} {g n cap:Nat} {f:Nat->En} (h:zAR W g n cap f):g<W.heap.size:=by
 obtain⟨cur,hh,_⟩:=h;exact(Array.getElem?_eq_some_iff.1 hh).1
end Go.Proofs.YtclpnafiiobfhaaGreatDoor

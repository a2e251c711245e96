import Derived.Test.YtclpnafiiobfhaaGreatDoorQ18
set_option linter.unusedVariables false
set_option linter.unusedSimpArgs false
set_option maxHeartbeats 1600000
namespace Go.Proofs.YtclpnafiiobfhaaGreatDoor
open Go.RowKit
structure Mc (w:World) (m:Nat) (sl:Value) (q:Int×Int) (a:St):Prop where
 data:w.cell? ⟨m,0,none⟩=some sl
 m0:w.cell? ⟨m,1,none⟩=some (.int .u32 q.1)
 m1:w.cell? ⟨m,2,none⟩=some (.int .u32 q.2)
 reg:∀i,i<4->w.cell? ⟨m,3+i,none⟩=some (.int .u32 (a.reg.getD i 0))
 set:∀i,i<4->w.cell? ⟨m,7+i,none⟩=some (.bool (a.set.getD i false))
 froz:∀i,w.frozen? ⟨m,i,none⟩=false
 lt:m<w.heap.size
theorem Mc.below {w w':World} {m:Nat} {sl:Value} {q:Int×Int} {a:St} (h:Mc w m sl q a) (hw:Below w.heap.size w w'):Mc w' m sl q a:=by
 have lt:=h.lt;have hc:∀i,w'.cell? ⟨m,i,none⟩=w.cell? ⟨m,i,none⟩:=fun i=>hw.cell (p:=⟨m,i,none⟩) lt
 exact⟨(hc _).trans h.data,(hc _).trans h.m0,(hc _).trans h.m1,fun i hi=>(hc _).trans (h.reg i hi),fun i hi=>(hc _).trans (h.set i hi),fun i=>(hw.frozen (p:=⟨m,i,none⟩) lt).trans (h.froz i),Nat.lt_of_lt_of_le lt hw.size⟩
theorem Mc.turn {w:World} {m:Nat} {sl:Value} {q:Int×Int} {a:St} (h:Mc w m sl q a) (ha:a.Ok) (x:Ins) (hr:0<=x.r/\x.r<4) (v:Int):Mc (w.setCell ⟨m,3+x.r.toNat,none⟩ (.int .u32 v)) m sl q (a.turn x v):=by
 have o:∀(c:Nat),3+x.r.toNat≠c->(w.setCell ⟨m,3+x.r.toNat,none⟩ (.int .u32 v)).cell? ⟨m,c,none⟩=w.cell? ⟨m,c,none⟩:=fun c hc=>zAZ w m _ c _ hc
 refine⟨(o _ (by omega)).trans h.data,(o _ (by omega)).trans h.m0,(o _ (by omega)).trans h.m1,fun i hi=> ?_,fun i hi=>(o _ (by omega)).trans (h.set i hi),fun i=>by rw[zD9];exact h.froz i,by simp[World.setCell];exact h.lt⟩;unfold St.turn
 by_cases e:x.r.toNat=i
 ·subst e
  rw[zB3 _ _ _ _ (by rw[ha.reg];omega)];exact zBD _ _ _ (h.reg _ hi)
 ·rw[zCl _ _ _ _ _ e]
  exact(o _ (by omega)).trans (h.reg i hi)
theorem Mc.put {w:World} {m:Nat} {sl:Value} {q:Int×Int} {a:St} (h:Mc w m sl q a) (ha:a.Ok) (x:Ins) (hr:0<=x.r/\x.r<4) (v:Int):Mc ((w.setCell ⟨m,3+x.r.toNat,none⟩ (.int .u32 v)).setCell ⟨m,7+x.r.toNat,none⟩ (.bool true)) m sl q (a.put x v):=by
 have g:=h.turn ha x hr v;generalize w.setCell ⟨m,3+x.r.toNat,none⟩ (.int .u32 v)=u at g;have o:∀(c:Nat),7+x.r.toNat≠c->(u.setCell ⟨m,7+x.r.toNat,none⟩ (.bool true)).cell? ⟨m,c,none⟩=u.cell? ⟨m,c,none⟩:=fun c hc=>zAZ u m _ c _ hc
 refine⟨(o _ (by omega)).trans g.data,(o _ (by omega)).trans g.m0,(o _ (by omega)).trans g.m1,fun i hi=>(o _ (by omega)).trans (g.reg i hi),fun i hi=> ?_,fun i=>by rw[zD9];exact g.froz i,by simp[World.setCell];exact g.lt⟩;unfold St.put
 by_cases e:x.r.toNat=i
 ·subst e
  rw[zB3 _ _ _ _ (by rw[ha.set];omega)];exact zBD _ _ _ (g.set _ hi)
 ·rw[zCl _ _ _ _ _ e]
  exact(o _ (by omega)).trans (g.set i hi)
theorem zEG (r v x:Int) (b:Bool) (m:Nat) (w:World) (h0:0<=r) (h4:r<4) (hc:w.cell? ⟨m,3+r.toNat,none⟩=some (.int .u32 x)) (hd:w.cell? ⟨m,7+r.toNat,none⟩=some (.bool b)) (f0:w.frozen? ⟨m,3+r.toNat,none⟩=false) (f1:w.frozen? ⟨m,7+r.toNat,none⟩=false):
 Calls Tryz.prog 205 #[.pointer (some ⟨m,0,none⟩),.int .u8 r,.int .u32 v] w fun e w'=>e= .returned (.tuple #[])/\w'=(w.setCell ⟨m,3+r.toNat,none⟩ (.int .u32 v)).setCell ⟨m,7+r.toNat,none⟩ (.bool true):=by
 go_enter Tryz.func205,Tryz.ntmps205;go_wp2;go_end0;exact⟨rfl,rfl⟩
theorem zKt (x:Ins) (m:Nat) (sp:Option Addr) (sn sc:Nat) (q:Int×Int) (a:St) (w:World) (hb:x.Bd) (hr:x.r<4) (hM:Mc w m (.slice sp sn sc) q a) (hu:x.uses=true) (hs:a.set.getD x.r.toNat false=false):
 Calls Tryz.prog 178 #[.pointer (some ⟨m,0,none⟩),zCL x] w fun e w'=>e= .returned (.iface 22 (.int .i64 21))/\Below w.heap.size w w':=by
 have br:=hb.r;have cs:=hM.set x.r.toNat (by omega);have cd:=hM.data;have ml:=hM.lt;have hU:=fun w=>zGx x true w hu
 rw[hs] at cs;obtain⟨op,r,t,f,k⟩:=x;unfold zCL at*;dsimp only at*;clear hb hu hs hM;have HKP:Hid (∀w',Below (w.heap.size+1) (w.alloc (.cells #[.int .u8 op,.int .u8 r,.int .u8 t,.int .u8 f,.int .u32 k] 250)) w'->(fun w'=>w'.cell? ⟨w.heap.size,0,none⟩=some (.int .u8 op)/\w'.cell? ⟨w.heap.size,1,none⟩=some (.int .u8 r)/\w'.cell? ⟨w.heap.size,2,none⟩=some (.int .u8 t)/\w'.cell? ⟨w.heap.size,3,none⟩=some (.int .u8 f)/\w'.cell? ⟨w.heap.size,4,none⟩=some (.int .u32 k)/\w'.cell? ⟨m,7+r.toNat,none⟩=some (.bool false)/\w'.cell? ⟨m,0,none⟩=some (.slice sp sn sc)) w'):=fun w' hw=>by
  have hc:∀c,w'.cell? ⟨w.heap.size,c,none⟩=(w.alloc (.cells #[.int .u8 op,.int .u8 r,.int .u8 t,.int .u8 f,.int .u32 k] 250)).cell? ⟨w.heap.size,c,none⟩:=fun c=>hw.cell (p:=⟨w.heap.size,c,none⟩) (by simp)
  have hd:∀c,w'.cell? ⟨m,c,none⟩=w.cell? ⟨m,c,none⟩:=fun c=>(hw.cell (p:=⟨m,c,none⟩) (by show m<_;omega)).trans (World.cell?_alloc_lt _ _ _ ml)
  refine⟨?_,?_,?_,?_,?_,(hd _).trans cs,(hd _).trans cd⟩<;>(rw[hc,World.cell?_alloc_at _ _ _ _ rfl];rfl)
 clear cs cd;go_enter Tryz.func178,Tryz.ntmps178;go_upto_region 1 with fail
 go_cut [5] from 6 to 17 (fun v w'=>v= .bool true/\Below (w.heap.size+1) (w.alloc (.cells #[.int .u8 op,.int .u8 r,.int .u8 t,.int .u8 f,.int .u32 k] 250)) w')
 case first=>
  go_region_held3 (fun w'=>w'.cell? ⟨w.heap.size,0,none⟩=some (.int .u8 op)/\w'.cell? ⟨w.heap.size,1,none⟩=some (.int .u8 r)/\w'.cell? ⟨w.heap.size,2,none⟩=some (.int .u8 t)/\w'.cell? ⟨w.heap.size,3,none⟩=some (.int .u8 f)/\w'.cell? ⟨w.heap.size,4,none⟩=some (.int .u32 k)/\w'.cell? ⟨m,7+r.toNat,none⟩=some (.bool false)/\w'.cell? ⟨m,0,none⟩=some (.slice sp sn sc)) (exact HKP.out _ (by repeat (with_reducible first|exact Below.refl _ _|exact HBX.out|refine Below.drew ?_|refine Below.alloc ?_ (by first|omega|(simp;done)|(simp;omega)) _))) (first|(go_at_call 202;refine(hU _).mono ?_;rintro e w1 ⟨rfl,hb1⟩;have HBX:Hid (Below (w.heap.size+1) (w.alloc (.cells #[.int .u8 op,.int .u8 r,.int .u8 t,.int .u8 f,.int .u32 k] 250)) w1):=Below.trans (by repeat (with_reducible first|exact Below.refl _ _|refine Below.drew ?_)) (hb1.mono (by first|omega|(simp;done)|(simp;omega)));obtain⟨q0,q1,q2,q3,q4,q5,q6⟩:=HKP.out w1 HBX.out;clear hb1))
  all_goals
   go_wp2_with fail;go_meet;exact⟨rfl,by repeat (with_reducible first|exact HBX.out|refine Below.drew ?_)⟩
 case rest=>
  obtain⟨rfl,hB2⟩:=hcut;go_wp2_with fail;go_ret;exact⟨rfl,(bal _ _).trans (hB2.mono (by omega))⟩
theorem zOg (x:Ins) (m:Nat) (sp:Option Addr) (sn sc:Nat) (q:Int×Int) (a:St) (w:World) (hb:x.Bd) (hr:x.r<4) (hM:Mc w m (.slice sp sn sc) q a) (hu:x.uses=true) (hl:x.load=false) (hs:a.set.getD x.r.toNat false=true):
 Calls Tryz.prog 178 #[.pointer (some ⟨m,0,none⟩),zCL x] w fun e w'=>e= .returned .nilIface/\Below w.heap.size w w':=by
 have br:=hb.r;have cs:=hM.set x.r.toNat (by omega);have cd:=hM.data;have ml:=hM.lt;have hU:=fun w=>zGx x true w hu
 have hL:=fun w=>zFU x false w hl
 rw[hs] at cs;obtain⟨op,r,t,f,k⟩:=x;unfold zCL zEE at*;dsimp only at*;clear hb hu hs hM hl;have HKP:Hid (∀w',Below (w.heap.size+1) (w.alloc (.cells #[.int .u8 op,.int .u8 r,.int .u8 t,.int .u8 f,.int .u32 k] 250)) w'->(fun w'=>w'.cell? ⟨w.heap.size,0,none⟩=some (.int .u8 op)/\w'.cell? ⟨w.heap.size,1,none⟩=some (.int .u8 r)/\w'.cell? ⟨w.heap.size,2,none⟩=some (.int .u8 t)/\w'.cell? ⟨w.heap.size,3,none⟩=some (.int .u8 f)/\w'.cell? ⟨w.heap.size,4,none⟩=some (.int .u32 k)/\w'.cell? ⟨m,7+r.toNat,none⟩=some (.bool true)/\w'.cell? ⟨m,0,none⟩=some (.slice sp sn sc)) w'):=fun w' hw=>by
  have hc:∀c,w'.cell? ⟨w.heap.size,c,none⟩=(w.alloc (.cells #[.int .u8 op,.int .u8 r,.int .u8 t,.int .u8 f,.int .u32 k] 250)).cell? ⟨w.heap.size,c,none⟩:=fun c=>hw.cell (p:=⟨w.heap.size,c,none⟩) (by simp)
  have hd:∀c,w'.cell? ⟨m,c,none⟩=w.cell? ⟨m,c,none⟩:=fun c=>(hw.cell (p:=⟨m,c,none⟩) (by show m<_;omega)).trans (World.cell?_alloc_lt _ _ _ ml)
  refine⟨?_,?_,?_,?_,?_,(hd _).trans cs,(hd _).trans cd⟩<;>(rw[hc,World.cell?_alloc_at _ _ _ _ rfl];rfl)
 clear cs cd;go_enter Tryz.func178,Tryz.ntmps178;go_upto_region 1 with fail
 go_cut [5] from 6 to 17 (fun v w'=>v= .bool false/\Below (w.heap.size+1) (w.alloc (.cells #[.int .u8 op,.int .u8 r,.int .u8 t,.int .u8 f,.int .u32 k] 250)) w')
 case first=>
  go_region_held3 (fun w'=>w'.cell? ⟨w.heap.size,0,none⟩=some (.int .u8 op)/\w'.cell? ⟨w.heap.size,1,none⟩=some (.int .u8 r)/\w'.cell? ⟨w.heap.size,2,none⟩=some (.int .u8 t)/\w'.cell? ⟨w.heap.size,3,none⟩=some (.int .u8 f)/\w'.cell? ⟨w.heap.size,4,none⟩=some (.int .u32 k)/\w'.cell? ⟨m,7+r.toNat,none⟩=some (.bool true)/\w'.cell? ⟨m,0,none⟩=some (.slice sp sn sc)) (exact HKP.out _ (by repeat (with_reducible first|exact Below.refl _ _|exact HBX.out|refine Below.drew ?_|refine Below.alloc ?_ (by first|omega|(simp;done)|(simp;omega)) _))) (first|(go_at_call 202;refine(hU _).mono ?_;rintro e w1 ⟨rfl,hb1⟩;have HBX:Hid (Below (w.heap.size+1) (w.alloc (.cells #[.int .u8 op,.int .u8 r,.int .u8 t,.int .u8 f,.int .u32 k] 250)) w1):=Below.trans (by repeat (with_reducible first|exact Below.refl _ _|refine Below.drew ?_)) (hb1.mono (by first|omega|(simp;done)|(simp;omega)));obtain⟨q0,q1,q2,q3,q4,q5,q6⟩:=HKP.out w1 HBX.out;clear hb1))
  all_goals
   go_wp2_with fail;go_meet;exact⟨rfl,by repeat (with_reducible first|exact HBX.out|refine Below.drew ?_)⟩
 case rest=>
  obtain⟨rfl,hB2⟩:=hcut;obtain⟨q0,q1,q2,q3,q4,q5,q6⟩:=HKP.out _ hB2
  rename_i wx _
  go_upto_region 3 with fail
  go_cut [19] from 20 to 32 (fun v w'=>v= .bool false/\Below (w.heap.size+1) (w.alloc (.cells #[.int .u8 op,.int .u8 r,.int .u8 t,.int .u8 f,.int .u32 k] 250)) w')
  case first=>
   first|(go_region_with (first|(go_at_call 203;refine(hL _).mono ?_;rintro e w2 ⟨rfl,rfl⟩)))|fail
   all_goals
    go_wp2_with fail;go_meet;exact⟨rfl,by repeat (with_reducible first|exact hB2|refine Below.drew ?_|refine Below.alloc ?_ (by have:=hB2.size;first|omega|(simp at*;done)|(simp at*;omega)) _)⟩
  case rest=>
   obtain⟨rfl,hB3⟩:=hcut;go_wp2_with fail;go_ret;exact⟨rfl,(bal _ _).trans (hB3.mono (by omega))⟩
theorem zM5 (x:Ins) (m:Nat) (sp:Option Addr) (sn sc:Nat) (q:Int×Int) (a:St) (w:World) (hb:x.Bd) (hr:x.r<4) (hM:Mc w m (.slice sp sn sc) q a) (hu:x.uses=false) (hl:x.load=false):
 Calls Tryz.prog 178 #[.pointer (some ⟨m,0,none⟩),zCL x] w fun e w'=>e= .returned .nilIface/\Below w.heap.size w w':=by
 have br:=hb.r;have cs:=hM.set x.r.toNat (by omega);have cd:=hM.data;have ml:=hM.lt;have hU:=fun w=>zGx x false w hu
 have hL:=fun w=>zFU x false w hl
 obtain⟨sb,hsb⟩:∃sb,a.set.getD x.r.toNat false=sb:=⟨_,rfl⟩;rw[hsb] at cs;obtain⟨op,r,t,f,k⟩:=x;unfold zCL zEE at*;dsimp only at*;clear hb hu hM hl hsb;have HKP:Hid (∀w',Below (w.heap.size+1) (w.alloc (.cells #[.int .u8 op,.int .u8 r,.int .u8 t,.int .u8 f,.int .u32 k] 250)) w'->(fun w'=>w'.cell? ⟨w.heap.size,0,none⟩=some (.int .u8 op)/\w'.cell? ⟨w.heap.size,1,none⟩=some (.int .u8 r)/\w'.cell? ⟨w.heap.size,2,none⟩=some (.int .u8 t)/\w'.cell? ⟨w.heap.size,3,none⟩=some (.int .u8 f)/\w'.cell? ⟨w.heap.size,4,none⟩=some (.int .u32 k)/\w'.cell? ⟨m,7+r.toNat,none⟩=some (.bool sb)/\w'.cell? ⟨m,0,none⟩=some (.slice sp sn sc)) w'):=fun w' hw=>by
  have hc:∀c,w'.cell? ⟨w.heap.size,c,none⟩=(w.alloc (.cells #[.int .u8 op,.int .u8 r,.int .u8 t,.int .u8 f,.int .u32 k] 250)).cell? ⟨w.heap.size,c,none⟩:=fun c=>hw.cell (p:=⟨w.heap.size,c,none⟩) (by simp)
  have hd:∀c,w'.cell? ⟨m,c,none⟩=w.cell? ⟨m,c,none⟩:=fun c=>(hw.cell (p:=⟨m,c,none⟩) (by show m<_;omega)).trans (World.cell?_alloc_lt _ _ _ ml)
  refine⟨?_,?_,?_,?_,?_,(hd _).trans cs,(hd _).trans cd⟩<;>(rw[hc,World.cell?_alloc_at _ _ _ _ rfl];rfl)
 clear cs cd;go_enter Tryz.func178,Tryz.ntmps178;go_upto_region 1 with fail
 go_cut [5] from 6 to 17 (fun v w'=>v= .bool false/\Below (w.heap.size+1) (w.alloc (.cells #[.int .u8 op,.int .u8 r,.int .u8 t,.int .u8 f,.int .u32 k] 250)) w')
 case first=>
  first|(go_region_with (first|(go_at_call 202;refine(hU _).mono ?_;rintro e w1 ⟨rfl,hb1⟩;have HBX:Hid (Below (w.heap.size+1) (w.alloc (.cells #[.int .u8 op,.int .u8 r,.int .u8 t,.int .u8 f,.int .u32 k] 250)) w1):=Below.trans (by repeat (with_reducible first|exact Below.refl _ _|refine Below.drew ?_)) (hb1.mono (by first|omega|(simp;done)|(simp;omega)));clear hb1)))|fail
  all_goals
   go_wp2_with fail;go_meet;exact⟨rfl,by repeat (with_reducible first|exact HBX.out|refine Below.drew ?_)⟩
 case rest=>
  obtain⟨rfl,hB2⟩:=hcut;obtain⟨q0,q1,q2,q3,q4,q5,q6⟩:=HKP.out _ hB2
  rename_i wx _
  go_upto_region 3 with fail
  go_cut [19] from 20 to 32 (fun v w'=>v= .bool false/\Below (w.heap.size+1) (w.alloc (.cells #[.int .u8 op,.int .u8 r,.int .u8 t,.int .u8 f,.int .u32 k] 250)) w')
  case first=>
   first|(go_region_with (first|(go_at_call 203;refine(hL _).mono ?_;rintro e w2 ⟨rfl,rfl⟩)))|fail
   all_goals
    go_wp2_with fail;go_meet;exact⟨rfl,by repeat (with_reducible first|exact hB2|refine Below.drew ?_|refine Below.alloc ?_ (by have:=hB2.size;first|omega|(simp at*;done)|(simp at*;omega)) _)⟩
  case rest=>
   obtain⟨rfl,hB3⟩:=hcut;go_wp2_with fail;go_ret;exact⟨rfl,(bal _ _).trans (hB3.mono (by omega))⟩
theorem zM6 (x:Ins) (m:Nat) (sp:Option Addr) (sn sc:Nat) (q:Int×Int) (a:St) (w:World) (hb:x.Bd) (hr:x.r<4) (hM:Mc w m (.slice sp sn sc) q a) (hu:x.uses=false) (hl:x.load=true) (hn:sn<=4294967295):
 Calls Tryz.prog 178 #[.pointer (some ⟨m,0,none⟩),zCL x] w fun e w'=>e= .returned (if decide ((sn:Int)<x.wide) then .iface 22 (.int .i64 22) else .nilIface)/\Below w.heap.size w w':=by
 have br:=hb.r;have cs:=hM.set x.r.toNat (by omega);have cd:=hM.data;have ml:=hM.lt;have hU:=fun w=>zGx x false w hu
 have hL:=fun w=>zFU x true w hl
 have hE:=fun w=>zCp x hb w hl
 have bw:0<=x.wide/\x.wide<=4294967299:=by have:=hb.k;unfold Ins.wide;repeat' split
                                           all_goals omega
 obtain⟨wd,hwd⟩:∃wd,x.wide=wd:=⟨_,rfl⟩;rw[hwd] at hE bw;rw[hwd];obtain⟨z,hz⟩:∃z,decide ((sn:Int)<wd)=z:=⟨_,rfl⟩;rw[hz];have HZ:=hid hz;have HWR:Hid (IntKind.u64.wrap (sn:Int)=sn):=by
  show IntKind.u64.wrap (sn:Int)=sn
  rw[IntKind.wrap_u64];omega
 obtain⟨sb,hsb⟩:∃sb,a.set.getD x.r.toNat false=sb:=⟨_,rfl⟩;rw[hsb] at cs;obtain⟨op,r,t,f,k⟩:=x;unfold zCL zEE at*;dsimp only at*;clear hb hu hM hl hsb hwd hz;have HKP:Hid (∀w',Below (w.heap.size+1) (w.alloc (.cells #[.int .u8 op,.int .u8 r,.int .u8 t,.int .u8 f,.int .u32 k] 250)) w'->(fun w'=>w'.cell? ⟨w.heap.size,0,none⟩=some (.int .u8 op)/\w'.cell? ⟨w.heap.size,1,none⟩=some (.int .u8 r)/\w'.cell? ⟨w.heap.size,2,none⟩=some (.int .u8 t)/\w'.cell? ⟨w.heap.size,3,none⟩=some (.int .u8 f)/\w'.cell? ⟨w.heap.size,4,none⟩=some (.int .u32 k)/\w'.cell? ⟨m,7+r.toNat,none⟩=some (.bool sb)/\w'.cell? ⟨m,0,none⟩=some (.slice sp sn sc)) w'):=fun w' hw=>by
  have hc:∀c,w'.cell? ⟨w.heap.size,c,none⟩=(w.alloc (.cells #[.int .u8 op,.int .u8 r,.int .u8 t,.int .u8 f,.int .u32 k] 250)).cell? ⟨w.heap.size,c,none⟩:=fun c=>hw.cell (p:=⟨w.heap.size,c,none⟩) (by simp)
  have hd:∀c,w'.cell? ⟨m,c,none⟩=w.cell? ⟨m,c,none⟩:=fun c=>(hw.cell (p:=⟨m,c,none⟩) (by show m<_;omega)).trans (World.cell?_alloc_lt _ _ _ ml)
  refine⟨?_,?_,?_,?_,?_,(hd _).trans cs,(hd _).trans cd⟩<;>(rw[hc,World.cell?_alloc_at _ _ _ _ rfl];rfl)
 clear cs cd;go_enter Tryz.func178,Tryz.ntmps178;go_upto_region 1 with fail
 go_cut [5] from 6 to 17 (fun v w'=>v= .bool false/\Below (w.heap.size+1) (w.alloc (.cells #[.int .u8 op,.int .u8 r,.int .u8 t,.int .u8 f,.int .u32 k] 250)) w')
 case first=>
  first|(go_region_with (first|(go_at_call 202;refine(hU _).mono ?_;rintro e w1 ⟨rfl,hb1⟩;have HBX:Hid (Below (w.heap.size+1) (w.alloc (.cells #[.int .u8 op,.int .u8 r,.int .u8 t,.int .u8 f,.int .u32 k] 250)) w1):=Below.trans (by repeat (with_reducible first|exact Below.refl _ _|refine Below.drew ?_)) (hb1.mono (by first|omega|(simp;done)|(simp;omega)));clear hb1)))|fail
  all_goals
   go_wp2_with fail;go_meet;exact⟨rfl,by repeat (with_reducible first|exact HBX.out|refine Below.drew ?_)⟩
 case rest=>
  obtain⟨rfl,hB2⟩:=hcut;obtain⟨q0,q1,q2,q3,q4,q5,q6⟩:=HKP.out _ hB2
  rename_i wx _
  go_upto_region 3 with fail
  go_cut [19] from 20 to 32 (fun v w'=>v= .bool z/\Below (w.heap.size+1) (w.alloc (.cells #[.int .u8 op,.int .u8 r,.int .u8 t,.int .u8 f,.int .u32 k] 250)) w')
  case first=>
   go_region_held3 (fun w'=>w'.cell? ⟨w.heap.size,0,none⟩=some (.int .u8 op)/\w'.cell? ⟨w.heap.size,1,none⟩=some (.int .u8 r)/\w'.cell? ⟨w.heap.size,2,none⟩=some (.int .u8 t)/\w'.cell? ⟨w.heap.size,3,none⟩=some (.int .u8 f)/\w'.cell? ⟨w.heap.size,4,none⟩=some (.int .u32 k)/\w'.cell? ⟨m,7+r.toNat,none⟩=some (.bool sb)/\w'.cell? ⟨m,0,none⟩=some (.slice sp sn sc)) (exact HKP.out _ (by repeat (with_reducible first|exact hB2|refine Below.drew ?_|refine Below.alloc ?_ (by have:=hB2.size;first|omega|(simp at*;done)|(simp at*;omega)) _))) (first|(go_at_call 203;refine(hL _).mono ?_;rintro e w2 ⟨rfl,rfl⟩)|(go_at_call 204;refine(hE _).mono ?_;rintro e w2 ⟨rfl,rfl⟩))
   all_goals
    go_wp2_with fail;go_meet;exact⟨by rw[<-HZ.out,HWR.out],by repeat (with_reducible first|exact hB2|refine Below.drew ?_|refine Below.alloc ?_ (by have:=hB2.size;first|omega|(simp at*;done)|(simp at*;omega)) _)⟩
  case rest=>
   obtain⟨rfl,hB3⟩:=hcut;clear HZ HWR;cases z
   all_goals
    go_wp2_with fail;go_ret;exact⟨rfl,(bal _ _).trans (hB3.mono (by omega))⟩
end Go.Proofs.YtclpnafiiobfhaaGreatDoor

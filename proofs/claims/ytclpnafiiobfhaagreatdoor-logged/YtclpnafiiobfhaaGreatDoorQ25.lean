import Derived.Test.YtclpnafiiobfhaaGreatDoorQ24
set_option linter.unusedVariables false
set_option linter.unusedSimpArgs false
set_option maxHeartbeats 6400000
namespace Go.Proofs.YtclpnafiiobfhaaGreatDoor
open Go.RowKit
theorem zRp (a s b d:Int) (w:World):(binOp .eql 238 (.agg #[.int .u32 a,.int .u16 s]) (.agg #[.int .u32 b,.int .u16 d])).run Tryz.prog w= .ok (.bool (decide (a=b/\s=d))) w:=by
 have u3:=Tryz.underlying35;have u4:=Tryz.underlying36;have hS:Tryz.prog.underlying 238=some (.struct (Tryz.prog.fieldsOf 238)):=by kernel_rfl
 have hp:Tryz.prog.stoodInHeld 238=false:=by kernel_rfl
 rw[run_eql_struct,show(10000:Nat)=9999+1 from rfl,run_equalIn_agg w 9999 238 _ _ hS hp];simp only[Program.fieldsOf,Tryz.underlying238];go_simp
 by_cases h1:a=b<;>by_cases h2:s=d<;>simp[h1,h2]
theorem zRq (a s b d:Int) (w:World):(binOp .neq 238 (.agg #[.int .u32 a,.int .u16 s]) (.agg #[.int .u32 b,.int .u16 d])).run Tryz.prog w= .ok (.bool (!decide (a=b/\s=d))) w:=by
 have u3:=Tryz.underlying35;have u4:=Tryz.underlying36;have hS:Tryz.prog.underlying 238=some (.struct (Tryz.prog.fieldsOf 238)):=by kernel_rfl
 have hp:Tryz.prog.stoodInHeld 238=false:=by kernel_rfl
 rw[run_neq_struct,show(10000:Nat)=9999+1 from rfl,run_equalIn_agg w 9999 238 _ _ hS hp];simp only[Program.fieldsOf,Tryz.underlying238];go_simp
 by_cases h1:a=b<;>by_cases h2:s=d<;>simp[h1,h2]
theorem al1 {W:World} {p:Addr} {v:Value} (h:W.cell? p=some v) (a:Obj):(W.alloc a).cell? p=some v:=(World.cell?_alloc_lt _ _ _ (World.block_lt_of_cell? W p h)).trans h
theorem al3 {W:World} {p:Addr} {v:Value} (h:W.cell? p=some v) (a b c:Obj):((((W.alloc a).alloc b).alloc c).drew).cell? p=some v:=
 al1 (al1 (al1 h a) b) c
theorem zGI (x:Fl) (h:Hd) (w:World):
 Calls Tryz.prog 176 #[.agg x.cells,.agg h.cells] w fun e w'=>e= .returned (.bool (zC7 x h))/\Below w.heap.size w w':=by
 have HE:Hid (zC7 x h=(decide (h.a=x.b/\h.s=x.d)&& !decide (h.a=x.a/\h.s=x.s))):=rfl;generalize zC7 x h=q at HE;obtain⟨a,b,p,s,d,f⟩:=h;obtain⟨a',b',p',s',d',rep,clo,u⟩:=x;dsimp only at HE;have e1:=zRp a s b' d';have e2:=zRq a s a' s';dsimp only[Hd.cells,Fl.cells];go_enter Tryz.func176,Tryz.ntmps176;go_upto_region 1 with fail
 have HB0:Hid (Below w.heap.size w ((w.alloc (.cells #[.int .u32 a',.int .u32 b',.int .u8 p',.int .u16 s',.int .u16 d',.bool rep,.bool clo,.int .u64 (u:Int)] 241)).alloc (.cells #[.int .u32 a,.int .u32 b,.int .u8 p,.int .u16 s,.int .u16 d,.int .u8 f] 38))):=(bal _ _).alloc (by simp) _;have hz2:((w.alloc (.cells #[.int .u32 a',.int .u32 b',.int .u8 p',.int .u16 s',.int .u16 d',.bool rep,.bool clo,.int .u64 (u:Int)] 241)).alloc (.cells #[.int .u32 a,.int .u32 b,.int .u8 p,.int .u16 s,.int .u16 d,.int .u8 f] 38)).heap.size=w.heap.size+2:=by simp
 have HK:Hid (∀i x,(#[.int .u32 a',.int .u32 b',.int .u8 p',.int .u16 s',.int .u16 d',.bool rep,.bool clo,.int .u64 (u:Int)]:Array Value)[i]? =some x->((w.alloc (.cells #[.int .u32 a',.int .u32 b',.int .u8 p',.int .u16 s',.int .u16 d',.bool rep,.bool clo,.int .u64 (u:Int)] 241)).alloc (.cells #[.int .u32 a,.int .u32 b,.int .u8 p,.int .u16 s,.int .u16 d,.int .u8 f] 38)).cell? ⟨w.heap.size,i,none⟩=some x):=fun i x hx=>by
  rw[World.cell?_alloc_lt _ _ _ (by simp),World.cell?_alloc_at _ _ _ _ rfl];exact hx
 have HH:Hid (∀i x,(#[.int .u32 a,.int .u32 b,.int .u8 p,.int .u16 s,.int .u16 d,.int .u8 f]:Array Value)[i]? =some x->((w.alloc (.cells #[.int .u32 a',.int .u32 b',.int .u8 p',.int .u16 s',.int .u16 d',.bool rep,.bool clo,.int .u64 (u:Int)] 241)).alloc (.cells #[.int .u32 a,.int .u32 b,.int .u8 p,.int .u16 s,.int .u16 d,.int .u8 f] 38)).cell? ⟨w.heap.size+1,i,none⟩=some x):=fun i x hx=>by
  rw[World.cell?_alloc_at _ _ _ _ (by simp)];exact hx
 generalize (w.alloc (.cells #[.int .u32 a',.int .u32 b',.int .u8 p',.int .u16 s',.int .u16 d',.bool rep,.bool clo,.int .u64 (u:Int)] 241)).alloc (.cells #[.int .u32 a,.int .u32 b,.int .u8 p,.int .u16 s,.int .u16 d,.int .u8 f] 38)=W2 at HB0 hz2 HK HH ⊢;have k0:=HK.out 0 _ rfl;have k1:=HK.out 1 _ rfl;have k3:=HK.out 3 _ rfl;have k4:=HK.out 4 _ rfl;have j0:=HH.out 0 _ rfl;have j3:=HH.out 3 _ rfl;have hlt0:w.heap.size<W2.heap.size:=by omega
 have hlt1:w.heap.size+1<W2.heap.size:=by omega
 generalize w.heap.size+1=B1 at hlt1 j0 j3 ⊢;obtain⟨B0,hB0⟩:∃B0,w.heap.size=B0:=⟨_,rfl⟩;have HW0:=hid hB0;rw[hB0] at k0 k1 k3 k4 hlt0 HB0 ⊢;clear hz2 HK HH hB0;have ne0:=World.new_ne W2 ⟨B0,0,none⟩ k0;have ne1:=World.new_ne W2 ⟨B1,0,none⟩ j0;have aq01:W2.heap.size+1≠B0:=by omega
 have bq01:B0≠W2.heap.size+1:=by omega
 have cq01:B0<W2.heap.size+1:=by omega
 have aq01p1:W2.heap.size+1+1≠B0:=by omega
 have bq01p1:B0≠W2.heap.size+1+1:=by omega
 have cq01p1:B0<W2.heap.size+1+1:=by omega
 have aq02:W2.heap.size+2≠B0:=by omega
 have bq02:B0≠W2.heap.size+2:=by omega
 have cq02:B0<W2.heap.size+2:=by omega
 have aq03:W2.heap.size+3≠B0:=by omega
 have bq03:B0≠W2.heap.size+3:=by omega
 have cq03:B0<W2.heap.size+3:=by omega
 have aq11:W2.heap.size+1≠B1:=by omega
 have bq11:B1≠W2.heap.size+1:=by omega
 have cq11:B1<W2.heap.size+1:=by omega
 have aq11p1:W2.heap.size+1+1≠B1:=by omega
 have bq11p1:B1≠W2.heap.size+1+1:=by omega
 have cq11p1:B1<W2.heap.size+1+1:=by omega
 have aq12:W2.heap.size+2≠B1:=by omega
 have bq12:B1≠W2.heap.size+2:=by omega
 have cq12:B1<W2.heap.size+2:=by omega
 have aq13:W2.heap.size+3≠B1:=by omega
 have bq13:B1≠W2.heap.size+3:=by omega
 have cq13:B1<W2.heap.size+3:=by omega
 go_cut [5,6,7] from 8 to 22 (fun x y z w'=>∃g5 g6 g7,x= .pointer (some ⟨g5,0,none⟩)/\y= .pointer (some ⟨g6,0,none⟩)/\z= .pointer (some ⟨g7,0,none⟩)/\zHw w' g5 a s/\zHw w' g6 a' s'/\zHw w' g7 b' d'/\Below W2.heap.size W2 w')
 case first=>
  go_region_held3 (fun w'=>w'.cell? ⟨B0,0,none⟩=some (.int .u32 a')/\w'.cell? ⟨B0,1,none⟩=some (.int .u32 b')/\w'.cell? ⟨B0,3,none⟩=some (.int .u16 s')/\w'.cell? ⟨B0,4,none⟩=some (.int .u16 d')/\w'.cell? ⟨B1,0,none⟩=some (.int .u32 a)/\w'.cell? ⟨B1,3,none⟩=some (.int .u16 s)) (first|(go_keep;done)|exact⟨al3 k0 _ _ _,al3 k1 _ _ _,al3 k3 _ _ _,al3 k4 _ _ _,al3 j0 _ _ _,al3 j3 _ _ _⟩) (fail)
  all_goals
   go_wp2_with fail;go_meet;refine⟨_,_,_,rfl,rfl,rfl,⟨by go_simp,by go_simp,fun i=>by go_simp,by first|(simp;done)|(simp;omega)⟩,⟨by go_simp,by go_simp,fun i=>by go_simp,by first|(simp;done)|(simp;omega)⟩,⟨by go_simp,by go_simp,fun i=>by go_simp,by first|(simp;done)|(simp;omega)⟩,?_⟩
   repeat (with_reducible first|exact Below.refl _ _|refine Below.drew ?_|refine Below.alloc ?_ (by first|(simp;done)|(simp;omega)) _)
 obtain⟨g5,g6,g7,rfl,rfl,rfl,h5,h6,h7,hb⟩:=hcut;have x0:=h5.c0;have x1:=h5.c1;have y0:=h6.c0;have y1:=h6.c1;have z0:=h7.c0;have z1:=h7.c1;have HB:Hid (Below w.heap.size w wc):=by
  have h0:=HB0.out;rw[<-HW0.out] at h0;exact h0.trans (hb.mono (by rw[HW0.out];omega))
 obtain⟨t1,ht1⟩:∃t1,decide (a=b'/\s=d')=t1:=⟨_,rfl⟩;obtain⟨t2,ht2⟩:∃t2,decide (a=a'/\s=s')=t2:=⟨_,rfl⟩;rw[ht1,ht2] at HE;rw[ht1] at e1;rw[ht2] at e2;clear h5 h6 h7 hb ht1 ht2;cases t1
 all_goals
  go_wp2_with fail;go_ret;exact⟨by rw[HE.out];rfl,HB.out⟩
end Go.Proofs.YtclpnafiiobfhaaGreatDoor

import Derived.Test.YtclpnafiiobfhaaGreatDoorQ23
set_option linter.unusedVariables false
set_option linter.unusedSimpArgs false
set_option maxHeartbeats 3200000
namespace Go.Proofs.YtclpnafiiobfhaaGreatDoor
open Go.RowKit
structure zHw (W:World) (g:Nat) (a s:Int):Prop where
 c0:W.cell? ⟨g,0,none⟩=some (.int .u32 a)
 c1:W.cell? ⟨g,1,none⟩=some (.int .u16 s)
 f:∀i,W.frozen? ⟨g,i,none⟩=false
 lt:g<W.heap.size
theorem zHw.below {w w':World} {g B:Nat} {a s:Int} (h:zHw w g a s) (hb:Below B w w') (hg:g<B):zHw w' g a s:=
 ⟨(hb.cell (p:=⟨g,0,none⟩) hg).trans h.c0,(hb.cell (p:=⟨g,1,none⟩) hg).trans h.c1,fun i=>(hb.frozen (p:=⟨g,i,none⟩) hg).trans (h.f i),Nat.lt_of_lt_of_le h.lt hb.size⟩
structure zKw (w W:World) (g3 g4:Nat) (a s b d p:Int):Prop where
 e3:zHw W g3 a s
 e4:zHw W g4 b d
 p:W.cell? ⟨w.heap.size,2,none⟩=some (.int .u8 p)
 k:∀i,i<5->∃v,W.cell? ⟨w.heap.size+1,i,none⟩=some v
 kf:∀i,W.frozen? ⟨w.heap.size+1,i,none⟩=false
 b:Below w.heap.size w W
 sz:w.heap.size+2<=W.heap.size
theorem zKw.below {w W W':World} {g3 g4:Nat} {a s b d p:Int} (h:zKw w W g3 g4 a s b d p) (hb:Below W.heap.size W W'):zKw w W' g3 g4 a s b d p:=
 ⟨h.e3.below hb h.e3.lt,h.e4.below hb h.e4.lt,(hb.cell (p:=⟨w.heap.size,2,none⟩) (by show w.heap.size<_;have:=h.sz;omega)).trans h.p,fun i hi=>by
   obtain⟨v,hv⟩:=h.k i hi;exact⟨v,(hb.cell (p:=⟨w.heap.size+1,i,none⟩) (by show w.heap.size+1<_;have:=h.sz;omega)).trans hv⟩,fun i=>(hb.frozen (p:=⟨w.heap.size+1,i,none⟩) (by show w.heap.size+1<_;have:=h.sz;omega)).trans (h.kf i),h.b.trans (hb.mono h.b.size),Nat.le_trans h.sz hb.size⟩
theorem zDy (h:Hd) (w:World):
 Calls Tryz.prog 149 #[.agg h.cells] w fun e w'=>e= .returned (.agg h.key.cells)/\Below w.heap.size w w':=by
 obtain⟨a,b,p,s,d,f⟩:=h;have HK:Hid ((Hd.mk a b p s d f).key=if zDO b d a s=true then⟨b,d,a,s,p⟩ else⟨a,s,b,d,p⟩):=rfl;generalize (Hd.mk a b p s d f).key=ky at HK;dsimp only[Hd.cells];go_enter Tryz.func149,Tryz.ntmps149;go_upto_region 1 with fail
 go_cut [3,4] from 5 to 14 (fun x y w'=>∃g3 g4,x= .pointer (some ⟨g3,0,none⟩)/\y= .pointer (some ⟨g4,0,none⟩)/\g3≠g4/\w.heap.size+2<=g3/\w.heap.size+2<=g4/\zKw w w' g3 g4 a s b d p)
 case first=>
  go_region
  all_goals
   go_wp2_with fail;go_meet;refine⟨_,_,rfl,rfl,by omega,by omega,by omega,⟨by go_simp,by go_simp,fun i=>by go_simp,by simp⟩,⟨by go_simp,by go_simp,fun i=>by go_simp,by simp⟩,by go_simp,fun i hi=> ?_,fun i=>by go_simp,?_,by simp⟩
   ·have:i=0\/i=1\/i=2\/i=3\/i=4:=by omega
    rcases this with rfl|rfl|rfl|rfl|rfl
    ·exact⟨.int .u32 0,by go_simp⟩
    ·exact⟨.int .u16 0,by go_simp⟩
    ·exact⟨.int .u32 0,by go_simp⟩
    ·exact⟨.int .u16 0,by go_simp⟩
    ·exact⟨.int .u8 0,by go_simp⟩
   ·repeat (with_reducible first|exact Below.refl _ _|refine Below.drew ?_|refine Below.alloc ?_ (by first|(simp;done)|(simp;omega)) _)
 obtain⟨g3,g4,rfl,rfl,hne,hl3,hl4,hk⟩:=hcut;have HKA:=hid hk;have x0:=hk.e3.c0;have x1:=hk.e3.c1;have y0:=hk.e4.c0;have y1:=hk.e4.c1;have HLs:Hid (Calls _ _ _ wc _):=zOi b d a s wc;clear hk;have n3:g3≠w.heap.size+1:=by omega
 have n4:g4≠w.heap.size+1:=by omega
 have n5:g3≠w.heap.size:=by omega
 have n6:g4≠w.heap.size:=by omega
 obtain⟨q,hq⟩:∃q,zDO b d a s=q:=⟨_,rfl⟩;rw[hq] at HLs HK;clear hq;cases q with
 |true=>
  go_wp2_with (go_at_call 175;refine HLs.out.mono ?_;rintro e w2 ⟨rfl,hb2⟩;have HKB:Hid (zKw w w2 g3 g4 a s b d p):=HKA.out.below hb2;clear hb2;have u0:=HKB.out.e3.c0;have u1:=HKB.out.e3.c1;have v0:=HKB.out.e4.c0;have v1:=HKB.out.e4.c1;have pf:=HKB.out.p;have fu0:=HKB.out.e3.f 0;have fu1:=HKB.out.e3.f 1;have fv0:=HKB.out.e4.f 0;have fv1:=HKB.out.e4.f 1;obtain⟨r0,hr0⟩:=HKB.out.k 0 (by decide);obtain⟨r1,hr1⟩:=HKB.out.k 1 (by decide);obtain⟨r2,hr2⟩:=HKB.out.k 2 (by decide);obtain⟨r3,hr3⟩:=HKB.out.k 3 (by decide);obtain⟨r4,hr4⟩:=HKB.out.k 4 (by decide);have fr0:=HKB.out.kf 0;have fr1:=HKB.out.kf 1;have fr2:=HKB.out.kf 2;have fr3:=HKB.out.kf 3;have fr4:=HKB.out.kf 4);refine bodyPost_ret (v:= .agg #[.int .u32 b,.int .u16 d,.int .u32 a,.int .u16 s,.int .u8 p]) (by simp only[results,Tryz.results149];go_simp) rfl ⟨by rw[HK.out];rfl,?_⟩
  repeat (with_reducible first|exact HKB.out.b|refine Below.setCell ?_ (by first|omega|(simp;done)|(simp;omega)) _|refine Below.alloc ?_ (by first|omega|(simp;done)|(simp;omega)) _)
 |false=>
  go_wp2_with (go_at_call 175;refine HLs.out.mono ?_;rintro e w2 ⟨rfl,hb2⟩;have HKB:Hid (zKw w w2 g3 g4 a s b d p):=HKA.out.below hb2;clear hb2;have u0:=HKB.out.e3.c0;have u1:=HKB.out.e3.c1;have v0:=HKB.out.e4.c0;have v1:=HKB.out.e4.c1;have pf:=HKB.out.p;have fu0:=HKB.out.e3.f 0;have fu1:=HKB.out.e3.f 1;have fv0:=HKB.out.e4.f 0;have fv1:=HKB.out.e4.f 1;obtain⟨r0,hr0⟩:=HKB.out.k 0 (by decide);obtain⟨r1,hr1⟩:=HKB.out.k 1 (by decide);obtain⟨r2,hr2⟩:=HKB.out.k 2 (by decide);obtain⟨r3,hr3⟩:=HKB.out.k 3 (by decide);obtain⟨r4,hr4⟩:=HKB.out.k 4 (by decide);have fr0:=HKB.out.kf 0;have fr1:=HKB.out.kf 1;have fr2:=HKB.out.kf 2;have fr3:=HKB.out.kf 3;have fr4:=HKB.out.kf 4);refine bodyPost_ret (v:= .agg #[.int .u32 a,.int .u16 s,.int .u32 b,.int .u16 d,.int .u8 p]) (by simp only[results,Tryz.results149];go_simp) rfl ⟨by rw[HK.out];rfl,?_⟩
  repeat (with_reducible first|exact HKB.out.b|refine Below.setCell ?_ (by first|omega|(simp;done)|(simp;omega)) _|refine Below.alloc ?_ (by first|omega|(simp;done)|(simp;omega)) _)
end Go.Proofs.YtclpnafiiobfhaaGreatDoor

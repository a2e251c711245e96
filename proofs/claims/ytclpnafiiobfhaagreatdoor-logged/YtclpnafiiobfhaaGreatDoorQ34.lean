import Derived.Test.YtclpnafiiobfhaaGreatDoorQ33
set_option linter.unusedVariables false
set_option linter.unusedSimpArgs false
set_option maxRecDepth 20000
set_option maxHeartbeats 12800000
namespace Go.Proofs.YtclpnafiiobfhaaGreatDoor
open Go.RowKit
theorem zOq {T mb room births n:Nat} {v:Value} {f:Nat->En} (w:World) (h:zAK w T mb v room births n f) (k:Ky) (hk:k.Wf) (x:Fl) (hro:n<room) (hbi:births+1<18446744073709551616) (he:∀i,i<n->(f i).k≠k):
 Calls Tryz.prog 156 #[.pointer (some ⟨T,0,none⟩),.agg k.cells,.agg x.cells] w fun e w'=>e= .returned (.bool false)/\∃v',zAK w' T mb v' room (births+1) (n+1) (Hp.add rkE n f ⟨k,x,births⟩)/\Trn (Ows T mb v) w w'/\∀y,Ows T mb v' y->Ows T mb v y\/w.heap.size<=y:=by
 obtain⟨F2,hF2⟩:∃F2,Hp.add rkE n f ⟨k,x,births⟩=F2:=⟨_,rfl⟩;rw[hF2];have HF2:=hid hF2;obtain⟨pp,cc,hv⟩:=h.row.form;have hnn:n<=64:=Nat.le_trans h.le h.big;obtain⟨W0,hW0⟩:∃W0,(w.alloc (.cells k.cells 240)).alloc (.cells x.cells 241)=W0:=⟨_,rfl⟩;have HB0:Hid (Below w.heap.size w W0):=by rw[<-hW0];exact(bal _ _).alloc (by simp) _
 have hz0:W0.heap.size=w.heap.size+2:=by rw[<-hW0];simp
 obtain⟨W1,hW1⟩:∃W1,W0.drew=W1:=⟨_,rfl⟩;obtain⟨W2,hW2⟩:∃W2,W1.drew=W2:=⟨_,rfl⟩;have HW0:=hid hW0;have HW1:=hid hW1;have HW2:=hid hW2;have B01:Below W0.heap.size W0 W1:=by rw[<-hW1];exact Below.drew (Below.refl _ _)
 have B12:Below W1.heap.size W1 W2:=by rw[<-hW2];exact Below.drew (Below.refl _ _)
 have HC0:=hid (h.below HB0.out);have HC1:=hid (HC0.out.below B01);have HC2:=hid (HC1.out.below B12);have HB2:=hid ((HB0.out.trans (B01.mono HB0.out.size)).trans (B12.mono (Nat.le_trans HB0.out.size B01.size)));have HZ2:Hid (w.heap.size+2<=W2.heap.size):=by have a:=B01.size;have b:=B12.size;show w.heap.size+2<=W2.heap.size;omega
 have HBK0:Hid (∀j y,k.cells[j]? =some y->W0.cell? ⟨w.heap.size,j,none⟩=some y):=fun j y hy=>by rw[<-hW0,World.cell?_alloc_lt _ _ _ (by simp),World.cell?_alloc_at _ _ _ _ rfl];exact hy
 have HBX0:Hid (∀j y,x.cells[j]? =some y->W0.cell? ⟨w.heap.size+1,j,none⟩=some y):=fun j y hy=>by rw[<-hW0,World.cell?_alloc_at _ _ _ _ (by simp)];exact hy
 have hlk:∀(p:Addr),p.block<w.heap.size+2->W2.cell? p=W0.cell? p:=fun p hp=>(B12.cell (p:=p) (by have:=B01.size;omega)).trans (B01.cell (p:=p) (by omega))
 have HBK:Hid (∀j y,k.cells[j]? =some y->W2.cell? ⟨w.heap.size,j,none⟩=some y):=fun j y hy=>(hlk ⟨w.heap.size,j,none⟩ (by show w.heap.size<_;omega)).trans (HBK0.out j y hy)
 have HBX:Hid (∀j y,x.cells[j]? =some y->W2.cell? ⟨w.heap.size+1,j,none⟩=some y):=fun j y hy=>(hlk ⟨w.heap.size+1,j,none⟩ (by show w.heap.size+1<_;omega)).trans (HBX0.out j y hy)
 have HL:=hid (Plc.look_none HC0.out.map.drew hk (fun i q=>he i q.1 q.2));have hOW:∀y,Ows T mb v y->y<w.heap.size:=fun y q=>by
  rcases q with rfl|rfl|q
  ·exact h.blk.lt
  ·exact h.map.lt
  ·exact h.row.lt y q
 have HOW:=hid hOW;have HEN:=hid (And.intro hk he);have hrq:((n:Int) == (room:Int))=false:=by simp;omega
 have hT2:=HC0.out.blk.cell 2 _ rfl;have hT3:W1.cell? ⟨T,3,none⟩=some (.slice pp n cc):=by rw[<-hv];exact HC1.out.blk.cell 3 _ rfl
 have hT0:=HC1.out.blk.cell 0 _ rfl;clear h hk he hF2 hW0 hW1 hW2 B01 B12 hlk hOW hv;obtain⟨la,lp,ha,hp,kp⟩:=k;obtain⟨xa,xb,xp,xs,xd,xrep,xclo,xu⟩:=x;have hL:=HL.out;have b0:=HBK0.out 0 _ rfl;have b1:=HBK0.out 1 _ rfl;have b2:=HBK0.out 2 _ rfl;have b3:=HBK0.out 3 _ rfl;have b4:=HBK0.out 4 _ rfl;dsimp only[Ky.cells,Fl.cells] at hL HW0 ⊢;clear HBK0 HBX0 HL hz0;go_enter Tryz.func156,Tryz.ntmps156;go_upto_region 1 with fail
 rw[HW0.out];go_big_region;go_upto_region 6 with fail
 rw[HW1.out];clear hL b0 b1 b2 b3 b4 hT2;go_big_region;go_upto_region 9 with fail
 rw[HW2.out];clear hT0 hT3;obtain⟨w5,hw5⟩:∃w5,W2=w5:=⟨_,rfl⟩;have HC5:Hid (zAK w5 T mb v room births n f):=by rw[<-hw5];exact HC2.out
 have T5:Hid (Trn (Ows T mb v) W2 w5):=by rw[<-hw5];exact Trn.refl _ _
 have hzz:=HZ2.out;have HK5:Hid (∀j y,(Ky.mk la lp ha hp kp).cells[j]? =some y->w5.cell? ⟨w.heap.size,j,none⟩=some y):=by rw[<-hw5];exact HBK.out
 have HX5:Hid (∀j y,(Fl.mk xa xb xp xs xd xrep xclo xu).cells[j]? =some y->w5.cell? ⟨w.heap.size+1,j,none⟩=some y):=by rw[<-hw5];exact HBX.out
 rw[hw5];clear hw5;have b0:=HK5.out 0 _ rfl;have b1:=HK5.out 1 _ rfl;have b2:=HK5.out 2 _ rfl;have b3:=HK5.out 3 _ rfl;have b4:=HK5.out 4 _ rfl;have x0:=HX5.out 0 _ rfl;have x1:=HX5.out 1 _ rfl;have x2:=HX5.out 2 _ rfl;have x3:=HX5.out 3 _ rfl;have x4:=HX5.out 4 _ rfl;have x5:=HX5.out 5 _ rfl;have x6:=HX5.out 6 _ rfl;have x7:=HX5.out 7 _ rfl;have hT1:=HC5.out.blk.cell 1 _ rfl;have HAD:Hid (Calls Tryz.prog 181 #[.pointer (some ⟨T,0,none⟩),.agg #[.int .u32 la,.int .u16 lp,.int .u32 ha,.int .u16 hp,.int .u8 kp,.int .u32 xa,.int .u32 xb,.int .u8 xp,.int .u16 xs,.int .u16 xd,.bool xrep,.bool xclo,.int .u64 (xu:Int),.int .u64 (births:Int)]] w5.drew fun r w'=>r= .returned (.tuple #[])/\∃v',zAK w' T mb v' room births (n+1) F2/\Trn (Ows T mb v) w5.drew w'/\∀x,Ows T mb v' x->Ows T mb v x\/w5.drew.heap.size<=x):=by
  have q:=zKG w5.drew (HC5.out.below (Below.drew (Below.refl _ _))) ⟨⟨la,lp,ha,hp,kp⟩,⟨xa,xb,xp,xs,xd,xrep,xclo,xu⟩,births⟩ hro HEN.out.1 HEN.out.2 (by show births<_;omega);rw[HF2.out] at q;exact q
 clear HK5 HX5 HBK HBX;go_cut [52] from 44 to 51 (fun _ w'=>∃v',zAK w' T mb v' room births (n+1) F2/\Trn (Ows T mb v) w5.drew w'/\∀x,Ows T mb v' x->Ows T mb v x\/w5.drew.heap.size<=x)
 case first=>
  go_region_with (go_at_call 181;refine HAD.out.mono ?_;rintro e' w6 ⟨rfl,h6⟩)
  all_goals
   go_wp2_with fail;go_meet;exact h6
 obtain⟨v',h6,t6,o6⟩:=hcut;have H6:=hid h6;have T6:=hid t6;have O6:=hid o6;have hT1':=h6.blk.cell 1 _ rfl;have fT1:=h6.blk.frozen 1;have HBI:Hid (_/\_):=h6.births (births+1);have hwr:IntKind.u64.wrap ((births:Int)+1)=((births+1:Nat):Int):=by rw[IntKind.wrap_u64];omega
 clear h6 t6 o6 hT1 b0 b1 b2 b3 b4 x0 x1 x2 x3 x4 x5 x6 x7 HAD;go_wp2_with fail;go_ret;have t7:Trn (Ows T mb v) w wc:=((Trn.below HB2.out).trans (T5.out.trans ((Trn.drew _ _).trans T6.out (fun _ _ q=>q)) (fun _ _ q=>q)) (fun _ _ q=>q));refine⟨rfl,v',HBI.out.1,t7.trans HBI.out.2 (fun y hy q=> ?_),fun y q=> ?_⟩
 ·rcases O6.out y q with z|z
  ·exact z
  ·have a:=T5.out.size;have b:=HZ2.out;have z:w5.heap.size<=y:=z;omega
 ·rcases O6.out y q with z|z
  ·exact .inl z
  ·exact .inr (by have a:=T5.out.size;have b:=HZ2.out;have z:w5.heap.size<=y:=z;omega)
end Go.Proofs.YtclpnafiiobfhaaGreatDoor

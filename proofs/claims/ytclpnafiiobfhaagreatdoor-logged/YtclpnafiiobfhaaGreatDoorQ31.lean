import Derived.Test.YtclpnafiiobfhaaGreatDoorQ26
set_option linter.unusedVariables false
set_option linter.unusedSimpArgs false
set_option maxHeartbeats 6400000
set_option maxRecDepth 20000
namespace Go.Proofs.YtclpnafiiobfhaaGreatDoor
open Go.RowKit
theorem zAF {L:List Value} (h:L.all (·.oneCell')=true):∀v ∈ L,v.oneCell'=true:=by simpa using h
theorem zGz (w:World) (t:TypeId) (A B:List Value) (hA:∀v ∈ A,v.oneCell'=true) (hB:∀v ∈ B,v.oneCell'=true):Blk t ((w.alloc (.cells A.toArray t)).alloc (.cells B.toArray t)).drew w.heap.size A/\Blk t ((w.alloc (.cells A.toArray t)).alloc (.cells B.toArray t)).drew (w.heap.size+1) B:=
 ⟨(Blk.made w t A hA).alloc _,by
   have h:=Blk.made (w.alloc (.cells A.toArray t)) t B hB;rw[show(w.alloc (.cells A.toArray t)).heap.size=w.heap.size+1 from by simp] at h;exact h⟩
theorem zH2 (w:World) (A B:Obj):Below w.heap.size w ((w.alloc A).alloc B).drew:=((bal _ _).alloc (by simp) _).drew
theorem zNG (a b p s d u:Int) (rep clo:Bool) (w:World):
 Calls Tryz.prog 274 #[.agg #[.int .u32 a,.int .u32 b,.int .u8 p,.int .u16 s,.int .u16 d,.bool rep,.bool clo,.int .u64 u]] w fun e w'=>e= .returned (.int .u64 u)/\Below w.heap.size w w':=by
 go_enter Tryz.func274,Tryz.ntmps274;go_wp2_with fail;go_ret;exact⟨rfl,bal _ _⟩
theorem zJH (T g n cap i j:Nat) (xla xlp xha xhp xkp xa xb xp xs xd xu xn yla ylp yha yhp ykp ya yb yp ys yd yu yn:Int) (xrep xclo yrep yclo:Bool) (w:World) (hT:w.cell? ⟨T,3,none⟩=some (.slice (some ⟨g,0,none⟩) n cap)) (hi:i<n) (hj:j<n) (hx0:w.cell? ⟨g,i*14,none⟩=some (.int .u32 xla)) (hx1:w.cell? ⟨g,i*14+1,none⟩=some (.int .u16 xlp)) (hx2:w.cell? ⟨g,i*14+2,none⟩=some (.int .u32 xha)) (hx3:w.cell? ⟨g,i*14+3,none⟩=some (.int .u16 xhp)) (hx4:w.cell? ⟨g,i*14+4,none⟩=some (.int .u8 xkp)) (hx5:w.cell? ⟨g,i*14+5,none⟩=some (.int .u32 xa)) (hx6:w.cell? ⟨g,i*14+6,none⟩=some (.int .u32 xb)) (hx7:w.cell? ⟨g,i*14+7,none⟩=some (.int .u8 xp)) (hx8:w.cell? ⟨g,i*14+8,none⟩=some (.int .u16 xs)) (hx9:w.cell? ⟨g,i*14+9,none⟩=some (.int .u16 xd)) (hx10:w.cell? ⟨g,i*14+10,none⟩=some (.bool xrep)) (hx11:w.cell? ⟨g,i*14+11,none⟩=some (.bool xclo)) (hx12:w.cell? ⟨g,i*14+12,none⟩=some (.int .u64 xu)) (hx13:w.cell? ⟨g,i*14+13,none⟩=some (.int .u64 xn)) (hy0:w.cell? ⟨g,j*14,none⟩=some (.int .u32 yla)) (hy1:w.cell? ⟨g,j*14+1,none⟩=some (.int .u16 ylp)) (hy2:w.cell? ⟨g,j*14+2,none⟩=some (.int .u32 yha)) (hy3:w.cell? ⟨g,j*14+3,none⟩=some (.int .u16 yhp)) (hy4:w.cell? ⟨g,j*14+4,none⟩=some (.int .u8 ykp)) (hy5:w.cell? ⟨g,j*14+5,none⟩=some (.int .u32 ya)) (hy6:w.cell? ⟨g,j*14+6,none⟩=some (.int .u32 yb)) (hy7:w.cell? ⟨g,j*14+7,none⟩=some (.int .u8 yp)) (hy8:w.cell? ⟨g,j*14+8,none⟩=some (.int .u16 ys)) (hy9:w.cell? ⟨g,j*14+9,none⟩=some (.int .u16 yd)) (hy10:w.cell? ⟨g,j*14+10,none⟩=some (.bool yrep)) (hy11:w.cell? ⟨g,j*14+11,none⟩=some (.bool yclo)) (hy12:w.cell? ⟨g,j*14+12,none⟩=some (.int .u64 yu)) (hy13:w.cell? ⟨g,j*14+13,none⟩=some (.int .u64 yn)):
 Calls Tryz.prog 182 #[.pointer (some ⟨T,0,none⟩),.int .i64 (i:Int),.int .i64 (j:Int)] w fun e w'=>e= .returned (.bool (if xu=yu then decide (xn<yn) else decide (xu<yu)))/\Below w.heap.size w w':=by
 obtain⟨qq,hqq⟩:∃qq,(if xu=yu then decide (xn<yn) else decide (xu<yu))=qq:=⟨_,rfl⟩;rw[hqq];have HQ:=hid hqq;clear hqq;have hmt:∀(x:Value) (W:World),(Go.method 518 241 x "End").run Tryz.prog W= .ok (274,x) W:=fun x W=>by kernel_rfl
 have i1:(0:Int)<=(i:Int):=by omega
 have i2:(i:Int)<(n:Int):=by omega
 have j1:(0:Int)<=(j:Int):=by omega
 have j2:(j:Int)<(n:Int):=by omega
 have ne0:=World.new_ne w ⟨T,3,none⟩ hT;have ne1:=World.new_ne w ⟨g,i*14,none⟩ hx0;go_enter Tryz.func182,Tryz.ntmps182;go_upto_region 1 with fail
 go_cut [7,8] from 9 to 22 (fun x y w'=>∃g7 g8,x= .pointer (some ⟨g7,0,none⟩)/\y= .pointer (some ⟨g8,0,none⟩)/\Blk 265 w' g7 [.int .u32 xla,.int .u16 xlp,.int .u32 xha,.int .u16 xhp,.int .u8 xkp,.int .u32 xa,.int .u32 xb,.int .u8 xp,.int .u16 xs,.int .u16 xd,.bool xrep,.bool xclo,.int .u64 xu,.int .u64 xn]/\Blk 265 w' g8 [.int .u32 yla,.int .u16 ylp,.int .u32 yha,.int .u16 yhp,.int .u8 ykp,.int .u32 ya,.int .u32 yb,.int .u8 yp,.int .u16 ys,.int .u16 yd,.bool yrep,.bool yclo,.int .u64 yu,.int .u64 yn]/\Below w.heap.size w w')
 case first=>
  go_region_held3 (fun w'=>w'.cell? ⟨T,3,none⟩=some (.slice (some ⟨g,0,none⟩) n cap)/\w'.cell? ⟨g,i*14,none⟩=some (.int .u32 xla)/\w'.cell? ⟨g,i*14+1,none⟩=some (.int .u16 xlp)/\w'.cell? ⟨g,i*14+2,none⟩=some (.int .u32 xha)/\w'.cell? ⟨g,i*14+3,none⟩=some (.int .u16 xhp)/\w'.cell? ⟨g,i*14+4,none⟩=some (.int .u8 xkp)/\w'.cell? ⟨g,i*14+5,none⟩=some (.int .u32 xa)/\w'.cell? ⟨g,i*14+6,none⟩=some (.int .u32 xb)/\w'.cell? ⟨g,i*14+7,none⟩=some (.int .u8 xp)/\w'.cell? ⟨g,i*14+8,none⟩=some (.int .u16 xs)/\w'.cell? ⟨g,i*14+9,none⟩=some (.int .u16 xd)/\w'.cell? ⟨g,i*14+10,none⟩=some (.bool xrep)/\w'.cell? ⟨g,i*14+11,none⟩=some (.bool xclo)/\w'.cell? ⟨g,i*14+12,none⟩=some (.int .u64 xu)/\w'.cell? ⟨g,i*14+13,none⟩=some (.int .u64 xn)/\w'.cell? ⟨g,j*14,none⟩=some (.int .u32 yla)/\w'.cell? ⟨g,j*14+1,none⟩=some (.int .u16 ylp)/\w'.cell? ⟨g,j*14+2,none⟩=some (.int .u32 yha)/\w'.cell? ⟨g,j*14+3,none⟩=some (.int .u16 yhp)/\w'.cell? ⟨g,j*14+4,none⟩=some (.int .u8 ykp)/\w'.cell? ⟨g,j*14+5,none⟩=some (.int .u32 ya)/\w'.cell? ⟨g,j*14+6,none⟩=some (.int .u32 yb)/\w'.cell? ⟨g,j*14+7,none⟩=some (.int .u8 yp)/\w'.cell? ⟨g,j*14+8,none⟩=some (.int .u16 ys)/\w'.cell? ⟨g,j*14+9,none⟩=some (.int .u16 yd)/\w'.cell? ⟨g,j*14+10,none⟩=some (.bool yrep)/\w'.cell? ⟨g,j*14+11,none⟩=some (.bool yclo)/\w'.cell? ⟨g,j*14+12,none⟩=some (.int .u64 yu)/\w'.cell? ⟨g,j*14+13,none⟩=some (.int .u64 yn)) (go_keep) (fail)
  all_goals
   go_wp2_with fail;go_meet
   first
    |exact⟨_,_,rfl,rfl,(zGz w _ _ _ (zAF rfl) (zAF rfl)).1,(zGz w _ _ _ (zAF rfl) (zAF rfl)).2,zH2 w _ _⟩
    |exact⟨_,_,rfl,rfl,(zGz w _ _ _ (zAF rfl) (zAF rfl)).2,(zGz w _ _ _ (zAF rfl) (zAF rfl)).1,zH2 w _ _⟩
 obtain⟨g7,g8,rfl,rfl,hA,hB,hW⟩:=hcut
 rename World=>W0
 have A7:=hid hA;have A8:=hid hB;have HW:=hid hW;clear hA hB hW ne0 ne1 hT hx0 hy0 hx1 hy1 hx2 hy2 hx3 hy3 hx4 hy4 hx5 hy5 hx6 hy6 hx7 hy7 hx8 hy8 hx9 hy9 hx10 hy10 hx11 hy11 hx12 hy12 hx13 hy13;have p5:=A7.out.cell 5 _ rfl;have q5:=A8.out.cell 5 _ rfl;have p6:=A7.out.cell 6 _ rfl;have q6:=A8.out.cell 6 _ rfl;have p7:=A7.out.cell 7 _ rfl;have q7:=A8.out.cell 7 _ rfl;have p8:=A7.out.cell 8 _ rfl;have q8:=A8.out.cell 8 _ rfl;have p9:=A7.out.cell 9 _ rfl;have q9:=A8.out.cell 9 _ rfl;have p10:=A7.out.cell 10 _ rfl;have q10:=A8.out.cell 10 _ rfl;have p11:=A7.out.cell 11 _ rfl;have q11:=A8.out.cell 11 _ rfl;have p12:=A7.out.cell 12 _ rfl;have q12:=A8.out.cell 12 _ rfl;have p13:=A7.out.cell 13 _ rfl;have q13:=A8.out.cell 13 _ rfl;have zc7:=A7.out.lt;have zc8:=A8.out.lt;have HEN:Hid (∀(a b p s d u:Int) (rep clo:Bool) (W:World),Below W0.heap.size W0 W->Calls Tryz.prog 274 #[.agg #[.int .u32 a,.int .u32 b,.int .u8 p,.int .u16 s,.int .u16 d,.bool rep,.bool clo,.int .u64 u]] W fun e w'=>e= .returned (.int .u64 u)/\Below W0.heap.size W0 w'/\w'.cell? ⟨g7,5,none⟩=some (.int .u32 xa)/\w'.cell? ⟨g7,6,none⟩=some (.int .u32 xb)/\w'.cell? ⟨g7,7,none⟩=some (.int .u8 xp)/\w'.cell? ⟨g7,8,none⟩=some (.int .u16 xs)/\w'.cell? ⟨g7,9,none⟩=some (.int .u16 xd)/\w'.cell? ⟨g7,10,none⟩=some (.bool xrep)/\w'.cell? ⟨g7,11,none⟩=some (.bool xclo)/\w'.cell? ⟨g7,12,none⟩=some (.int .u64 xu)/\w'.cell? ⟨g8,5,none⟩=some (.int .u32 ya)/\w'.cell? ⟨g8,6,none⟩=some (.int .u32 yb)/\w'.cell? ⟨g8,7,none⟩=some (.int .u8 yp)/\w'.cell? ⟨g8,8,none⟩=some (.int .u16 ys)/\w'.cell? ⟨g8,9,none⟩=some (.int .u16 yd)/\w'.cell? ⟨g8,10,none⟩=some (.bool yrep)/\w'.cell? ⟨g8,11,none⟩=some (.bool yclo)/\w'.cell? ⟨g8,12,none⟩=some (.int .u64 yu)):=fun a b p s d u rep clo W hW=>(zNG a b p s d u rep clo W).mono fun e w' ⟨he,hb⟩=>by
  have h1:Below W0.heap.size W0 w':=hW.trans (hb.mono hW.size);exact⟨he,h1,(h1.cell (p:=⟨g7,5,none⟩) zc7).trans p5,(h1.cell (p:=⟨g7,6,none⟩) zc7).trans p6,(h1.cell (p:=⟨g7,7,none⟩) zc7).trans p7,(h1.cell (p:=⟨g7,8,none⟩) zc7).trans p8,(h1.cell (p:=⟨g7,9,none⟩) zc7).trans p9,(h1.cell (p:=⟨g7,10,none⟩) zc7).trans p10,(h1.cell (p:=⟨g7,11,none⟩) zc7).trans p11,(h1.cell (p:=⟨g7,12,none⟩) zc7).trans p12,(h1.cell (p:=⟨g8,5,none⟩) zc8).trans q5,(h1.cell (p:=⟨g8,6,none⟩) zc8).trans q6,(h1.cell (p:=⟨g8,7,none⟩) zc8).trans q7,(h1.cell (p:=⟨g8,8,none⟩) zc8).trans q8,(h1.cell (p:=⟨g8,9,none⟩) zc8).trans q9,(h1.cell (p:=⟨g8,10,none⟩) zc8).trans q10,(h1.cell (p:=⟨g8,11,none⟩) zc8).trans q11,(h1.cell (p:=⟨g8,12,none⟩) zc8).trans q12⟩
 clear A7 A8;go_upto_region 2 with fail
 go_cut [31] from 23 to 30 (fun x w'=>x= .bool (xu !=yu)/\Below W0.heap.size W0 w')
 case first=>
  go_region_with (go_at_call 274;refine(HEN.out _ _ _ _ _ _ _ _ _ (by first|assumption|exact(Below.refl _ _)|exact(Below.refl _ _).drew|(apply Below.drew;assumption))).mono ?_;rintro e w' ⟨rfl,hb',m0,m1,m2,m3,m4,m5,m6,m7,m8,m9,m10,m11,m12,m13,m14,m15⟩)
  all_goals
   go_wp2_with fail;go_meet;exact⟨rfl,hb'⟩
 obtain⟨rfl,hb3⟩:=hcut;have v5:=(hb3.cell (p:=⟨g7,5,none⟩) zc7).trans p5;have w5:=(hb3.cell (p:=⟨g8,5,none⟩) zc8).trans q5;have v6:=(hb3.cell (p:=⟨g7,6,none⟩) zc7).trans p6;have w6:=(hb3.cell (p:=⟨g8,6,none⟩) zc8).trans q6;have v7:=(hb3.cell (p:=⟨g7,7,none⟩) zc7).trans p7;have w7:=(hb3.cell (p:=⟨g8,7,none⟩) zc8).trans q7;have v8:=(hb3.cell (p:=⟨g7,8,none⟩) zc7).trans p8;have w8:=(hb3.cell (p:=⟨g8,8,none⟩) zc8).trans q8;have v9:=(hb3.cell (p:=⟨g7,9,none⟩) zc7).trans p9;have w9:=(hb3.cell (p:=⟨g8,9,none⟩) zc8).trans q9;have v10:=(hb3.cell (p:=⟨g7,10,none⟩) zc7).trans p10;have w10:=(hb3.cell (p:=⟨g8,10,none⟩) zc8).trans q10;have v11:=(hb3.cell (p:=⟨g7,11,none⟩) zc7).trans p11;have w11:=(hb3.cell (p:=⟨g8,11,none⟩) zc8).trans q11;have v12:=(hb3.cell (p:=⟨g7,12,none⟩) zc7).trans p12;have w12:=(hb3.cell (p:=⟨g8,12,none⟩) zc8).trans q12;have r13:=(hb3.cell (p:=⟨g7,13,none⟩) zc7).trans p13;have s13:=(hb3.cell (p:=⟨g8,13,none⟩) zc8).trans q13;have HB3:=hid (HW.out.trans (hb3.mono HW.out.size))
 by_cases hq:xu=yu
 ·have hq1:(xu !=yu)=false:=by simpa using hq
  have HH:Hid (xu=yu):=hq;clear hq;go_wp2_with fail;go_ret;exact⟨by rw[<-HQ.out,if_pos HH.out];rfl,HB3.out⟩
 ·have hq1:(xu !=yu)=true:=by simpa using hq
  have HH:Hid (¬xu=yu):=hq;clear hq;rw[hq1];go_upto_region 3 with fail
  go_cut [6] from 32 to 40 (fun x w'=>x= .bool (decide (xu<yu))/\Below W0.heap.size W0 w')
  case first=>
   go_region_with (go_at_call 274;refine(HEN.out _ _ _ _ _ _ _ _ _ (by first|assumption|(apply Below.drew;assumption))).mono ?_;rintro e w' ⟨rfl,hb',m0,m1,m2,m3,m4,m5,m6,m7,m8,m9,m10,m11,m12,m13,m14,m15⟩)
   all_goals
    go_wp2_with fail;go_meet;exact⟨rfl,hb'⟩
  obtain⟨rfl,hb4⟩:=hcut;go_wp2_with fail;go_ret;exact⟨by rw[<-HQ.out,if_neg HH.out];rfl,HW.out.trans (hb4.mono HW.out.size)⟩
end Go.Proofs.YtclpnafiiobfhaaGreatDoor

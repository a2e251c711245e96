import Derived.Test.YtclpnafiiobfhaaGreatDoorQ27
set_option linter.unusedVariables false
set_option linter.unusedSimpArgs false
set_option maxRecDepth 20000
set_option maxHeartbeats 12800000
namespace Go.Proofs.YtclpnafiiobfhaaGreatDoor
open Go.RowKit
theorem swap_ne (T mb g n cap room births i j:Nat) (f:Nat->En) (xla xlp xha xhp xkp xa xb xp xs xd yla ylp yha yhp ykp ya yb yp ys yd:Int) (xu xn yu yn:Nat) (xrep xclo yrep yclo:Bool) (w:World) (h:TabAt w T mb (.slice (some ⟨g,0,none⟩) n cap) room births n f) (hi:i<n) (hx:f i=⟨⟨xla,xlp,xha,xhp,xkp⟩,⟨xa,xb,xp,xs,xd,xrep,xclo,xu⟩,xn⟩) (hj:j<n) (hij:i≠j) (hy:f j=⟨⟨yla,ylp,yha,yhp,ykp⟩,⟨ya,yb,yp,ys,yd,yrep,yclo,yu⟩,yn⟩):
 Calls Tryz.prog 157 #[.pointer (some ⟨T,0,none⟩),.int .i64 (i:Int),.int .i64 (j:Int)] w fun e w'=>e= .returned (.tuple #[])/\TabAt w' T mb (.slice (some ⟨g,0,none⟩) n cap) room births n (Hp.swp f i j)/\Trn (Ows T mb (.slice (some ⟨g,0,none⟩) n cap)) w w':=by
 have hT2:=h.blk.cell 2 _ rfl
 have hT3:=h.blk.cell 3 _ rfl
 obtain⟨gT,gm⟩:=h.tr g rfl
 have HT:Hid (TabAt w T mb (.slice (some ⟨g,0,none⟩) n cap) room births n f):=h
 have HE:Hid (EntsAt w g n cap f):=by
  rcases h.row with⟨q,_⟩|⟨g',cap',q,r⟩
  ·cases q
  ·cases q;exact r
 have hfz:=HE.out.frozen
 have HX:Hid (f i=⟨⟨xla,xlp,xha,xhp,xkp⟩,⟨xa,xb,xp,xs,xd,xrep,xclo,xu⟩,xn⟩):=hx
 have HLX:Hid ((f i).l=[.int .u32 xla,.int .u16 xlp,.int .u32 xha,.int .u16 xhp,.int .u8 xkp,.int .u32 xa,.int .u32 xb,.int .u8 xp,.int .u16 xs,.int .u16 xd,.bool xrep,.bool xclo,.int .u64 (xu:Int),.int .u64 (xn:Int)]):=by have q:=hx;show(f i).l=_;rw[q]
 have HY:Hid (f j=⟨⟨yla,ylp,yha,yhp,ykp⟩,⟨ya,yb,yp,ys,yd,yrep,yclo,yu⟩,yn⟩):=hy
 have HLY:Hid ((f j).l=[.int .u32 yla,.int .u16 ylp,.int .u32 yha,.int .u16 yhp,.int .u8 ykp,.int .u32 ya,.int .u32 yb,.int .u8 yp,.int .u16 ys,.int .u16 yd,.bool yrep,.bool yclo,.int .u64 (yu:Int),.int .u64 (yn:Int)]):=by have q:=hy;show(f j).l=_;rw[q]
 have x0:w.cell? ⟨g,i*14,none⟩=some (.int .u32 xla):=ent_cell HE.out hi [.int .u32 xla,.int .u16 xlp,.int .u32 xha,.int .u16 xhp,.int .u8 xkp,.int .u32 xa,.int .u32 xb,.int .u8 xp,.int .u16 xs,.int .u16 xd,.bool xrep,.bool xclo,.int .u64 (xu:Int),.int .u64 (xn:Int)] HLX.out 0 _ rfl
 have x1:w.cell? ⟨g,i*14+1,none⟩=some (.int .u16 xlp):=ent_cell HE.out hi [.int .u32 xla,.int .u16 xlp,.int .u32 xha,.int .u16 xhp,.int .u8 xkp,.int .u32 xa,.int .u32 xb,.int .u8 xp,.int .u16 xs,.int .u16 xd,.bool xrep,.bool xclo,.int .u64 (xu:Int),.int .u64 (xn:Int)] HLX.out 1 _ rfl
 have x2:w.cell? ⟨g,i*14+2,none⟩=some (.int .u32 xha):=ent_cell HE.out hi [.int .u32 xla,.int .u16 xlp,.int .u32 xha,.int .u16 xhp,.int .u8 xkp,.int .u32 xa,.int .u32 xb,.int .u8 xp,.int .u16 xs,.int .u16 xd,.bool xrep,.bool xclo,.int .u64 (xu:Int),.int .u64 (xn:Int)] HLX.out 2 _ rfl
 have x3:w.cell? ⟨g,i*14+3,none⟩=some (.int .u16 xhp):=ent_cell HE.out hi [.int .u32 xla,.int .u16 xlp,.int .u32 xha,.int .u16 xhp,.int .u8 xkp,.int .u32 xa,.int .u32 xb,.int .u8 xp,.int .u16 xs,.int .u16 xd,.bool xrep,.bool xclo,.int .u64 (xu:Int),.int .u64 (xn:Int)] HLX.out 3 _ rfl
 have x4:w.cell? ⟨g,i*14+4,none⟩=some (.int .u8 xkp):=ent_cell HE.out hi [.int .u32 xla,.int .u16 xlp,.int .u32 xha,.int .u16 xhp,.int .u8 xkp,.int .u32 xa,.int .u32 xb,.int .u8 xp,.int .u16 xs,.int .u16 xd,.bool xrep,.bool xclo,.int .u64 (xu:Int),.int .u64 (xn:Int)] HLX.out 4 _ rfl
 have x5:w.cell? ⟨g,i*14+5,none⟩=some (.int .u32 xa):=ent_cell HE.out hi [.int .u32 xla,.int .u16 xlp,.int .u32 xha,.int .u16 xhp,.int .u8 xkp,.int .u32 xa,.int .u32 xb,.int .u8 xp,.int .u16 xs,.int .u16 xd,.bool xrep,.bool xclo,.int .u64 (xu:Int),.int .u64 (xn:Int)] HLX.out 5 _ rfl
 have x6:w.cell? ⟨g,i*14+6,none⟩=some (.int .u32 xb):=ent_cell HE.out hi [.int .u32 xla,.int .u16 xlp,.int .u32 xha,.int .u16 xhp,.int .u8 xkp,.int .u32 xa,.int .u32 xb,.int .u8 xp,.int .u16 xs,.int .u16 xd,.bool xrep,.bool xclo,.int .u64 (xu:Int),.int .u64 (xn:Int)] HLX.out 6 _ rfl
 have x7:w.cell? ⟨g,i*14+7,none⟩=some (.int .u8 xp):=ent_cell HE.out hi [.int .u32 xla,.int .u16 xlp,.int .u32 xha,.int .u16 xhp,.int .u8 xkp,.int .u32 xa,.int .u32 xb,.int .u8 xp,.int .u16 xs,.int .u16 xd,.bool xrep,.bool xclo,.int .u64 (xu:Int),.int .u64 (xn:Int)] HLX.out 7 _ rfl
 have x8:w.cell? ⟨g,i*14+8,none⟩=some (.int .u16 xs):=ent_cell HE.out hi [.int .u32 xla,.int .u16 xlp,.int .u32 xha,.int .u16 xhp,.int .u8 xkp,.int .u32 xa,.int .u32 xb,.int .u8 xp,.int .u16 xs,.int .u16 xd,.bool xrep,.bool xclo,.int .u64 (xu:Int),.int .u64 (xn:Int)] HLX.out 8 _ rfl
 have x9:w.cell? ⟨g,i*14+9,none⟩=some (.int .u16 xd):=ent_cell HE.out hi [.int .u32 xla,.int .u16 xlp,.int .u32 xha,.int .u16 xhp,.int .u8 xkp,.int .u32 xa,.int .u32 xb,.int .u8 xp,.int .u16 xs,.int .u16 xd,.bool xrep,.bool xclo,.int .u64 (xu:Int),.int .u64 (xn:Int)] HLX.out 9 _ rfl
 have x10:w.cell? ⟨g,i*14+10,none⟩=some (.bool xrep):=ent_cell HE.out hi [.int .u32 xla,.int .u16 xlp,.int .u32 xha,.int .u16 xhp,.int .u8 xkp,.int .u32 xa,.int .u32 xb,.int .u8 xp,.int .u16 xs,.int .u16 xd,.bool xrep,.bool xclo,.int .u64 (xu:Int),.int .u64 (xn:Int)] HLX.out 10 _ rfl
 have x11:w.cell? ⟨g,i*14+11,none⟩=some (.bool xclo):=ent_cell HE.out hi [.int .u32 xla,.int .u16 xlp,.int .u32 xha,.int .u16 xhp,.int .u8 xkp,.int .u32 xa,.int .u32 xb,.int .u8 xp,.int .u16 xs,.int .u16 xd,.bool xrep,.bool xclo,.int .u64 (xu:Int),.int .u64 (xn:Int)] HLX.out 11 _ rfl
 have x12:w.cell? ⟨g,i*14+12,none⟩=some (.int .u64 (xu:Int)):=ent_cell HE.out hi [.int .u32 xla,.int .u16 xlp,.int .u32 xha,.int .u16 xhp,.int .u8 xkp,.int .u32 xa,.int .u32 xb,.int .u8 xp,.int .u16 xs,.int .u16 xd,.bool xrep,.bool xclo,.int .u64 (xu:Int),.int .u64 (xn:Int)] HLX.out 12 _ rfl
 have x13:w.cell? ⟨g,i*14+13,none⟩=some (.int .u64 (xn:Int)):=ent_cell HE.out hi [.int .u32 xla,.int .u16 xlp,.int .u32 xha,.int .u16 xhp,.int .u8 xkp,.int .u32 xa,.int .u32 xb,.int .u8 xp,.int .u16 xs,.int .u16 xd,.bool xrep,.bool xclo,.int .u64 (xu:Int),.int .u64 (xn:Int)] HLX.out 13 _ rfl
 have y0:w.cell? ⟨g,j*14,none⟩=some (.int .u32 yla):=ent_cell HE.out hj [.int .u32 yla,.int .u16 ylp,.int .u32 yha,.int .u16 yhp,.int .u8 ykp,.int .u32 ya,.int .u32 yb,.int .u8 yp,.int .u16 ys,.int .u16 yd,.bool yrep,.bool yclo,.int .u64 (yu:Int),.int .u64 (yn:Int)] HLY.out 0 _ rfl
 have y1:w.cell? ⟨g,j*14+1,none⟩=some (.int .u16 ylp):=ent_cell HE.out hj [.int .u32 yla,.int .u16 ylp,.int .u32 yha,.int .u16 yhp,.int .u8 ykp,.int .u32 ya,.int .u32 yb,.int .u8 yp,.int .u16 ys,.int .u16 yd,.bool yrep,.bool yclo,.int .u64 (yu:Int),.int .u64 (yn:Int)] HLY.out 1 _ rfl
 have y2:w.cell? ⟨g,j*14+2,none⟩=some (.int .u32 yha):=ent_cell HE.out hj [.int .u32 yla,.int .u16 ylp,.int .u32 yha,.int .u16 yhp,.int .u8 ykp,.int .u32 ya,.int .u32 yb,.int .u8 yp,.int .u16 ys,.int .u16 yd,.bool yrep,.bool yclo,.int .u64 (yu:Int),.int .u64 (yn:Int)] HLY.out 2 _ rfl
 have y3:w.cell? ⟨g,j*14+3,none⟩=some (.int .u16 yhp):=ent_cell HE.out hj [.int .u32 yla,.int .u16 ylp,.int .u32 yha,.int .u16 yhp,.int .u8 ykp,.int .u32 ya,.int .u32 yb,.int .u8 yp,.int .u16 ys,.int .u16 yd,.bool yrep,.bool yclo,.int .u64 (yu:Int),.int .u64 (yn:Int)] HLY.out 3 _ rfl
 have y4:w.cell? ⟨g,j*14+4,none⟩=some (.int .u8 ykp):=ent_cell HE.out hj [.int .u32 yla,.int .u16 ylp,.int .u32 yha,.int .u16 yhp,.int .u8 ykp,.int .u32 ya,.int .u32 yb,.int .u8 yp,.int .u16 ys,.int .u16 yd,.bool yrep,.bool yclo,.int .u64 (yu:Int),.int .u64 (yn:Int)] HLY.out 4 _ rfl
 have y5:w.cell? ⟨g,j*14+5,none⟩=some (.int .u32 ya):=ent_cell HE.out hj [.int .u32 yla,.int .u16 ylp,.int .u32 yha,.int .u16 yhp,.int .u8 ykp,.int .u32 ya,.int .u32 yb,.int .u8 yp,.int .u16 ys,.int .u16 yd,.bool yrep,.bool yclo,.int .u64 (yu:Int),.int .u64 (yn:Int)] HLY.out 5 _ rfl
 have y6:w.cell? ⟨g,j*14+6,none⟩=some (.int .u32 yb):=ent_cell HE.out hj [.int .u32 yla,.int .u16 ylp,.int .u32 yha,.int .u16 yhp,.int .u8 ykp,.int .u32 ya,.int .u32 yb,.int .u8 yp,.int .u16 ys,.int .u16 yd,.bool yrep,.bool yclo,.int .u64 (yu:Int),.int .u64 (yn:Int)] HLY.out 6 _ rfl
 have y7:w.cell? ⟨g,j*14+7,none⟩=some (.int .u8 yp):=ent_cell HE.out hj [.int .u32 yla,.int .u16 ylp,.int .u32 yha,.int .u16 yhp,.int .u8 ykp,.int .u32 ya,.int .u32 yb,.int .u8 yp,.int .u16 ys,.int .u16 yd,.bool yrep,.bool yclo,.int .u64 (yu:Int),.int .u64 (yn:Int)] HLY.out 7 _ rfl
 have y8:w.cell? ⟨g,j*14+8,none⟩=some (.int .u16 ys):=ent_cell HE.out hj [.int .u32 yla,.int .u16 ylp,.int .u32 yha,.int .u16 yhp,.int .u8 ykp,.int .u32 ya,.int .u32 yb,.int .u8 yp,.int .u16 ys,.int .u16 yd,.bool yrep,.bool yclo,.int .u64 (yu:Int),.int .u64 (yn:Int)] HLY.out 8 _ rfl
 have y9:w.cell? ⟨g,j*14+9,none⟩=some (.int .u16 yd):=ent_cell HE.out hj [.int .u32 yla,.int .u16 ylp,.int .u32 yha,.int .u16 yhp,.int .u8 ykp,.int .u32 ya,.int .u32 yb,.int .u8 yp,.int .u16 ys,.int .u16 yd,.bool yrep,.bool yclo,.int .u64 (yu:Int),.int .u64 (yn:Int)] HLY.out 9 _ rfl
 have y10:w.cell? ⟨g,j*14+10,none⟩=some (.bool yrep):=ent_cell HE.out hj [.int .u32 yla,.int .u16 ylp,.int .u32 yha,.int .u16 yhp,.int .u8 ykp,.int .u32 ya,.int .u32 yb,.int .u8 yp,.int .u16 ys,.int .u16 yd,.bool yrep,.bool yclo,.int .u64 (yu:Int),.int .u64 (yn:Int)] HLY.out 10 _ rfl
 have y11:w.cell? ⟨g,j*14+11,none⟩=some (.bool yclo):=ent_cell HE.out hj [.int .u32 yla,.int .u16 ylp,.int .u32 yha,.int .u16 yhp,.int .u8 ykp,.int .u32 ya,.int .u32 yb,.int .u8 yp,.int .u16 ys,.int .u16 yd,.bool yrep,.bool yclo,.int .u64 (yu:Int),.int .u64 (yn:Int)] HLY.out 11 _ rfl
 have y12:w.cell? ⟨g,j*14+12,none⟩=some (.int .u64 (yu:Int)):=ent_cell HE.out hj [.int .u32 yla,.int .u16 ylp,.int .u32 yha,.int .u16 yhp,.int .u8 ykp,.int .u32 ya,.int .u32 yb,.int .u8 yp,.int .u16 ys,.int .u16 yd,.bool yrep,.bool yclo,.int .u64 (yu:Int),.int .u64 (yn:Int)] HLY.out 12 _ rfl
 have y13:w.cell? ⟨g,j*14+13,none⟩=some (.int .u64 (yn:Int)):=ent_cell HE.out hj [.int .u32 yla,.int .u16 ylp,.int .u32 yha,.int .u16 yhp,.int .u8 ykp,.int .u32 ya,.int .u32 yb,.int .u8 yp,.int .u16 ys,.int .u16 yd,.bool yrep,.bool yclo,.int .u64 (yu:Int),.int .u64 (yn:Int)] HLY.out 13 _ rfl
 have i1:(0:Int)<=(i:Int):=by omega
 have i2:(i:Int)<(n:Int):=by omega
 have j1:(0:Int)<=(j:Int):=by omega
 have j2:(j:Int)<(n:Int):=by omega
 have m1:∀m,m<14->¬(i*14=j*14+m):=fun m hm=>by omega
 have m2:∀m,m<14->¬(i*14+m=j*14):=fun m hm=>by omega
 have m3:∀m,m<14->¬(j*14=i*14+m):=fun m hm=>by omega
 have m4:∀m,m<14->¬(j*14+m=i*14):=fun m hm=>by omega
 have m5:¬(j=i):=fun q=>hij q.symm
 have HS:Hid (EntsAt (((w.setCells g (i*14) [.int .u32 yla,.int .u16 ylp,.int .u32 yha,.int .u16 yhp,.int .u8 ykp,.int .u32 ya,.int .u32 yb,.int .u8 yp,.int .u16 ys,.int .u16 yd,.bool yrep,.bool yclo,.int .u64 (yu:Int),.int .u64 (yn:Int)]).setCells g (j*14) [.int .u32 xla,.int .u16 xlp,.int .u32 xha,.int .u16 xhp,.int .u8 xkp,.int .u32 xa,.int .u32 xb,.int .u8 xp,.int .u16 xs,.int .u16 xd,.bool xrep,.bool xclo,.int .u64 (xu:Int),.int .u64 (xn:Int)]).drew) g n cap (Hp.swp f i j)):=swap_ents HE.out hi hj _ _ HLX.out HLY.out
 have HW:Hid (Trn (fun x=>x=g) w (((w.setCells g (i*14) [.int .u32 yla,.int .u16 ylp,.int .u32 yha,.int .u16 yhp,.int .u8 ykp,.int .u32 ya,.int .u32 yb,.int .u8 yp,.int .u16 ys,.int .u16 yd,.bool yrep,.bool yclo,.int .u64 (yu:Int),.int .u64 (yn:Int)]).setCells g (j*14) [.int .u32 xla,.int .u16 xlp,.int .u32 xha,.int .u16 xhp,.int .u8 xkp,.int .u32 xa,.int .u32 xb,.int .u8 xp,.int .u16 xs,.int .u16 xd,.bool xrep,.bool xclo,.int .u64 (xu:Int),.int .u64 (xn:Int)]).drew)):=swap_trn w g _ _ _ _
 clear h hx hy
 go_enter Tryz.func157,Tryz.ntmps157
 go_upto_region 0 with fail
 go_cut [31] from 6 to 30 (fun _ w'=>EntsAt w' g n cap (Hp.swp f i j)/\Trn (fun x=>x=g) w w')
 case first=>
  go_big_region
  go_wp2_with fail
  go_meet
  exact⟨HS.out,HW.out⟩
 obtain⟨hE,hW⟩:=hcut
 clear HS HW hT2 hT3 hfz x0 x1 x2 x3 x4 x5 x6 x7 x8 x9 x10 x11 x12 x13 y0 y1 y2 y3 y4 y5 y6 y7 y8 y9 y10 y11 y12 y13 m1 m2 m3 m4 m5
 have HB:Hid (Blk 263 wc T [.int .i64 (room:Int),.int .u64 (births:Int),.map (some mb),.slice (some ⟨g,0,none⟩) n cap]):=by
  refine⟨?_,HT.out.blk.2⟩
  rw[hW.block T HT.out.blk.lt (fun q=>gT q.symm)];exact HT.out.blk.1
 have HEC:Hid (EntsAt wc g n cap (Hp.swp f i j)):=hE
 have HWC:Hid (Trn (fun x=>x=g) w wc):=hW
 have HM0:Plc wc mb (fun k x=>x<n/\(f x).k=k):=HT.out.map.same (hW.block mb HT.out.map.lt (fun q=>gm q.symm))
 have wfx:Ky.Wf ⟨xla,xlp,xha,xhp,xkp⟩:=by have q:=HT.out.wf i hi;rw[HX.out] at q;exact q
 have wfy:Ky.Wf ⟨yla,ylp,yha,yhp,ykp⟩:=by have q:=HT.out.wf j hj;rw[HY.out] at q;exact q
 obtain⟨W1,hr1,hP1,hg1⟩:=Plc.store (W:=wc.drew) (HM0.same rfl) wfy i
 dsimp only[Ky.cells] at hr1
 have hT2:=HB.out.cell 2 _ rfl
 have hT3:=HB.out.cell 3 _ rfl
 have a0:wc.cell? ⟨g,i*14,none⟩=some (.int .u32 yla):=HEC.out.cell hi 0 _ (by rw[Hp.swp_left,HY.out];rfl)
 have a1:wc.cell? ⟨g,i*14+1,none⟩=some (.int .u16 ylp):=HEC.out.cell hi 1 _ (by rw[Hp.swp_left,HY.out];rfl)
 have a2:wc.cell? ⟨g,i*14+2,none⟩=some (.int .u32 yha):=HEC.out.cell hi 2 _ (by rw[Hp.swp_left,HY.out];rfl)
 have a3:wc.cell? ⟨g,i*14+3,none⟩=some (.int .u16 yhp):=HEC.out.cell hi 3 _ (by rw[Hp.swp_left,HY.out];rfl)
 have a4:wc.cell? ⟨g,i*14+4,none⟩=some (.int .u8 ykp):=HEC.out.cell hi 4 _ (by rw[Hp.swp_left,HY.out];rfl)
 have HP1:Hid (Plc W1 mb (fun x y=>(x=⟨yla,ylp,yha,yhp,ykp⟩/\y=i)\/(x≠⟨yla,ylp,yha,yhp,ykp⟩/\(y<n/\(f y).k=x)))):=hP1
 have HG1:Hid (wc.drew.grownBy W1 (some mb)):=hg1
 have hg1T:W1.heap[T]? =wc.heap[T]? :=hg1.block T HB.out.lt (fun q=>HT.out.tm (by cases q;rfl))
 have hg1g:W1.heap[g]? =wc.heap[g]? :=hg1.block g HEC.out.lt (fun q=>gm (by cases q;rfl))
 have HB1:Hid (Blk 263 W1 T [.int .i64 (room:Int),.int .u64 (births:Int),.map (some mb),.slice (some ⟨g,0,none⟩) n cap]):=⟨hg1T.trans HB.out.1,HB.out.2⟩
 have HE1:Hid (EntsAt W1 g n cap (Hp.swp f i j)):=HEC.out.same hg1g
 clear HM0 hP1 hg1 hg1T hg1g hE hW
 go_upto_region 1 with fail
 go_cut [44] from 32 to 43 (fun _ w'=>w'=W1)
 case first=>
  go_big_region
  go_wp2_with fail
  go_meet
  rfl
 subst hcut
 clear hr1 hT2 hT3 a0 a1 a2 a3 a4
 obtain⟨W2,hr2,hP2,hg2⟩:=Plc.store (W:=wc.drew) (HP1.out.same rfl) wfx j
 dsimp only[Ky.cells] at hr2
 have hT2:=HB1.out.cell 2 _ rfl
 have hT3:=HB1.out.cell 3 _ rfl
 have a0:wc.cell? ⟨g,j*14,none⟩=some (.int .u32 xla):=HE1.out.cell hj 0 _ (by rw[Hp.swp_right,HX.out];rfl)
 have a1:wc.cell? ⟨g,j*14+1,none⟩=some (.int .u16 xlp):=HE1.out.cell hj 1 _ (by rw[Hp.swp_right,HX.out];rfl)
 have a2:wc.cell? ⟨g,j*14+2,none⟩=some (.int .u32 xha):=HE1.out.cell hj 2 _ (by rw[Hp.swp_right,HX.out];rfl)
 have a3:wc.cell? ⟨g,j*14+3,none⟩=some (.int .u16 xhp):=HE1.out.cell hj 3 _ (by rw[Hp.swp_right,HX.out];rfl)
 have a4:wc.cell? ⟨g,j*14+4,none⟩=some (.int .u8 xkp):=HE1.out.cell hj 4 _ (by rw[Hp.swp_right,HX.out];rfl)
 have HP2:Hid (Plc W2 mb (fun x y=>(x=⟨xla,xlp,xha,xhp,xkp⟩/\y=j)\/(x≠⟨xla,xlp,xha,xhp,xkp⟩/\((x=⟨yla,ylp,yha,yhp,ykp⟩/\y=i)\/(x≠⟨yla,ylp,yha,yhp,ykp⟩/\(y<n/\(f y).k=x)))))):=hP2
 have HG2:Hid (wc.drew.grownBy W2 (some mb)):=hg2
 clear hP2 hg2
 go_upto_region 2 with fail
 go_big_region
 go_wp2_with fail
 go_end0
 exact⟨rfl,swap_done HT.out hi hj HWC.out HG1.out HG2.out HE1.out HB1.out (HP2.out.congr (by rw[HX.out,HY.out];exact fun _ _=>Iff.rfl))⟩
end Go.Proofs.YtclpnafiiobfhaaGreatDoor

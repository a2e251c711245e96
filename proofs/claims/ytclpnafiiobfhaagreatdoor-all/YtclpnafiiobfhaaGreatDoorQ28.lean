import Derived.Test.YtclpnafiiobfhaaGreatDoorQ27
set_option linter.unusedVariables false
set_option linter.unusedSimpArgs false
set_option maxRecDepth 20000
set_option maxHeartbeats 12800000
namespace Go.Proofs.YtclpnafiiobfhaaGreatDoor
open Go.RowKit
theorem swap_same (T mb g n cap room births i:Nat) (f:Nat->En) (xla xlp xha xhp xkp xa xb xp xs xd:Int) (xu xn:Nat) (xrep xclo:Bool) (w:World) (h:TabAt w T mb (.slice (some ⟨g,0,none⟩) n cap) room births n f) (hi:i<n) (hx:f i=⟨⟨xla,xlp,xha,xhp,xkp⟩,⟨xa,xb,xp,xs,xd,xrep,xclo,xu⟩,xn⟩):
 Calls Tryz.prog 157 #[.pointer (some ⟨T,0,none⟩),.int .i64 (i:Int),.int .i64 (i:Int)] w fun e w'=>e= .returned (.tuple #[])/\TabAt w' T mb (.slice (some ⟨g,0,none⟩) n cap) room births n (Hp.swp f i i)/\Trn (Ows T mb (.slice (some ⟨g,0,none⟩) n cap)) w w':=by
 have hT2:=h.blk.cell 2 _ rfl
 have hT3:=h.blk.cell 3 _ rfl
 obtain⟨gT,gm⟩:=h.tr g rfl
 have HT:Hid (TabAt w T mb (.slice (some ⟨g,0,none⟩) n cap) room births n f):=h
 have HE:Hid (EntsAt w g n cap f):=by
  rcases h.row with⟨q,_⟩|⟨g',cap',q,r⟩
  ·cases q
  ·cases q;exact r
 have hfz:=HE.out.frozen
 have HX:Hid (f i=⟨⟨xla,xlp,xha,xhp,xkp⟩,⟨xa,xb,xp,xs,xd,xrep,xclo,xu⟩,xn⟩):=hx
 have HLX:Hid ((f i).l=[.int .u32 xla,.int .u16 xlp,.int .u32 xha,.int .u16 xhp,.int .u8 xkp,.int .u32 xa,.int .u32 xb,.int .u8 xp,.int .u16 xs,.int .u16 xd,.bool xrep,.bool xclo,.int .u64 (xu:Int),.int .u64 (xn:Int)]):=by have q:=hx;show(f i).l=_;rw[q]
 have x0:w.cell? ⟨g,i*14,none⟩=some (.int .u32 xla):=ent_cell HE.out hi [.int .u32 xla,.int .u16 xlp,.int .u32 xha,.int .u16 xhp,.int .u8 xkp,.int .u32 xa,.int .u32 xb,.int .u8 xp,.int .u16 xs,.int .u16 xd,.bool xrep,.bool xclo,.int .u64 (xu:Int),.int .u64 (xn:Int)] HLX.out 0 _ rfl
 have x1:w.cell? ⟨g,i*14+1,none⟩=some (.int .u16 xlp):=ent_cell HE.out hi [.int .u32 xla,.int .u16 xlp,.int .u32 xha,.int .u16 xhp,.int .u8 xkp,.int .u32 xa,.int .u32 xb,.int .u8 xp,.int .u16 xs,.int .u16 xd,.bool xrep,.bool xclo,.int .u64 (xu:Int),.int .u64 (xn:Int)] HLX.out 1 _ rfl
 have x2:w.cell? ⟨g,i*14+2,none⟩=some (.int .u32 xha):=ent_cell HE.out hi [.int .u32 xla,.int .u16 xlp,.int .u32 xha,.int .u16 xhp,.int .u8 xkp,.int .u32 xa,.int .u32 xb,.int .u8 xp,.int .u16 xs,.int .u16 xd,.bool xrep,.bool xclo,.int .u64 (xu:Int),.int .u64 (xn:Int)] HLX.out 2 _ rfl
 have x3:w.cell? ⟨g,i*14+3,none⟩=some (.int .u16 xhp):=ent_cell HE.out hi [.int .u32 xla,.int .u16 xlp,.int .u32 xha,.int .u16 xhp,.int .u8 xkp,.int .u32 xa,.int .u32 xb,.int .u8 xp,.int .u16 xs,.int .u16 xd,.bool xrep,.bool xclo,.int .u64 (xu:Int),.int .u64 (xn:Int)] HLX.out 3 _ rfl
 have x4:w.cell? ⟨g,i*14+4,none⟩=some (.int .u8 xkp):=ent_cell HE.out hi [.int .u32 xla,.int .u16 xlp,.int .u32 xha,.int .u16 xhp,.int .u8 xkp,.int .u32 xa,.int .u32 xb,.int .u8 xp,.int .u16 xs,.int .u16 xd,.bool xrep,.bool xclo,.int .u64 (xu:Int),.int .u64 (xn:Int)] HLX.out 4 _ rfl
 have x5:w.cell? ⟨g,i*14+5,none⟩=some (.int .u32 xa):=ent_cell HE.out hi [.int .u32 xla,.int .u16 xlp,.int .u32 xha,.int .u16 xhp,.int .u8 xkp,.int .u32 xa,.int .u32 xb,.int .u8 xp,.int .u16 xs,.int .u16 xd,.bool xrep,.bool xclo,.int .u64 (xu:Int),.int .u64 (xn:Int)] HLX.out 5 _ rfl
 have x6:w.cell? ⟨g,i*14+6,none⟩=some (.int .u32 xb):=ent_cell HE.out hi [.int .u32 xla,.int .u16 xlp,.int .u32 xha,.int .u16 xhp,.int .u8 xkp,.int .u32 xa,.int .u32 xb,.int .u8 xp,.int .u16 xs,.int .u16 xd,.bool xrep,.bool xclo,.int .u64 (xu:Int),.int .u64 (xn:Int)] HLX.out 6 _ rfl
 have x7:w.cell? ⟨g,i*14+7,none⟩=some (.int .u8 xp):=ent_cell HE.out hi [.int .u32 xla,.int .u16 xlp,.int .u32 xha,.int .u16 xhp,.int .u8 xkp,.int .u32 xa,.int .u32 xb,.int .u8 xp,.int .u16 xs,.int .u16 xd,.bool xrep,.bool xclo,.int .u64 (xu:Int),.int .u64 (xn:Int)] HLX.out 7 _ rfl
 have x8:w.cell? ⟨g,i*14+8,none⟩=some (.int .u16 xs):=ent_cell HE.out hi [.int .u32 xla,.int .u16 xlp,.int .u32 xha,.int .u16 xhp,.int .u8 xkp,.int .u32 xa,.int .u32 xb,.int .u8 xp,.int .u16 xs,.int .u16 xd,.bool xrep,.bool xclo,.int .u64 (xu:Int),.int .u64 (xn:Int)] HLX.out 8 _ rfl
 have x9:w.cell? ⟨g,i*14+9,none⟩=some (.int .u16 xd):=ent_cell HE.out hi [.int .u32 xla,.int .u16 xlp,.int .u32 xha,.int .u16 xhp,.int .u8 xkp,.int .u32 xa,.int .u32 xb,.int .u8 xp,.int .u16 xs,.int .u16 xd,.bool xrep,.bool xclo,.int .u64 (xu:Int),.int .u64 (xn:Int)] HLX.out 9 _ rfl
 have x10:w.cell? ⟨g,i*14+10,none⟩=some (.bool xrep):=ent_cell HE.out hi [.int .u32 xla,.int .u16 xlp,.int .u32 xha,.int .u16 xhp,.int .u8 xkp,.int .u32 xa,.int .u32 xb,.int .u8 xp,.int .u16 xs,.int .u16 xd,.bool xrep,.bool xclo,.int .u64 (xu:Int),.int .u64 (xn:Int)] HLX.out 10 _ rfl
 have x11:w.cell? ⟨g,i*14+11,none⟩=some (.bool xclo):=ent_cell HE.out hi [.int .u32 xla,.int .u16 xlp,.int .u32 xha,.int .u16 xhp,.int .u8 xkp,.int .u32 xa,.int .u32 xb,.int .u8 xp,.int .u16 xs,.int .u16 xd,.bool xrep,.bool xclo,.int .u64 (xu:Int),.int .u64 (xn:Int)] HLX.out 11 _ rfl
 have x12:w.cell? ⟨g,i*14+12,none⟩=some (.int .u64 (xu:Int)):=ent_cell HE.out hi [.int .u32 xla,.int .u16 xlp,.int .u32 xha,.int .u16 xhp,.int .u8 xkp,.int .u32 xa,.int .u32 xb,.int .u8 xp,.int .u16 xs,.int .u16 xd,.bool xrep,.bool xclo,.int .u64 (xu:Int),.int .u64 (xn:Int)] HLX.out 12 _ rfl
 have x13:w.cell? ⟨g,i*14+13,none⟩=some (.int .u64 (xn:Int)):=ent_cell HE.out hi [.int .u32 xla,.int .u16 xlp,.int .u32 xha,.int .u16 xhp,.int .u8 xkp,.int .u32 xa,.int .u32 xb,.int .u8 xp,.int .u16 xs,.int .u16 xd,.bool xrep,.bool xclo,.int .u64 (xu:Int),.int .u64 (xn:Int)] HLX.out 13 _ rfl
 have i1:(0:Int)<=(i:Int):=by omega
 have i2:(i:Int)<(n:Int):=by omega
 have HS:Hid (EntsAt (((w.setCells g (i*14) [.int .u32 xla,.int .u16 xlp,.int .u32 xha,.int .u16 xhp,.int .u8 xkp,.int .u32 xa,.int .u32 xb,.int .u8 xp,.int .u16 xs,.int .u16 xd,.bool xrep,.bool xclo,.int .u64 (xu:Int),.int .u64 (xn:Int)]).setCells g (i*14) [.int .u32 xla,.int .u16 xlp,.int .u32 xha,.int .u16 xhp,.int .u8 xkp,.int .u32 xa,.int .u32 xb,.int .u8 xp,.int .u16 xs,.int .u16 xd,.bool xrep,.bool xclo,.int .u64 (xu:Int),.int .u64 (xn:Int)]).drew) g n cap (Hp.swp f i i)):=swap_ents HE.out hi hi _ _ HLX.out HLX.out
 have HW:Hid (Trn (fun x=>x=g) w (((w.setCells g (i*14) [.int .u32 xla,.int .u16 xlp,.int .u32 xha,.int .u16 xhp,.int .u8 xkp,.int .u32 xa,.int .u32 xb,.int .u8 xp,.int .u16 xs,.int .u16 xd,.bool xrep,.bool xclo,.int .u64 (xu:Int),.int .u64 (xn:Int)]).setCells g (i*14) [.int .u32 xla,.int .u16 xlp,.int .u32 xha,.int .u16 xhp,.int .u8 xkp,.int .u32 xa,.int .u32 xb,.int .u8 xp,.int .u16 xs,.int .u16 xd,.bool xrep,.bool xclo,.int .u64 (xu:Int),.int .u64 (xn:Int)]).drew)):=swap_trn w g _ _ _ _
 clear h hx
 go_enter Tryz.func157,Tryz.ntmps157
 go_upto_region 0 with fail
 go_cut [31] from 6 to 30 (fun _ w'=>EntsAt w' g n cap (Hp.swp f i i)/\Trn (fun x=>x=g) w w')
 case first=>
  go_big_region
  go_wp2_with fail
  go_meet
  exact⟨HS.out,HW.out⟩
 obtain⟨hE,hW⟩:=hcut
 clear HS HW hT2 hT3 hfz x0 x1 x2 x3 x4 x5 x6 x7 x8 x9 x10 x11 x12 x13
 have HB:Hid (Blk 263 wc T [.int .i64 (room:Int),.int .u64 (births:Int),.map (some mb),.slice (some ⟨g,0,none⟩) n cap]):=by
  refine⟨?_,HT.out.blk.2⟩
  rw[hW.block T HT.out.blk.lt (fun q=>gT q.symm)];exact HT.out.blk.1
 have HEC:Hid (EntsAt wc g n cap (Hp.swp f i i)):=hE
 have HWC:Hid (Trn (fun x=>x=g) w wc):=hW
 have HM0:Plc wc mb (fun k x=>x<n/\(f x).k=k):=HT.out.map.same (hW.block mb HT.out.map.lt (fun q=>gm q.symm))
 have wfx:Ky.Wf ⟨xla,xlp,xha,xhp,xkp⟩:=by have q:=HT.out.wf i hi;rw[HX.out] at q;exact q
 obtain⟨W1,hr1,hP1,hg1⟩:=Plc.store (W:=wc.drew) (HM0.same rfl) wfx i
 dsimp only[Ky.cells] at hr1
 have hT2:=HB.out.cell 2 _ rfl
 have hT3:=HB.out.cell 3 _ rfl
 have a0:wc.cell? ⟨g,i*14,none⟩=some (.int .u32 xla):=HEC.out.cell hi 0 _ (by rw[Hp.swp_left,HX.out];rfl)
 have a1:wc.cell? ⟨g,i*14+1,none⟩=some (.int .u16 xlp):=HEC.out.cell hi 1 _ (by rw[Hp.swp_left,HX.out];rfl)
 have a2:wc.cell? ⟨g,i*14+2,none⟩=some (.int .u32 xha):=HEC.out.cell hi 2 _ (by rw[Hp.swp_left,HX.out];rfl)
 have a3:wc.cell? ⟨g,i*14+3,none⟩=some (.int .u16 xhp):=HEC.out.cell hi 3 _ (by rw[Hp.swp_left,HX.out];rfl)
 have a4:wc.cell? ⟨g,i*14+4,none⟩=some (.int .u8 xkp):=HEC.out.cell hi 4 _ (by rw[Hp.swp_left,HX.out];rfl)
 have HP1:Hid (Plc W1 mb (fun x y=>(x=⟨xla,xlp,xha,xhp,xkp⟩/\y=i)\/(x≠⟨xla,xlp,xha,xhp,xkp⟩/\(y<n/\(f y).k=x)))):=hP1
 have HG1:Hid (wc.drew.grownBy W1 (some mb)):=hg1
 have hg1T:W1.heap[T]? =wc.heap[T]? :=hg1.block T HB.out.lt (fun q=>HT.out.tm (by cases q;rfl))
 have hg1g:W1.heap[g]? =wc.heap[g]? :=hg1.block g HEC.out.lt (fun q=>gm (by cases q;rfl))
 have HB1:Hid (Blk 263 W1 T [.int .i64 (room:Int),.int .u64 (births:Int),.map (some mb),.slice (some ⟨g,0,none⟩) n cap]):=⟨hg1T.trans HB.out.1,HB.out.2⟩
 have HE1:Hid (EntsAt W1 g n cap (Hp.swp f i i)):=HEC.out.same hg1g
 clear HM0 hP1 hg1 hg1T hg1g hE hW
 go_upto_region 1 with fail
 go_cut [44] from 32 to 43 (fun _ w'=>w'=W1)
 case first=>
  go_big_region
  go_wp2_with fail
  go_meet
  rfl
 subst hcut
 clear hr1 hT2 hT3 a0 a1 a2 a3 a4
 obtain⟨W2,hr2,hP2,hg2⟩:=Plc.store (W:=wc.drew) (HP1.out.same rfl) wfx i
 dsimp only[Ky.cells] at hr2
 have hT2:=HB1.out.cell 2 _ rfl
 have hT3:=HB1.out.cell 3 _ rfl
 have a0:wc.cell? ⟨g,i*14,none⟩=some (.int .u32 xla):=HE1.out.cell hi 0 _ (by rw[Hp.swp_right,HX.out];rfl)
 have a1:wc.cell? ⟨g,i*14+1,none⟩=some (.int .u16 xlp):=HE1.out.cell hi 1 _ (by rw[Hp.swp_right,HX.out];rfl)
 have a2:wc.cell? ⟨g,i*14+2,none⟩=some (.int .u32 xha):=HE1.out.cell hi 2 _ (by rw[Hp.swp_right,HX.out];rfl)
 have a3:wc.cell? ⟨g,i*14+3,none⟩=some (.int .u16 xhp):=HE1.out.cell hi 3 _ (by rw[Hp.swp_right,HX.out];rfl)
 have a4:wc.cell? ⟨g,i*14+4,none⟩=some (.int .u8 xkp):=HE1.out.cell hi 4 _ (by rw[Hp.swp_right,HX.out];rfl)
 have HP2:Hid (Plc W2 mb (fun x y=>(x=⟨xla,xlp,xha,xhp,xkp⟩/\y=i)\/(x≠⟨xla,xlp,xha,xhp,xkp⟩/\((x=⟨xla,xlp,xha,xhp,xkp⟩/\y=i)\/(x≠⟨xla,xlp,xha,xhp,xkp⟩/\(y<n/\(f y).k=x)))))):=hP2
 have HG2:Hid (wc.drew.grownBy W2 (some mb)):=hg2
 clear hP2 hg2
 go_upto_region 2 with fail
 go_big_region
 go_wp2_with fail
 go_end0
 exact⟨rfl,swap_done HT.out hi hi HWC.out HG1.out HG2.out HE1.out HB1.out (HP2.out.congr (by rw[HX.out];exact fun _ _=>Iff.rfl))⟩
end Go.Proofs.YtclpnafiiobfhaaGreatDoor

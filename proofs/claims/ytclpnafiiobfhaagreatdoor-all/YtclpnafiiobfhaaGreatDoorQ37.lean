import Derived.Test.YtclpnafiiobfhaaGreatDoorQ36
set_option linter.unusedVariables false
set_option linter.unusedSimpArgs false
set_option maxRecDepth 20000
set_option maxHeartbeats 6400000
namespace Go.Proofs.YtclpnafiiobfhaaGreatDoor
open Go.RowKit
theorem keep_known {K room now births:Nat} {O:Nat->Prop} {F:List Fl} (w:World) (h:Kps w O K room now births F) (hro:1<=room) (hbi:births+1<18446744073709551616) (hd:Hd) (hw:hd.Wf) (hq:findD F hd≠none):
 Calls Tryz.prog 130 #[.pointer (some ⟨K,0,none⟩),.agg hd.cells] w fun e w'=>e= .returned (.bool (keepS room now F hd).1)/\∃O' b',Kps w' O' K room now b' (keepS room now F hd).2/\Trn O w w'/\(∀y,O' y->O y\/w.heap.size<=y)/\b'<=births+1:=by
 have HKS:Hid (Kps w O K room now births F):=h
 obtain⟨T,mb,v,n,f,G,h,hO⟩:=h
 have HO:Hid (O=fun x=>x=K\/Ows T mb v x):=hO
 obtain⟨r,F',hkS⟩:∃r F',keepS room now F hd=(r,F'):=⟨_,_,rfl⟩
 have HR:Hid (keepS room now F hd=(r,F')):=hkS
 rw[hkS]
 dsimp only
 obtain⟨W0,hW0⟩:∃W0,w.alloc (.cells hd.cells 38)=W0:=⟨_,rfl⟩
 have HW0:Hid (w.alloc (.cells hd.cells 38)=W0):=hW0
 have HB0:Hid (Below w.heap.size w W0):=by rw[<-hW0];exact(Below.refl _ _).alloc (Nat.le_refl _) _
 have HBX:Hid (Blk 38 W0 w.heap.size hd.l):=by rw[<-hW0];exact Blk.made w _ _ hd.one
 have HK:Hid (KeepAt w K T mb v room now births n f F G):=h
 have HP:Hid (1<=room/\births+1<18446744073709551616/\hd.Wf/\now<=topT):=⟨hro,hbi,hw,h.now⟩
 have HKO:Hid (Calls _ _ _ W0 _):=keyOf_any hd W0
 obtain⟨ky,hky⟩:∃ky,hd.key=ky:=⟨_,rfl⟩
 have HKY:Hid (hd.key=ky):=hky
 rw[hky] at HKO
 have c0:=HBX.out.cell 0 _ rfl
 have c1:=HBX.out.cell 1 _ rfl
 have c2:=HBX.out.cell 2 _ rfl
 have c3:=HBX.out.cell 3 _ rfl
 have c4:=HBX.out.cell 4 _ rfl
 have c5:=HBX.out.cell 5 _ rfl
 have hgl:w.heap.size<W0.heap.size:=by rw[<-hW0];simp
 dsimp only[Hd.cells,Fl.cells,Ky.cells] at HW0 HKO ⊢
 clear h hw hW0 hro hbi hO hkS hky
 go_enter Tryz.func130,Tryz.ntmps130
 go_upto_region 1 with fail
 rw[HW0.out]
 go_upto_region 2 with(go_at_call 149;refine HKO.out.mono ?_;rintro e w2 ⟨rfl,hb2⟩;have HB2:Hid (Below W0.heap.size W0 w2):=hb2;clear hb2)
 obtain⟨W2,hW2⟩:∃W2,w2.alloc (.cells #[.int .u32 ky.la,.int .u16 ky.lp,.int .u32 ky.ha,.int .u16 ky.hp,.int .u8 ky.p] 240)=W2:=⟨_,rfl⟩
 rw[hW2]
 obtain⟨g5,hg5⟩:∃g5,w2.heap.size=g5:=⟨_,rfl⟩
 rw[hg5]
 have HBW:Hid (Below W0.heap.size W0 W2):=by rw[<-hW2];exact HB2.out.alloc HB2.out.size _
 have HBWw:Hid (Below w.heap.size w W2):=HB0.out.trans (HBW.out.mono HB0.out.size)
 have HK2:Hid (KeepAt W2 K T mb v room now births n f F G):=HK.out.below HBWw.out
 have HX2:Hid (Blk 38 W2 w.heap.size hd.l):=HBX.out.below HBW.out hgl
 have HKB:Hid (Blk 240 W2 g5 [.int .u32 ky.la,.int .u16 ky.lp,.int .u32 ky.ha,.int .u16 ky.hp,.int .u8 ky.p]):=by rw[<-hW2,<-hg5];exact Blk.made w2 _ [.int .u32 ky.la,.int .u16 ky.lp,.int .u32 ky.ha,.int .u16 ky.hp,.int .u8 ky.p] (list_one rfl)
 have k1:=HK2.out.blk.cell 1 _ rfl
 have hKW:=HK2.out.blk.lt
 have hgW:=HKB.out.lt
 have hxW:=HX2.out.lt
 have y0:=HKB.out.cell 0 _ rfl
 have y1:=HKB.out.cell 1 _ rfl
 have y2:=HKB.out.cell 2 _ rfl
 have y3:=HKB.out.cell 3 _ rfl
 have y4:=HKB.out.cell 4 _ rfl
 obtain⟨fl,q,hfd,hsp⟩:=keep_find HK2.out hd HP.out.2.2.1
 rw[HKY.out] at hfd
 have HFD:Hid (∀W,Below W2.heap.size W2 W->Calls Tryz.prog 148 #[.pointer (some ⟨T,0,none⟩),.agg #[.int .u32 ky.la,.int .u16 ky.lp,.int .u32 ky.ha,.int .u16 ky.hp,.int .u8 ky.p]] W fun e w'=>e= .returned (.tuple #[.agg #[.int .u32 fl.a,.int .u32 fl.b,.int .u8 fl.p,.int .u16 fl.s,.int .u16 fl.d,.bool fl.rep,.bool fl.clo,.int .u64 (fl.u:Int)],.bool q])/\Stay W2 W w'):=fun W hb=>(hfd W hb).mono (fun e w' z=>⟨z.1,Stay.of hb z.2⟩)
 have HSP:Hid ((q=true/\∃i j,findD F hd=some i/\F[i]? =some fl/\j<n/\(f j).k=hd.key/\(f j).v=fl/\G[i]? =some (f j))\/(q=false/\findD F hd=none/\fl=fl0/\∀j,j<n->(f j).k≠hd.key)):=hsp
 have HON:Hid (∀y ∈ [.int .u32 fl.a,.int .u32 fl.b,.int .u8 fl.p,.int .u16 fl.s,.int .u16 fl.d,.bool fl.rep,.bool fl.clo,.int .u64 (fl.u:Int)],Value.oneCell' y=true):=fl.one
 have SOF:Hid (∀w':World,Below W2.heap.size W2 w'->(Below W2.heap.size W2 w'/\w'.cell? ⟨K,1,none⟩=some (.pointer (some ⟨T,0,none⟩))/\w'.cell? ⟨g5,0,none⟩=some (.int .u32 ky.la)/\w'.cell? ⟨g5,1,none⟩=some (.int .u16 ky.lp)/\w'.cell? ⟨g5,2,none⟩=some (.int .u32 ky.ha)/\w'.cell? ⟨g5,3,none⟩=some (.int .u16 ky.hp)/\w'.cell? ⟨g5,4,none⟩=some (.int .u8 ky.p))):=fun w' hb=>⟨hb,(hb.cell (p:=⟨K,1,none⟩) hKW).trans k1,(hb.cell (p:=⟨g5,0,none⟩) hgW).trans y0,(hb.cell (p:=⟨g5,1,none⟩) hgW).trans y1,(hb.cell (p:=⟨g5,2,none⟩) hgW).trans y2,(hb.cell (p:=⟨g5,3,none⟩) hgW).trans y3,(hb.cell (p:=⟨g5,4,none⟩) hgW).trans y4⟩
 clear hfd hsp hW2 hg5 c0 c1 c2 c3 c4 c5 HKO
 go_cut [6,7] from 10 to 18 (fun x y w'=>∃g6,x= .pointer (some ⟨g6,0,none⟩)/\y= .bool q/\Blk 241 w' g6 [.int .u32 fl.a,.int .u32 fl.b,.int .u8 fl.p,.int .u16 fl.s,.int .u16 fl.d,.bool fl.rep,.bool fl.clo,.int .u64 (fl.u:Int)]/\Below W2.heap.size W2 w'/\W2.heap.size<=g6)
 case first=>
  go_region_held3 (fun w'=>Below W2.heap.size W2 w'/\w'.cell? ⟨K,1,none⟩=some (.pointer (some ⟨T,0,none⟩))/\w'.cell? ⟨g5,0,none⟩=some (.int .u32 ky.la)/\w'.cell? ⟨g5,1,none⟩=some (.int .u16 ky.lp)/\w'.cell? ⟨g5,2,none⟩=some (.int .u32 ky.ha)/\w'.cell? ⟨g5,3,none⟩=some (.int .u16 ky.hp)/\w'.cell? ⟨g5,4,none⟩=some (.int .u8 ky.p)) ((go_split_ands;refine SOF.out _ ?_;first|with_reducible assumption|with_reducible exact Below.drew (Below.refl _ _)|with_reducible exact Below.drew (by with_reducible assumption)|with_reducible exact Below.alloc (by with_reducible assumption) (Below.size (by with_reducible assumption)) _|with_reducible exact Below.drew (Below.alloc (Below.refl _ _) (Nat.le_refl _) _)|with_reducible exact below_eight (by with_reducible assumption) (Below.size (by with_reducible assumption)) _ _ _ _ _ _ _ _|with_reducible exact below_eight (by with_reducible assumption) (Nat.le_refl _) _ _ _ _ _ _ _ _)) ((go_at_call 148;refine(HFD.out _ (by first|with_reducible assumption|with_reducible exact Below.drew (Below.refl _ _)|with_reducible exact Below.drew (by with_reducible assumption)|with_reducible exact Below.alloc (by with_reducible assumption) (Below.size (by with_reducible assumption)) _|with_reducible exact Below.drew (Below.alloc (Below.refl _ _) (Nat.le_refl _) _))).mono ?_;rintro e w3 ⟨rfl,hs3⟩;have hb3:=hs3.b;have hc3:=hs3.c;have hf3:=hs3.f;have hl3:=hs3.l;have HS3:Hid (Stay W2 _ w3):=hs3;clear hs3))
  all_goals
   go_wp2_with fail
   go_meet
   refine⟨_,rfl,rfl,?_,?_,?_⟩
   ·first
     |with_reducible exact flow_made _ w3 HON.out
     |with_reducible exact blk_eight _ _ _ _ _ _ _ _ (stay_one HS3.out) HON.out
   ·first
     |with_reducible exact Below.alloc hb3 hb3.size _
     |with_reducible exact below_eight hb3 (Nat.le_refl _) _ _ _ _ _ _ _ _
   ·first
     |with_reducible exact hb3.size
     |with_reducible exact Nat.le_refl _
 obtain⟨g6,rfl,rfl,hB6,hb6,hg6⟩:=hcut
 have HB6:Hid (Blk 241 wc g6 [.int .u32 fl.a,.int .u32 fl.b,.int .u8 fl.p,.int .u16 fl.s,.int .u16 fl.d,.bool fl.rep,.bool fl.clo,.int .u64 (fl.u:Int)]):=hB6
 have HD6:Hid (Below W2.heap.size W2 wc):=hb6
 have HX6:Hid (Blk 38 wc w.heap.size hd.l):=HX2.out.below hb6 hxW
 have c0:=HX6.out.cell 0 _ rfl
 have c1:=HX6.out.cell 1 _ rfl
 have c2:=HX6.out.cell 2 _ rfl
 have c3:=HX6.out.cell 3 _ rfl
 have c4:=HX6.out.cell 4 _ rfl
 have c5:=HX6.out.cell 5 _ rfl
 have x0:=HB6.out.cell 0 _ rfl
 have x1:=HB6.out.cell 1 _ rfl
 have x2:=HB6.out.cell 2 _ rfl
 have x3:=HB6.out.cell 3 _ rfl
 have x4:=HB6.out.cell 4 _ rfl
 have x5:=HB6.out.cell 5 _ rfl
 have x6:=HB6.out.cell 6 _ rfl
 have x7:=HB6.out.cell 7 _ rfl
 have f0:=HB6.out.frozen 0
 have f1:=HB6.out.frozen 1
 have f2:=HB6.out.frozen 2
 have f3:=HB6.out.frozen 3
 have f4:=HB6.out.frozen 4
 have f5:=HB6.out.frozen 5
 have f6:=HB6.out.frozen 6
 have f7:=HB6.out.frozen 7
 have hq1:q=true:=by
  rcases HSP.out with z|z
  ·exact z.1
  ·exact absurd z.2.1 hq
 subst hq1
 obtain⟨yy,hyy⟩:∃yy,Fl.mk fl.a fl.b fl.p fl.s fl.d (fl.rep||backF fl hd) (fl.clo||endsH hd) fl.u=yy:=⟨_,rfl⟩
 have HCL:Hid (Calls Tryz.prog 153 #[.agg #[.int .u32 fl.a,.int .u32 fl.b,.int .u8 fl.p,.int .u16 fl.s,.int .u16 fl.d,.bool fl.rep,.bool fl.clo,.int .u64 (fl.u:Int)],.agg hd.cells] wc fun e w'=>e= .returned (.agg #[.int .u32 yy.a,.int .u32 yy.b,.int .u8 yy.p,.int .u16 yy.s,.int .u16 yy.d,.bool yy.rep,.bool yy.clo,.int .u64 (yy.u:Int)])/\Below wc.heap.size wc w'):=by
  have z:=heard_any fl hd wc HP.out.2.2.1.f
  rw[hyy] at z
  exact z
 have HYY:Hid (Fl.mk fl.a fl.b fl.p fl.s fl.d (fl.rep||backF fl hd) (fl.clo||endsH hd) fl.u=yy):=hyy
 clear hyy hq
 dsimp only[Hd.cells] at HCL
 go_upto_region 8 with(go_at_call 153;refine HCL.out.mono ?_;rintro e w7 ⟨rfl,hb7⟩;have x0:=(hb7.cell (p:=⟨g6,0,none⟩) HB6.out.lt).trans x0;have x1:=(hb7.cell (p:=⟨g6,1,none⟩) HB6.out.lt).trans x1;have x2:=(hb7.cell (p:=⟨g6,2,none⟩) HB6.out.lt).trans x2;have x3:=(hb7.cell (p:=⟨g6,3,none⟩) HB6.out.lt).trans x3;have x4:=(hb7.cell (p:=⟨g6,4,none⟩) HB6.out.lt).trans x4;have x5:=(hb7.cell (p:=⟨g6,5,none⟩) HB6.out.lt).trans x5;have x6:=(hb7.cell (p:=⟨g6,6,none⟩) HB6.out.lt).trans x6;have x7:=(hb7.cell (p:=⟨g6,7,none⟩) HB6.out.lt).trans x7;have f0:=(hb7.frozen (p:=⟨g6,0,none⟩) HB6.out.lt).trans f0;have f1:=(hb7.frozen (p:=⟨g6,1,none⟩) HB6.out.lt).trans f1;have f2:=(hb7.frozen (p:=⟨g6,2,none⟩) HB6.out.lt).trans f2;have f3:=(hb7.frozen (p:=⟨g6,3,none⟩) HB6.out.lt).trans f3;have f4:=(hb7.frozen (p:=⟨g6,4,none⟩) HB6.out.lt).trans f4;have f5:=(hb7.frozen (p:=⟨g6,5,none⟩) HB6.out.lt).trans f5;have f6:=(hb7.frozen (p:=⟨g6,6,none⟩) HB6.out.lt).trans f6;have f7:=(hb7.frozen (p:=⟨g6,7,none⟩) HB6.out.lt).trans f7;have HB7:Hid (Below wc.heap.size wc w7):=hb7;clear hb7)
 have HG7:Hid (w7.heap[g6]? =some (.cells #[.int .u32 fl.a,.int .u32 fl.b,.int .u8 fl.p,.int .u16 fl.s,.int .u16 fl.d,.bool fl.rep,.bool fl.clo,.int .u64 (fl.u:Int)] 241 (0,0))):=(HB7.out.block g6 HB6.out.lt).trans HB6.out.1
 have HON7:Hid (∀y ∈ [.int .u32 yy.a,.int .u32 yy.b,.int .u8 yy.p,.int .u16 yy.s,.int .u16 yy.d,.bool yy.rep,.bool yy.clo,.int .u64 (yy.u:Int)],Value.oneCell' y=true):=yy.one
 obtain⟨W7,hW7⟩:∃W7,((((((((w7.setCell ⟨g6,0,none⟩ (.int .u32 yy.a)).setCell ⟨g6,1,none⟩ (.int .u32 yy.b)).setCell ⟨g6,2,none⟩ (.int .u8 yy.p)).setCell ⟨g6,3,none⟩ (.int .u16 yy.s)).setCell ⟨g6,4,none⟩ (.int .u16 yy.d)).setCell ⟨g6,5,none⟩ (.bool yy.rep)).setCell ⟨g6,6,none⟩ (.bool yy.clo)).setCell ⟨g6,7,none⟩ (.int .u64 (yy.u:Int)))=W7:=⟨_,rfl⟩
 have HBY:Hid (Blk 241 W7 g6 [.int .u32 yy.a,.int .u32 yy.b,.int .u8 yy.p,.int .u16 yy.s,.int .u16 yy.d,.bool yy.rep,.bool yy.clo,.int .u64 (yy.u:Int)]):=by rw[<-hW7];exact blk_eight _ _ _ _ _ _ _ _ HG7.out HON7.out
 have HD7:Hid (Below W2.heap.size W2 W7):=by rw[<-hW7];exact below_eight (HD6.out.trans (HB7.out.mono HD6.out.size)) hg6 _ _ _ _ _ _ _ _
 rw[hW7]
 clear x0 f0 x1 f1 x2 f2 x3 f3 x4 f4 x5 f5 x6 f6 x7 f7 c0 c1 c2 c3 c4 c5 hB6 hb6 HB6 HG7 hW7 HX6
 have x0:=HBY.out.cell 0 _ rfl
 have x1:=HBY.out.cell 1 _ rfl
 have x2:=HBY.out.cell 2 _ rfl
 have x3:=HBY.out.cell 3 _ rfl
 have x4:=HBY.out.cell 4 _ rfl
 have x5:=HBY.out.cell 5 _ rfl
 have x6:=HBY.out.cell 6 _ rfl
 have x7:=HBY.out.cell 7 _ rfl
 have f7:=HBY.out.frozen 7
 have hg7:=HBY.out.lt
 have hK7:K<W7.heap.size:=Nat.lt_of_lt_of_le hKW HD7.out.size
 have k0:W7.cell? ⟨K,0,none⟩=some (.int .u64 (now:Int)):=(HD7.out.cell (p:=⟨K,0,none⟩) hKW).trans (HK2.out.blk.cell 0 _ rfl)
 have HSN:Hid (∀W,Below W7.heap.size W7 W->Calls Tryz.prog 155 #[.agg #[.int .u32 yy.a,.int .u32 yy.b,.int .u8 yy.p,.int .u16 yy.s,.int .u16 yy.d,.bool yy.rep,.bool yy.clo,.int .u64 (yy.u:Int)]] W fun e w'=>e= .returned (.int .u64 (spanF yy:Int))/\Below W7.heap.size W7 w'/\w'.cell? ⟨K,0,none⟩=some (.int .u64 (now:Int))/\w'.cell? ⟨g6,7,none⟩=some (.int .u64 (yy.u:Int))/\w'.frozen? ⟨g6,7,none⟩=false):=fun W hb=>(span_any yy W).mono (fun e w' z=>by
  have z2:=hb.trans (z.2.mono hb.size)
  exact⟨z.1,z2,(z2.cell (p:=⟨K,0,none⟩) hK7).trans k0,(z2.cell (p:=⟨g6,7,none⟩) hg7).trans x7,(z2.frozen (p:=⟨g6,7,none⟩) hg7).trans f7⟩)
 obtain⟨sp,hsp⟩:∃sp,spanF yy=sp:=⟨_,rfl⟩
 have hspT:sp<=topT:=by rw[<-hsp];exact span_le yy
 obtain⟨u2,hu2⟩:∃u2,plusT now sp=u2:=⟨_,rfl⟩
 have HLT:Hid (∀W,Calls Tryz.prog 115 #[.int .u64 (now:Int),.int .u64 (sp:Int)] W fun e w'=>e= .returned (.int .u64 (u2:Int))/\w'=W):=fun W=>by rw[<-hu2];exact later_any now sp W HP.out.2.2.2 hspT
 rw[hsp] at HSN
 have HU2:Hid (plusT now (spanF yy)=u2):=by rw[hsp];exact hu2
 obtain⟨zz,hzz⟩:∃zz,Fl.mk yy.a yy.b yy.p yy.s yy.d yy.rep yy.clo u2=zz:=⟨_,rfl⟩
 have HZZ:Hid (Fl.mk yy.a yy.b yy.p yy.s yy.d yy.rep yy.clo u2=zz):=hzz
 have HST:Hid (∀w8,Below W7.heap.size W7 w8->Blk 241 (w8.setCell ⟨g6,7,none⟩ (.int .u64 (u2:Int))) g6 [.int .u32 zz.a,.int .u32 zz.b,.int .u8 zz.p,.int .u16 zz.s,.int .u16 zz.d,.bool zz.rep,.bool zz.clo,.int .u64 (zz.u:Int)]/\Below W2.heap.size W2 (w8.setCell ⟨g6,7,none⟩ (.int .u64 (u2:Int)))):=fun w8 hb=>⟨by
  have z:=(HBY.out.below hb hg7).set 7 (.int .u64 (u2:Int))
  subst hzz
  exact z,(HD7.out.trans (hb.mono HD7.out.size)).setCell (p:=⟨g6,7,none⟩) hg6 _⟩
 clear hsp hspT hu2 hzz
 go_cut [37] from 30 to 36 (fun _ w'=>Blk 241 w' g6 [.int .u32 zz.a,.int .u32 zz.b,.int .u8 zz.p,.int .u16 zz.s,.int .u16 zz.d,.bool zz.rep,.bool zz.clo,.int .u64 (zz.u:Int)]/\Below W2.heap.size W2 w')
 case first=>
  go_region_with (first|(go_at_call 155;refine(HSN.out _ (by first|with_reducible assumption|with_reducible exact Below.drew (Below.refl _ _)|with_reducible exact Below.drew (by with_reducible assumption)|with_reducible exact Below.alloc (by with_reducible assumption) (Below.size (by with_reducible assumption)) _|with_reducible exact Below.drew (Below.alloc (Below.refl _ _) (Nat.le_refl _) _))).mono ?_;rintro e w8 ⟨rfl,hb8,k0',x7',f7'⟩)|(go_at_call 115;refine(HLT.out _).mono ?_;rintro e w9 ⟨rfl,hw9⟩;obtain rfl:w8=w9:=hw9.symm))
  all_goals
   go_wp2_with fail
   go_meet
   exact HST.out _ (by first|with_reducible assumption|with_reducible exact Below.drew (Below.refl _ _)|with_reducible exact Below.drew (by with_reducible assumption)|with_reducible exact Below.alloc (by with_reducible assumption) (Below.size (by with_reducible assumption)) _|with_reducible exact Below.drew (Below.alloc (Below.refl _ _) (Nat.le_refl _) _))
 obtain⟨hB8,hb8⟩:=hcut
 have HD8:Hid (Below W2.heap.size W2 wc):=hb8
 clear k0 x0 x1 x2 x3 x4 x5 x6 x7 f7 HSN HLT HST
 have x0:=hB8.cell 0 _ rfl
 have x1:=hB8.cell 1 _ rfl
 have x2:=hB8.cell 2 _ rfl
 have x3:=hB8.cell 3 _ rfl
 have x4:=hB8.cell 4 _ rfl
 have x5:=hB8.cell 5 _ rfl
 have x6:=hB8.cell 6 _ rfl
 have x7:=hB8.cell 7 _ rfl
 obtain⟨_,k1',y0p,y1p,y2p,y3p,y4p⟩:=SOF.out wc hb8
 have hput:∃i,F'=F.set i zz/\r=false/\∀W,Below W2.heap.size W2 W->Calls Tryz.prog 156 #[.pointer (some ⟨T,0,none⟩),.agg hd.key.cells,.agg zz.cells] W fun e w'=>e= .returned (.bool false)/\Laid2 W w' T mb v room births (F.set i zz):=by
  rcases HSP.out with⟨_,i,j,e1,e2,e3,e4,e5,e6⟩|z
  ·refine⟨i,?_,?_,fun W hb=>put_known HK2.out hd HP.out.2.2.1 zz e3 e4 e5 e6 (by rw[<-HZZ.out,<-HYY.out];rfl) W hb⟩
   ·have hr:=HR.out
    unfold keepS at hr
    rw[e1] at hr
    dsimp only at hr
    have e7:F.getD i fl0=fl:=by simp[List.getD_eq_getElem?_getD,e2]
    rw[e7] at hr
    have e8:heardF fl hd now=zz:=by rw[<-HZZ.out,<-HU2.out,<-HYY.out];rfl
    rw[e8] at hr
    exact(congrArg Prod.snd hr).symm
   ·have hr:=HR.out
    unfold keepS at hr
    rw[e1] at hr
    exact(congrArg Prod.fst hr).symm
  ·exact absurd z.1 (by decide)
 obtain⟨i0,hF',hr',hp⟩:=hput
 rw[HKY.out] at hp
 have HPU:Hid (∀W,Below W2.heap.size W2 W->Calls Tryz.prog 156 #[.pointer (some ⟨T,0,none⟩),.agg #[.int .u32 ky.la,.int .u16 ky.lp,.int .u32 ky.ha,.int .u16 ky.hp,.int .u8 ky.p],.agg #[.int .u32 zz.a,.int .u32 zz.b,.int .u8 zz.p,.int .u16 zz.s,.int .u16 zz.d,.bool zz.rep,.bool zz.clo,.int .u64 (zz.u:Int)]] W fun e w'=>e= .returned (.bool false)/\Laid2 W w' T mb v room births (F.set i0 zz)/\Below W2.heap.size W2 W):=fun W hb=>(hp W hb).mono (fun e w' z=>⟨z.1,z.2,hb⟩)
 have HFIN:Hid (∀W w',Below W2.heap.size W2 W->Laid2 W w' T mb v room births (F.set i0 zz)->∃O' b',Kps w' O' K room now b' F'/\Trn O w w'/\(∀y,O' y->O y\/w.heap.size<=y)/\b'<=births+1):=fun W w' hb hl=>by
  rw[hF']
  obtain⟨O',b',q1,q2,q3,q4⟩:=keeps_put HK2.out hb hl
  have hz:=HBWw.out.size
  refine⟨O',b',q1,by rw[HO.out];exact(Trn.below HBWw.out).trans q2 (fun _ _ q=>q),fun y q=> ?_,q4⟩
  rcases q3 y q with z|z
  ·exact .inl (by rw[HO.out];exact z)
  ·exact .inr (by omega)
 have HRR:Hid (r=false):=hr'
 clear hp hB8 hb8 hF' hr'
 go_upto_region 9 with fail
 go_region_with (go_at_call 156;refine(HPU.out _ (by first|with_reducible assumption|with_reducible exact Below.drew HD8.out|with_reducible exact HD8.out|with_reducible exact Below.drew (by with_reducible assumption)|with_reducible exact Below.alloc (by with_reducible assumption) (Below.size (by with_reducible assumption)) _|with_reducible exact Below.drew (Below.alloc (Below.refl _ _) (Nat.le_refl _) _))).mono ?_;rintro e w9 ⟨rfl,hl9,hb9⟩;have HL9:Hid (Laid2 _ w9 T mb v room births (F.set i0 zz)/\_):=⟨hl9,hb9⟩;clear hl9 hb9)
 all_goals
  go_wp2_with fail
  go_ret
  exact⟨by rw[HRR.out];rfl,HFIN.out _ _ HL9.out.2 HL9.out.1⟩
end Go.Proofs.YtclpnafiiobfhaaGreatDoor

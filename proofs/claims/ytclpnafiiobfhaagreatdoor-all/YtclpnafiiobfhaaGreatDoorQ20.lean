import Derived.Test.YtclpnafiiobfhaaGreatDoorQ19
set_option linter.unusedVariables false
set_option linter.unusedSimpArgs false
set_option maxHeartbeats 1600000
namespace Go.Proofs.YtclpnafiiobfhaaGreatDoor
open Go.RowKit
theorem Tch.drew' {g:Nat} {a w:World} (h:Tch g a w):Tch g a w.drew:=⟨h.os,h.tape,h.output,h.size,h.block⟩
theorem do_1 (r t f:Int) (kn:Nat) (m:Nat) (db doff dc:Nat) (d:ByteArray) (q:Int×Int) (a:St) (w:World) (br:0<=r/\r<4) (bt:0<=t/\t<=255) (bf:0<=f/\f<=255) (bk:(0:Int)<=kn/\(kn:Int)<=4294967295) (ha:a.Ok) (hM:Mc w m (.slice (some ⟨db,doff,none⟩) d.size dc) q a) (hr:Row w db doff d) (hdb:db<w.heap.size) (hdm:db≠m) (hw:(kn:Int)+1<=d.size) (hdc:d.size<=dc) (hmx:dc<=maxLen):
 Calls Tryz.prog 179 #[.pointer (some ⟨m,0,none⟩),.agg #[.int .u8 1,.int .u8 r,.int .u8 t,.int .u8 f,.int .u32 kn]] w fun e w'=>e= .returned (.int .u32 0)/\Mc w' m (.slice (some ⟨db,doff,none⟩) d.size dc) q (a.put ⟨1,r,t,f,kn⟩ (numv d kn 1))/\Tch m w w':=by
 have ml:=hM.lt
 have cdat:=hM.data
 have HM:Hid (Mc w m (.slice (some ⟨db,doff,none⟩) d.size dc) q a):=hM
 have HAO:Hid a.Ok:=ha
 have HKP:Hid (∀u,Below (w.heap.size+1) (w.alloc (.cells #[.int .u8 1,.int .u8 r,.int .u8 t,.int .u8 f,.int .u32 kn] 250)) u->(fun w'=>w'.cell? ⟨w.heap.size,0,none⟩=some (.int .u8 1)/\w'.cell? ⟨w.heap.size,1,none⟩=some (.int .u8 r)/\w'.cell? ⟨w.heap.size,2,none⟩=some (.int .u8 t)/\w'.cell? ⟨w.heap.size,3,none⟩=some (.int .u8 f)/\w'.cell? ⟨w.heap.size,4,none⟩=some (.int .u32 kn)/\w'.cell? ⟨m,0,none⟩=some ((.slice (some ⟨db,doff,none⟩) d.size dc))) u):=fun u hw=>by
  have hc:∀c,u.cell? ⟨w.heap.size,c,none⟩=(w.alloc (.cells #[.int .u8 1,.int .u8 r,.int .u8 t,.int .u8 f,.int .u32 kn] 250)).cell? ⟨w.heap.size,c,none⟩:=fun c=>hw.cell (p:=⟨w.heap.size,c,none⟩) (by simp)
  have hd:∀c,u.cell? ⟨m,c,none⟩=w.cell? ⟨m,c,none⟩:=fun c=>(hw.cell (p:=⟨m,c,none⟩) (by show m<_;omega)).trans (World.cell?_alloc_lt _ _ _ ml)
  refine⟨?_,?_,?_,?_,?_,(hd _).trans cdat⟩<;>(rw[hc,World.cell?_alloc_at _ _ _ _ rfl];rfl)
 have HKP2:Hid (∀v v' u,Below (w.heap.size+1) (((w.setCell ⟨m,3+r.toNat,none⟩ v).setCell ⟨m,7+r.toNat,none⟩ v').alloc (.cells #[.int .u8 1,.int .u8 r,.int .u8 t,.int .u8 f,.int .u32 kn] 250)) u->(fun w'=>w'.cell? ⟨w.heap.size,0,none⟩=some (.int .u8 1)/\w'.cell? ⟨w.heap.size,1,none⟩=some (.int .u8 r)/\w'.cell? ⟨w.heap.size,2,none⟩=some (.int .u8 t)/\w'.cell? ⟨w.heap.size,3,none⟩=some (.int .u8 f)/\w'.cell? ⟨w.heap.size,4,none⟩=some (.int .u32 kn)/\w'.cell? ⟨m,0,none⟩=some ((.slice (some ⟨db,doff,none⟩) d.size dc))) u):=fun v v' u hw=>by
  have hz:((w.setCell ⟨m,3+r.toNat,none⟩ v).setCell ⟨m,7+r.toNat,none⟩ v').heap.size=w.heap.size:=by simp[World.setCell]
  have hc:∀c,u.cell? ⟨w.heap.size,c,none⟩=(((w.setCell ⟨m,3+r.toNat,none⟩ v).setCell ⟨m,7+r.toNat,none⟩ v').alloc (.cells #[.int .u8 1,.int .u8 r,.int .u8 t,.int .u8 f,.int .u32 kn] 250)).cell? ⟨w.heap.size,c,none⟩:=fun c=>hw.cell (p:=⟨w.heap.size,c,none⟩) (by simp)
  have hd:∀c,c<3->u.cell? ⟨m,c,none⟩=w.cell? ⟨m,c,none⟩:=fun c hc=>by
   rw[hw.cell (p:=⟨m,c,none⟩) (by show m<_;omega),World.cell?_alloc_lt _ _ _ (by rw[hz];exact ml),cell_set_off _ _ _ _ _ (by omega),cell_set_off _ _ _ _ _ (by omega)]
  refine⟨?_,?_,?_,?_,?_,(hd _ (by omega)).trans cdat⟩<;>(rw[hc,World.cell?_alloc_at _ _ _ _ hz.symm];rfl)
 have HMC:Hid (∀u,Below (w.heap.size+1) (w.alloc (.cells #[.int .u8 1,.int .u8 r,.int .u8 t,.int .u8 f,.int .u32 kn] 250)) u->Mc u m (.slice (some ⟨db,doff,none⟩) d.size dc) q a/\Tch m w u):=fun u hw=>by
  have hb:Below w.heap.size w u:=((Below.refl _ _).alloc (Nat.le_refl _) _).trans (hw.mono (by omega))
  exact⟨HM.out.below hb,Tch.of hb⟩
 have HMP:Hid (∀v u,Below (w.heap.size+1) (((w.setCell ⟨m,3+r.toNat,none⟩ (.int .u32 v)).setCell ⟨m,7+r.toNat,none⟩ (.bool true)).alloc (.cells #[.int .u8 1,.int .u8 r,.int .u8 t,.int .u8 f,.int .u32 kn] 250)) u->Mc u m (.slice (some ⟨db,doff,none⟩) d.size dc) q (a.put ⟨1,r,t,f,kn⟩ v)/\Tch m w u):=fun v u hw=>by
  have g:=HM.out.put ha ⟨1,r,t,f,kn⟩ ⟨br.1,br.2⟩ v
  have g2:Tch m w ((w.setCell ⟨m,3+r.toNat,none⟩ (.int .u32 v)).setCell ⟨m,7+r.toNat,none⟩ (.bool true)):=((Tch.refl _ _).set _ _).set _ _
  have hz:((w.setCell ⟨m,3+r.toNat,none⟩ (.int .u32 v)).setCell ⟨m,7+r.toNat,none⟩ (.bool true)).heap.size=w.heap.size:=by simp[World.setCell]
  dsimp only at g
  generalize ((w.setCell ⟨m,3+r.toNat,none⟩ (.int .u32 v)).setCell ⟨m,7+r.toNat,none⟩ (.bool true))=w9 at*
  have hb:Below w9.heap.size w9 u:=((Below.refl _ _).alloc (Nat.le_refl _) _).trans (hw.mono (by omega))
  exact⟨g.below hb,g2.trans (Tch.of hb)⟩
 unfold maxLen at hmx
 have HR:Hid (Row w db doff d):=hr
 have hE:=fun w=>loadEnd_any ⟨1,r,t,f,kn⟩ ⟨by simp,by dsimp only;omega,by dsimp only;exact bt,by dsimp only;exact bf,bk⟩ w (by rfl)
 unfold insV insO Ins.wide at hE
 simp only[if_true,if_false] at hE
 have s0:(kn:Int)<=(kn:Int)+1:=by omega
 have s1:(kn:Int)+1<=(dc:Int):=by omega
 have s2:dc≠kn:=by omega
 have HNA:Hid (∀u,Below (w.heap.size+1) (w.alloc (.cells #[.int .u8 1,.int .u8 r,.int .u8 t,.int .u8 f,.int .u32 kn] 250)) u->∀i,i<1->u.cell? ⟨db,doff+kn+i,none⟩=some (.int .u8 (nth d (kn+i)))):=fun u hw i hi=>by
  rw[hw.cell (p:=⟨db,doff+kn+i,none⟩) (by show db<_;omega),World.cell?_alloc_lt _ _ _ (by exact hdb),Nat.add_assoc]
  exact HR.out (kn+i) (by omega)
 clear hM cdat hr ha
 go_enter Tryz.func179,Tryz.ntmps179
 go_upto_region 5 with fail
 go_region_held3 (fun w'=>w'.cell? ⟨w.heap.size,0,none⟩=some (.int .u8 1)/\w'.cell? ⟨w.heap.size,1,none⟩=some (.int .u8 r)/\w'.cell? ⟨w.heap.size,2,none⟩=some (.int .u8 t)/\w'.cell? ⟨w.heap.size,3,none⟩=some (.int .u8 f)/\w'.cell? ⟨w.heap.size,4,none⟩=some (.int .u32 kn)/\w'.cell? ⟨m,0,none⟩=some ((.slice (some ⟨db,doff,none⟩) d.size dc))) (first|(refine HKP.out _ ?_;(repeat (first|with_reducible exact Below.refl _ _|with_reducible refine Below.drew ?_|with_reducible refine below_drewN ?_ _|with_reducible refine Below.alloc ?_ (by first|omega|(simp;done)|(simp;omega)|(simp[World.setCell];done)|(simp[World.setCell];omega)) _));done)|(refine HKP2.out (.int .u32 (numv d kn 1)) (.bool true) _ ?_;(repeat (first|with_reducible exact Below.refl _ _|with_reducible refine Below.drew ?_|with_reducible refine below_drewN ?_ _|with_reducible refine Below.alloc ?_ (by first|omega|(simp;done)|(simp;omega)|(simp[World.setCell];done)|(simp[World.setCell];omega)) _));done)) (first|(go_at_call 204;refine(hE _).mono ?_;rintro e w2 ⟨rfl,rfl⟩)|(go_at_call 206;(first|rw[show((kn:Int)+1).toNat-kn=1 by omega]|skip);refine(number_any d db (doff+kn) kn 1 _ _ (by omega) (HNA.out _ (by repeat (first|with_reducible exact Below.refl _ _|with_reducible refine Below.drew ?_|with_reducible refine below_drewN ?_ _|with_reducible refine Below.alloc ?_ (by first|omega|(simp;done)|(simp;omega)|(simp[World.setCell];done)|(simp[World.setCell];omega)) _)))).mono ?_;rintro e w2 ⟨rfl,rfl⟩)|(go_at_call 205;refine(put_any r _ (a.reg.getD r.toNat 0) (a.set.getD r.toNat false) m _ (by omega) (by omega) ?hc ?hd ?f0 ?f1).mono ?_;(case hc=>exact(HMC.out _ (by repeat (first|with_reducible exact Below.refl _ _|with_reducible refine Below.drew ?_|with_reducible refine below_drewN ?_ _|with_reducible refine Below.alloc ?_ (by first|omega|(simp;done)|(simp;omega)|(simp[World.setCell];done)|(simp[World.setCell];omega)) _))).1.reg _ (by omega));(case hd=>exact(HMC.out _ (by repeat (first|with_reducible exact Below.refl _ _|with_reducible refine Below.drew ?_|with_reducible refine below_drewN ?_ _|with_reducible refine Below.alloc ?_ (by first|omega|(simp;done)|(simp;omega)|(simp[World.setCell];done)|(simp[World.setCell];omega)) _))).1.set _ (by omega));(case f0=>exact(HMC.out _ (by repeat (first|with_reducible exact Below.refl _ _|with_reducible refine Below.drew ?_|with_reducible refine below_drewN ?_ _|with_reducible refine Below.alloc ?_ (by first|omega|(simp;done)|(simp;omega)|(simp[World.setCell];done)|(simp[World.setCell];omega)) _))).1.froz _);(case f1=>exact(HMC.out _ (by repeat (first|with_reducible exact Below.refl _ _|with_reducible refine Below.drew ?_|with_reducible refine below_drewN ?_ _|with_reducible refine Below.alloc ?_ (by first|omega|(simp;done)|(simp;omega)|(simp[World.setCell];done)|(simp[World.setCell];omega)) _))).1.froz _);rintro e w' ⟨rfl,rfl⟩))
 all_goals
  go_wp2_with fail
  go_ret
  refine⟨rfl,?_,?_⟩
  ·exact(HMP.out _ _ (by repeat (first|with_reducible exact Below.refl _ _|with_reducible refine Below.drew ?_|with_reducible refine below_drewN ?_ _|with_reducible refine Below.alloc ?_ (by first|omega|(simp;done)|(simp;omega)|(simp[World.setCell];done)|(simp[World.setCell];omega)) _))).1
  ·exact(HMP.out _ _ (by repeat (first|with_reducible exact Below.refl _ _|with_reducible refine Below.drew ?_|with_reducible refine below_drewN ?_ _|with_reducible refine Below.alloc ?_ (by first|omega|(simp;done)|(simp;omega)|(simp[World.setCell];done)|(simp[World.setCell];omega)) _))).2
theorem do_2 (r t f:Int) (kn:Nat) (m:Nat) (db doff dc:Nat) (d:ByteArray) (q:Int×Int) (a:St) (w:World) (br:0<=r/\r<4) (bt:0<=t/\t<=255) (bf:0<=f/\f<=255) (bk:(0:Int)<=kn/\(kn:Int)<=4294967295) (ha:a.Ok) (hM:Mc w m (.slice (some ⟨db,doff,none⟩) d.size dc) q a) (hr:Row w db doff d) (hdb:db<w.heap.size) (hdm:db≠m) (hw:(kn:Int)+2<=d.size) (hdc:d.size<=dc) (hmx:dc<=maxLen):
 Calls Tryz.prog 179 #[.pointer (some ⟨m,0,none⟩),.agg #[.int .u8 2,.int .u8 r,.int .u8 t,.int .u8 f,.int .u32 kn]] w fun e w'=>e= .returned (.int .u32 0)/\Mc w' m (.slice (some ⟨db,doff,none⟩) d.size dc) q (a.put ⟨2,r,t,f,kn⟩ (numv d kn 2))/\Tch m w w':=by
 have ml:=hM.lt
 have cdat:=hM.data
 have HM:Hid (Mc w m (.slice (some ⟨db,doff,none⟩) d.size dc) q a):=hM
 have HAO:Hid a.Ok:=ha
 have HKP:Hid (∀u,Below (w.heap.size+1) (w.alloc (.cells #[.int .u8 2,.int .u8 r,.int .u8 t,.int .u8 f,.int .u32 kn] 250)) u->(fun w'=>w'.cell? ⟨w.heap.size,0,none⟩=some (.int .u8 2)/\w'.cell? ⟨w.heap.size,1,none⟩=some (.int .u8 r)/\w'.cell? ⟨w.heap.size,2,none⟩=some (.int .u8 t)/\w'.cell? ⟨w.heap.size,3,none⟩=some (.int .u8 f)/\w'.cell? ⟨w.heap.size,4,none⟩=some (.int .u32 kn)/\w'.cell? ⟨m,0,none⟩=some ((.slice (some ⟨db,doff,none⟩) d.size dc))) u):=fun u hw=>by
  have hc:∀c,u.cell? ⟨w.heap.size,c,none⟩=(w.alloc (.cells #[.int .u8 2,.int .u8 r,.int .u8 t,.int .u8 f,.int .u32 kn] 250)).cell? ⟨w.heap.size,c,none⟩:=fun c=>hw.cell (p:=⟨w.heap.size,c,none⟩) (by simp)
  have hd:∀c,u.cell? ⟨m,c,none⟩=w.cell? ⟨m,c,none⟩:=fun c=>(hw.cell (p:=⟨m,c,none⟩) (by show m<_;omega)).trans (World.cell?_alloc_lt _ _ _ ml)
  refine⟨?_,?_,?_,?_,?_,(hd _).trans cdat⟩<;>(rw[hc,World.cell?_alloc_at _ _ _ _ rfl];rfl)
 have HKP2:Hid (∀v v' u,Below (w.heap.size+1) (((w.setCell ⟨m,3+r.toNat,none⟩ v).setCell ⟨m,7+r.toNat,none⟩ v').alloc (.cells #[.int .u8 2,.int .u8 r,.int .u8 t,.int .u8 f,.int .u32 kn] 250)) u->(fun w'=>w'.cell? ⟨w.heap.size,0,none⟩=some (.int .u8 2)/\w'.cell? ⟨w.heap.size,1,none⟩=some (.int .u8 r)/\w'.cell? ⟨w.heap.size,2,none⟩=some (.int .u8 t)/\w'.cell? ⟨w.heap.size,3,none⟩=some (.int .u8 f)/\w'.cell? ⟨w.heap.size,4,none⟩=some (.int .u32 kn)/\w'.cell? ⟨m,0,none⟩=some ((.slice (some ⟨db,doff,none⟩) d.size dc))) u):=fun v v' u hw=>by
  have hz:((w.setCell ⟨m,3+r.toNat,none⟩ v).setCell ⟨m,7+r.toNat,none⟩ v').heap.size=w.heap.size:=by simp[World.setCell]
  have hc:∀c,u.cell? ⟨w.heap.size,c,none⟩=(((w.setCell ⟨m,3+r.toNat,none⟩ v).setCell ⟨m,7+r.toNat,none⟩ v').alloc (.cells #[.int .u8 2,.int .u8 r,.int .u8 t,.int .u8 f,.int .u32 kn] 250)).cell? ⟨w.heap.size,c,none⟩:=fun c=>hw.cell (p:=⟨w.heap.size,c,none⟩) (by simp)
  have hd:∀c,c<3->u.cell? ⟨m,c,none⟩=w.cell? ⟨m,c,none⟩:=fun c hc=>by
   rw[hw.cell (p:=⟨m,c,none⟩) (by show m<_;omega),World.cell?_alloc_lt _ _ _ (by rw[hz];exact ml),cell_set_off _ _ _ _ _ (by omega),cell_set_off _ _ _ _ _ (by omega)]
  refine⟨?_,?_,?_,?_,?_,(hd _ (by omega)).trans cdat⟩<;>(rw[hc,World.cell?_alloc_at _ _ _ _ hz.symm];rfl)
 have HMC:Hid (∀u,Below (w.heap.size+1) (w.alloc (.cells #[.int .u8 2,.int .u8 r,.int .u8 t,.int .u8 f,.int .u32 kn] 250)) u->Mc u m (.slice (some ⟨db,doff,none⟩) d.size dc) q a/\Tch m w u):=fun u hw=>by
  have hb:Below w.heap.size w u:=((Below.refl _ _).alloc (Nat.le_refl _) _).trans (hw.mono (by omega))
  exact⟨HM.out.below hb,Tch.of hb⟩
 have HMP:Hid (∀v u,Below (w.heap.size+1) (((w.setCell ⟨m,3+r.toNat,none⟩ (.int .u32 v)).setCell ⟨m,7+r.toNat,none⟩ (.bool true)).alloc (.cells #[.int .u8 2,.int .u8 r,.int .u8 t,.int .u8 f,.int .u32 kn] 250)) u->Mc u m (.slice (some ⟨db,doff,none⟩) d.size dc) q (a.put ⟨2,r,t,f,kn⟩ v)/\Tch m w u):=fun v u hw=>by
  have g:=HM.out.put ha ⟨2,r,t,f,kn⟩ ⟨br.1,br.2⟩ v
  have g2:Tch m w ((w.setCell ⟨m,3+r.toNat,none⟩ (.int .u32 v)).setCell ⟨m,7+r.toNat,none⟩ (.bool true)):=((Tch.refl _ _).set _ _).set _ _
  have hz:((w.setCell ⟨m,3+r.toNat,none⟩ (.int .u32 v)).setCell ⟨m,7+r.toNat,none⟩ (.bool true)).heap.size=w.heap.size:=by simp[World.setCell]
  dsimp only at g
  generalize ((w.setCell ⟨m,3+r.toNat,none⟩ (.int .u32 v)).setCell ⟨m,7+r.toNat,none⟩ (.bool true))=w9 at*
  have hb:Below w9.heap.size w9 u:=((Below.refl _ _).alloc (Nat.le_refl _) _).trans (hw.mono (by omega))
  exact⟨g.below hb,g2.trans (Tch.of hb)⟩
 unfold maxLen at hmx
 have HR:Hid (Row w db doff d):=hr
 have hE:=fun w=>loadEnd_any ⟨2,r,t,f,kn⟩ ⟨by simp,by dsimp only;omega,by dsimp only;exact bt,by dsimp only;exact bf,bk⟩ w (by rfl)
 unfold insV insO Ins.wide at hE
 simp only[show ¬(2:Int)=1 by decide,if_true,if_false] at hE
 have s0:(kn:Int)<=(kn:Int)+2:=by omega
 have s1:(kn:Int)+2<=(dc:Int):=by omega
 have s2:dc≠kn:=by omega
 have HNA:Hid (∀u,Below (w.heap.size+1) (w.alloc (.cells #[.int .u8 2,.int .u8 r,.int .u8 t,.int .u8 f,.int .u32 kn] 250)) u->∀i,i<2->u.cell? ⟨db,doff+kn+i,none⟩=some (.int .u8 (nth d (kn+i)))):=fun u hw i hi=>by
  rw[hw.cell (p:=⟨db,doff+kn+i,none⟩) (by show db<_;omega),World.cell?_alloc_lt _ _ _ (by exact hdb),Nat.add_assoc]
  exact HR.out (kn+i) (by omega)
 clear hM cdat hr ha
 go_enter Tryz.func179,Tryz.ntmps179
 go_upto_region 5 with fail
 go_region_held3 (fun w'=>w'.cell? ⟨w.heap.size,0,none⟩=some (.int .u8 2)/\w'.cell? ⟨w.heap.size,1,none⟩=some (.int .u8 r)/\w'.cell? ⟨w.heap.size,2,none⟩=some (.int .u8 t)/\w'.cell? ⟨w.heap.size,3,none⟩=some (.int .u8 f)/\w'.cell? ⟨w.heap.size,4,none⟩=some (.int .u32 kn)/\w'.cell? ⟨m,0,none⟩=some ((.slice (some ⟨db,doff,none⟩) d.size dc))) (first|(refine HKP.out _ ?_;(repeat (first|with_reducible exact Below.refl _ _|with_reducible refine Below.drew ?_|with_reducible refine below_drewN ?_ _|with_reducible refine Below.alloc ?_ (by first|omega|(simp;done)|(simp;omega)|(simp[World.setCell];done)|(simp[World.setCell];omega)) _));done)|(refine HKP2.out (.int .u32 (numv d kn 2)) (.bool true) _ ?_;(repeat (first|with_reducible exact Below.refl _ _|with_reducible refine Below.drew ?_|with_reducible refine below_drewN ?_ _|with_reducible refine Below.alloc ?_ (by first|omega|(simp;done)|(simp;omega)|(simp[World.setCell];done)|(simp[World.setCell];omega)) _));done)) (first|(go_at_call 204;refine(hE _).mono ?_;rintro e w2 ⟨rfl,rfl⟩)|(go_at_call 206;(first|rw[show((kn:Int)+2).toNat-kn=2 by omega]|skip);refine(number_any d db (doff+kn) kn 2 _ _ (by omega) (HNA.out _ (by repeat (first|with_reducible exact Below.refl _ _|with_reducible refine Below.drew ?_|with_reducible refine below_drewN ?_ _|with_reducible refine Below.alloc ?_ (by first|omega|(simp;done)|(simp;omega)|(simp[World.setCell];done)|(simp[World.setCell];omega)) _)))).mono ?_;rintro e w2 ⟨rfl,rfl⟩)|(go_at_call 205;refine(put_any r _ (a.reg.getD r.toNat 0) (a.set.getD r.toNat false) m _ (by omega) (by omega) ?hc ?hd ?f0 ?f1).mono ?_;(case hc=>exact(HMC.out _ (by repeat (first|with_reducible exact Below.refl _ _|with_reducible refine Below.drew ?_|with_reducible refine below_drewN ?_ _|with_reducible refine Below.alloc ?_ (by first|omega|(simp;done)|(simp;omega)|(simp[World.setCell];done)|(simp[World.setCell];omega)) _))).1.reg _ (by omega));(case hd=>exact(HMC.out _ (by repeat (first|with_reducible exact Below.refl _ _|with_reducible refine Below.drew ?_|with_reducible refine below_drewN ?_ _|with_reducible refine Below.alloc ?_ (by first|omega|(simp;done)|(simp;omega)|(simp[World.setCell];done)|(simp[World.setCell];omega)) _))).1.set _ (by omega));(case f0=>exact(HMC.out _ (by repeat (first|with_reducible exact Below.refl _ _|with_reducible refine Below.drew ?_|with_reducible refine below_drewN ?_ _|with_reducible refine Below.alloc ?_ (by first|omega|(simp;done)|(simp;omega)|(simp[World.setCell];done)|(simp[World.setCell];omega)) _))).1.froz _);(case f1=>exact(HMC.out _ (by repeat (first|with_reducible exact Below.refl _ _|with_reducible refine Below.drew ?_|with_reducible refine below_drewN ?_ _|with_reducible refine Below.alloc ?_ (by first|omega|(simp;done)|(simp;omega)|(simp[World.setCell];done)|(simp[World.setCell];omega)) _))).1.froz _);rintro e w' ⟨rfl,rfl⟩))
 all_goals
  go_wp2_with fail
  go_ret
  refine⟨rfl,?_,?_⟩
  ·exact(HMP.out _ _ (by repeat (first|with_reducible exact Below.refl _ _|with_reducible refine Below.drew ?_|with_reducible refine below_drewN ?_ _|with_reducible refine Below.alloc ?_ (by first|omega|(simp;done)|(simp;omega)|(simp[World.setCell];done)|(simp[World.setCell];omega)) _))).1
  ·exact(HMP.out _ _ (by repeat (first|with_reducible exact Below.refl _ _|with_reducible refine Below.drew ?_|with_reducible refine below_drewN ?_ _|with_reducible refine Below.alloc ?_ (by first|omega|(simp;done)|(simp;omega)|(simp[World.setCell];done)|(simp[World.setCell];omega)) _))).2
theorem do_3 (r t f:Int) (kn:Nat) (m:Nat) (db doff dc:Nat) (d:ByteArray) (q:Int×Int) (a:St) (w:World) (br:0<=r/\r<4) (bt:0<=t/\t<=255) (bf:0<=f/\f<=255) (bk:(0:Int)<=kn/\(kn:Int)<=4294967295) (ha:a.Ok) (hM:Mc w m (.slice (some ⟨db,doff,none⟩) d.size dc) q a) (hr:Row w db doff d) (hdb:db<w.heap.size) (hdm:db≠m) (hw:(kn:Int)+4<=d.size) (hdc:d.size<=dc) (hmx:dc<=maxLen):
 Calls Tryz.prog 179 #[.pointer (some ⟨m,0,none⟩),.agg #[.int .u8 3,.int .u8 r,.int .u8 t,.int .u8 f,.int .u32 kn]] w fun e w'=>e= .returned (.int .u32 0)/\Mc w' m (.slice (some ⟨db,doff,none⟩) d.size dc) q (a.put ⟨3,r,t,f,kn⟩ (numv d kn 4))/\Tch m w w':=by
 have ml:=hM.lt
 have cdat:=hM.data
 have HM:Hid (Mc w m (.slice (some ⟨db,doff,none⟩) d.size dc) q a):=hM
 have HAO:Hid a.Ok:=ha
 have HKP:Hid (∀u,Below (w.heap.size+1) (w.alloc (.cells #[.int .u8 3,.int .u8 r,.int .u8 t,.int .u8 f,.int .u32 kn] 250)) u->(fun w'=>w'.cell? ⟨w.heap.size,0,none⟩=some (.int .u8 3)/\w'.cell? ⟨w.heap.size,1,none⟩=some (.int .u8 r)/\w'.cell? ⟨w.heap.size,2,none⟩=some (.int .u8 t)/\w'.cell? ⟨w.heap.size,3,none⟩=some (.int .u8 f)/\w'.cell? ⟨w.heap.size,4,none⟩=some (.int .u32 kn)/\w'.cell? ⟨m,0,none⟩=some ((.slice (some ⟨db,doff,none⟩) d.size dc))) u):=fun u hw=>by
  have hc:∀c,u.cell? ⟨w.heap.size,c,none⟩=(w.alloc (.cells #[.int .u8 3,.int .u8 r,.int .u8 t,.int .u8 f,.int .u32 kn] 250)).cell? ⟨w.heap.size,c,none⟩:=fun c=>hw.cell (p:=⟨w.heap.size,c,none⟩) (by simp)
  have hd:∀c,u.cell? ⟨m,c,none⟩=w.cell? ⟨m,c,none⟩:=fun c=>(hw.cell (p:=⟨m,c,none⟩) (by show m<_;omega)).trans (World.cell?_alloc_lt _ _ _ ml)
  refine⟨?_,?_,?_,?_,?_,(hd _).trans cdat⟩<;>(rw[hc,World.cell?_alloc_at _ _ _ _ rfl];rfl)
 have HKP2:Hid (∀v v' u,Below (w.heap.size+1) (((w.setCell ⟨m,3+r.toNat,none⟩ v).setCell ⟨m,7+r.toNat,none⟩ v').alloc (.cells #[.int .u8 3,.int .u8 r,.int .u8 t,.int .u8 f,.int .u32 kn] 250)) u->(fun w'=>w'.cell? ⟨w.heap.size,0,none⟩=some (.int .u8 3)/\w'.cell? ⟨w.heap.size,1,none⟩=some (.int .u8 r)/\w'.cell? ⟨w.heap.size,2,none⟩=some (.int .u8 t)/\w'.cell? ⟨w.heap.size,3,none⟩=some (.int .u8 f)/\w'.cell? ⟨w.heap.size,4,none⟩=some (.int .u32 kn)/\w'.cell? ⟨m,0,none⟩=some ((.slice (some ⟨db,doff,none⟩) d.size dc))) u):=fun v v' u hw=>by
  have hz:((w.setCell ⟨m,3+r.toNat,none⟩ v).setCell ⟨m,7+r.toNat,none⟩ v').heap.size=w.heap.size:=by simp[World.setCell]
  have hc:∀c,u.cell? ⟨w.heap.size,c,none⟩=(((w.setCell ⟨m,3+r.toNat,none⟩ v).setCell ⟨m,7+r.toNat,none⟩ v').alloc (.cells #[.int .u8 3,.int .u8 r,.int .u8 t,.int .u8 f,.int .u32 kn] 250)).cell? ⟨w.heap.size,c,none⟩:=fun c=>hw.cell (p:=⟨w.heap.size,c,none⟩) (by simp)
  have hd:∀c,c<3->u.cell? ⟨m,c,none⟩=w.cell? ⟨m,c,none⟩:=fun c hc=>by
   rw[hw.cell (p:=⟨m,c,none⟩) (by show m<_;omega),World.cell?_alloc_lt _ _ _ (by rw[hz];exact ml),cell_set_off _ _ _ _ _ (by omega),cell_set_off _ _ _ _ _ (by omega)]
  refine⟨?_,?_,?_,?_,?_,(hd _ (by omega)).trans cdat⟩<;>(rw[hc,World.cell?_alloc_at _ _ _ _ hz.symm];rfl)
 have HMC:Hid (∀u,Below (w.heap.size+1) (w.alloc (.cells #[.int .u8 3,.int .u8 r,.int .u8 t,.int .u8 f,.int .u32 kn] 250)) u->Mc u m (.slice (some ⟨db,doff,none⟩) d.size dc) q a/\Tch m w u):=fun u hw=>by
  have hb:Below w.heap.size w u:=((Below.refl _ _).alloc (Nat.le_refl _) _).trans (hw.mono (by omega))
  exact⟨HM.out.below hb,Tch.of hb⟩
 have HMP:Hid (∀v u,Below (w.heap.size+1) (((w.setCell ⟨m,3+r.toNat,none⟩ (.int .u32 v)).setCell ⟨m,7+r.toNat,none⟩ (.bool true)).alloc (.cells #[.int .u8 3,.int .u8 r,.int .u8 t,.int .u8 f,.int .u32 kn] 250)) u->Mc u m (.slice (some ⟨db,doff,none⟩) d.size dc) q (a.put ⟨3,r,t,f,kn⟩ v)/\Tch m w u):=fun v u hw=>by
  have g:=HM.out.put ha ⟨3,r,t,f,kn⟩ ⟨br.1,br.2⟩ v
  have g2:Tch m w ((w.setCell ⟨m,3+r.toNat,none⟩ (.int .u32 v)).setCell ⟨m,7+r.toNat,none⟩ (.bool true)):=((Tch.refl _ _).set _ _).set _ _
  have hz:((w.setCell ⟨m,3+r.toNat,none⟩ (.int .u32 v)).setCell ⟨m,7+r.toNat,none⟩ (.bool true)).heap.size=w.heap.size:=by simp[World.setCell]
  dsimp only at g
  generalize ((w.setCell ⟨m,3+r.toNat,none⟩ (.int .u32 v)).setCell ⟨m,7+r.toNat,none⟩ (.bool true))=w9 at*
  have hb:Below w9.heap.size w9 u:=((Below.refl _ _).alloc (Nat.le_refl _) _).trans (hw.mono (by omega))
  exact⟨g.below hb,g2.trans (Tch.of hb)⟩
 unfold maxLen at hmx
 have HR:Hid (Row w db doff d):=hr
 have hE:=fun w=>loadEnd_any ⟨3,r,t,f,kn⟩ ⟨by simp,by dsimp only;omega,by dsimp only;exact bt,by dsimp only;exact bf,bk⟩ w (by rfl)
 unfold insV insO Ins.wide at hE
 simp only[show ¬(3:Int)=1 by decide,show ¬(3:Int)=2 by decide,if_true,if_false] at hE
 have s0:(kn:Int)<=(kn:Int)+4:=by omega
 have s1:(kn:Int)+4<=(dc:Int):=by omega
 have s2:dc≠kn:=by omega
 have HNA:Hid (∀u,Below (w.heap.size+1) (w.alloc (.cells #[.int .u8 3,.int .u8 r,.int .u8 t,.int .u8 f,.int .u32 kn] 250)) u->∀i,i<4->u.cell? ⟨db,doff+kn+i,none⟩=some (.int .u8 (nth d (kn+i)))):=fun u hw i hi=>by
  rw[hw.cell (p:=⟨db,doff+kn+i,none⟩) (by show db<_;omega),World.cell?_alloc_lt _ _ _ (by exact hdb),Nat.add_assoc]
  exact HR.out (kn+i) (by omega)
 clear hM cdat hr ha
 go_enter Tryz.func179,Tryz.ntmps179
 go_upto_region 5 with fail
 go_region_held3 (fun w'=>w'.cell? ⟨w.heap.size,0,none⟩=some (.int .u8 3)/\w'.cell? ⟨w.heap.size,1,none⟩=some (.int .u8 r)/\w'.cell? ⟨w.heap.size,2,none⟩=some (.int .u8 t)/\w'.cell? ⟨w.heap.size,3,none⟩=some (.int .u8 f)/\w'.cell? ⟨w.heap.size,4,none⟩=some (.int .u32 kn)/\w'.cell? ⟨m,0,none⟩=some ((.slice (some ⟨db,doff,none⟩) d.size dc))) (first|(refine HKP.out _ ?_;(repeat (first|with_reducible exact Below.refl _ _|with_reducible refine Below.drew ?_|with_reducible refine below_drewN ?_ _|with_reducible refine Below.alloc ?_ (by first|omega|(simp;done)|(simp;omega)|(simp[World.setCell];done)|(simp[World.setCell];omega)) _));done)|(refine HKP2.out (.int .u32 (numv d kn 4)) (.bool true) _ ?_;(repeat (first|with_reducible exact Below.refl _ _|with_reducible refine Below.drew ?_|with_reducible refine below_drewN ?_ _|with_reducible refine Below.alloc ?_ (by first|omega|(simp;done)|(simp;omega)|(simp[World.setCell];done)|(simp[World.setCell];omega)) _));done)) (first|(go_at_call 204;refine(hE _).mono ?_;rintro e w2 ⟨rfl,rfl⟩)|(go_at_call 206;(first|rw[show((kn:Int)+4).toNat-kn=4 by omega]|skip);refine(number_any d db (doff+kn) kn 4 _ _ (by omega) (HNA.out _ (by repeat (first|with_reducible exact Below.refl _ _|with_reducible refine Below.drew ?_|with_reducible refine below_drewN ?_ _|with_reducible refine Below.alloc ?_ (by first|omega|(simp;done)|(simp;omega)|(simp[World.setCell];done)|(simp[World.setCell];omega)) _)))).mono ?_;rintro e w2 ⟨rfl,rfl⟩)|(go_at_call 205;refine(put_any r _ (a.reg.getD r.toNat 0) (a.set.getD r.toNat false) m _ (by omega) (by omega) ?hc ?hd ?f0 ?f1).mono ?_;(case hc=>exact(HMC.out _ (by repeat (first|with_reducible exact Below.refl _ _|with_reducible refine Below.drew ?_|with_reducible refine below_drewN ?_ _|with_reducible refine Below.alloc ?_ (by first|omega|(simp;done)|(simp;omega)|(simp[World.setCell];done)|(simp[World.setCell];omega)) _))).1.reg _ (by omega));(case hd=>exact(HMC.out _ (by repeat (first|with_reducible exact Below.refl _ _|with_reducible refine Below.drew ?_|with_reducible refine below_drewN ?_ _|with_reducible refine Below.alloc ?_ (by first|omega|(simp;done)|(simp;omega)|(simp[World.setCell];done)|(simp[World.setCell];omega)) _))).1.set _ (by omega));(case f0=>exact(HMC.out _ (by repeat (first|with_reducible exact Below.refl _ _|with_reducible refine Below.drew ?_|with_reducible refine below_drewN ?_ _|with_reducible refine Below.alloc ?_ (by first|omega|(simp;done)|(simp;omega)|(simp[World.setCell];done)|(simp[World.setCell];omega)) _))).1.froz _);(case f1=>exact(HMC.out _ (by repeat (first|with_reducible exact Below.refl _ _|with_reducible refine Below.drew ?_|with_reducible refine below_drewN ?_ _|with_reducible refine Below.alloc ?_ (by first|omega|(simp;done)|(simp;omega)|(simp[World.setCell];done)|(simp[World.setCell];omega)) _))).1.froz _);rintro e w' ⟨rfl,rfl⟩))
 all_goals
  go_wp2_with fail
  go_ret
  refine⟨rfl,?_,?_⟩
  ·exact(HMP.out _ _ (by repeat (first|with_reducible exact Below.refl _ _|with_reducible refine Below.drew ?_|with_reducible refine below_drewN ?_ _|with_reducible refine Below.alloc ?_ (by first|omega|(simp;done)|(simp;omega)|(simp[World.setCell];done)|(simp[World.setCell];omega)) _))).1
  ·exact(HMP.out _ _ (by repeat (first|with_reducible exact Below.refl _ _|with_reducible refine Below.drew ?_|with_reducible refine below_drewN ?_ _|with_reducible refine Below.alloc ?_ (by first|omega|(simp;done)|(simp;omega)|(simp[World.setCell];done)|(simp[World.setCell];omega)) _))).2
theorem do_4_0 (r t f:Int) (m:Nat) (sp:Option Addr) (sn dc:Nat) (q:Int×Int) (a:St) (w:World) (br:0<=r/\r<4) (ha:a.Ok) (hM:Mc w m (.slice sp sn dc) q a):
 Calls Tryz.prog 179 #[.pointer (some ⟨m,0,none⟩),.agg #[.int .u8 4,.int .u8 r,.int .u8 t,.int .u8 f,.int .u32 0]] w fun e w'=>e= .returned (.int .u32 0)/\Mc w' m (.slice sp sn dc) q (a.put ⟨4,r,t,f,0⟩ q.1)/\Tch m w w':=by
 have cm:=hM.m0
 have ml:=hM.lt
 have cdat:=hM.data
 have HM:Hid (Mc w m (.slice sp sn dc) q a):=hM
 have HAO:Hid a.Ok:=ha
 have HKP:Hid (∀u,Below (w.heap.size+1) (w.alloc (.cells #[.int .u8 4,.int .u8 r,.int .u8 t,.int .u8 f,.int .u32 0] 250)) u->(fun w'=>w'.cell? ⟨w.heap.size,0,none⟩=some (.int .u8 4)/\w'.cell? ⟨w.heap.size,1,none⟩=some (.int .u8 r)/\w'.cell? ⟨w.heap.size,2,none⟩=some (.int .u8 t)/\w'.cell? ⟨w.heap.size,3,none⟩=some (.int .u8 f)/\w'.cell? ⟨w.heap.size,4,none⟩=some (.int .u32 0)/\w'.cell? ⟨m,0,none⟩=some ((.slice sp sn dc))/\w'.cell? ⟨m,1,none⟩=some (.int .u32 q.1)) u):=fun u hw=>by
  have hc:∀c,u.cell? ⟨w.heap.size,c,none⟩=(w.alloc (.cells #[.int .u8 4,.int .u8 r,.int .u8 t,.int .u8 f,.int .u32 0] 250)).cell? ⟨w.heap.size,c,none⟩:=fun c=>hw.cell (p:=⟨w.heap.size,c,none⟩) (by simp)
  have hd:∀c,u.cell? ⟨m,c,none⟩=w.cell? ⟨m,c,none⟩:=fun c=>(hw.cell (p:=⟨m,c,none⟩) (by show m<_;omega)).trans (World.cell?_alloc_lt _ _ _ ml)
  refine⟨?_,?_,?_,?_,?_,(hd _).trans cdat,(hd _).trans cm⟩<;>(rw[hc,World.cell?_alloc_at _ _ _ _ rfl];rfl)
 have HKP2:Hid (∀v v' u,Below (w.heap.size+1) (((w.setCell ⟨m,3+r.toNat,none⟩ v).setCell ⟨m,7+r.toNat,none⟩ v').alloc (.cells #[.int .u8 4,.int .u8 r,.int .u8 t,.int .u8 f,.int .u32 0] 250)) u->(fun w'=>w'.cell? ⟨w.heap.size,0,none⟩=some (.int .u8 4)/\w'.cell? ⟨w.heap.size,1,none⟩=some (.int .u8 r)/\w'.cell? ⟨w.heap.size,2,none⟩=some (.int .u8 t)/\w'.cell? ⟨w.heap.size,3,none⟩=some (.int .u8 f)/\w'.cell? ⟨w.heap.size,4,none⟩=some (.int .u32 0)/\w'.cell? ⟨m,0,none⟩=some ((.slice sp sn dc))/\w'.cell? ⟨m,1,none⟩=some (.int .u32 q.1)) u):=fun v v' u hw=>by
  have hz:((w.setCell ⟨m,3+r.toNat,none⟩ v).setCell ⟨m,7+r.toNat,none⟩ v').heap.size=w.heap.size:=by simp[World.setCell]
  have hc:∀c,u.cell? ⟨w.heap.size,c,none⟩=(((w.setCell ⟨m,3+r.toNat,none⟩ v).setCell ⟨m,7+r.toNat,none⟩ v').alloc (.cells #[.int .u8 4,.int .u8 r,.int .u8 t,.int .u8 f,.int .u32 0] 250)).cell? ⟨w.heap.size,c,none⟩:=fun c=>hw.cell (p:=⟨w.heap.size,c,none⟩) (by simp)
  have hd:∀c,c<3->u.cell? ⟨m,c,none⟩=w.cell? ⟨m,c,none⟩:=fun c hc=>by
   rw[hw.cell (p:=⟨m,c,none⟩) (by show m<_;omega),World.cell?_alloc_lt _ _ _ (by rw[hz];exact ml),cell_set_off _ _ _ _ _ (by omega),cell_set_off _ _ _ _ _ (by omega)]
  refine⟨?_,?_,?_,?_,?_,(hd _ (by omega)).trans cdat,(hd _ (by omega)).trans cm⟩<;>(rw[hc,World.cell?_alloc_at _ _ _ _ hz.symm];rfl)
 have HMC:Hid (∀u,Below (w.heap.size+1) (w.alloc (.cells #[.int .u8 4,.int .u8 r,.int .u8 t,.int .u8 f,.int .u32 0] 250)) u->Mc u m (.slice sp sn dc) q a/\Tch m w u):=fun u hw=>by
  have hb:Below w.heap.size w u:=((Below.refl _ _).alloc (Nat.le_refl _) _).trans (hw.mono (by omega))
  exact⟨HM.out.below hb,Tch.of hb⟩
 have HMP:Hid (∀v u,Below (w.heap.size+1) (((w.setCell ⟨m,3+r.toNat,none⟩ (.int .u32 v)).setCell ⟨m,7+r.toNat,none⟩ (.bool true)).alloc (.cells #[.int .u8 4,.int .u8 r,.int .u8 t,.int .u8 f,.int .u32 0] 250)) u->Mc u m (.slice sp sn dc) q (a.put ⟨4,r,t,f,0⟩ v)/\Tch m w u):=fun v u hw=>by
  have g:=HM.out.put ha ⟨4,r,t,f,0⟩ ⟨br.1,br.2⟩ v
  have g2:Tch m w ((w.setCell ⟨m,3+r.toNat,none⟩ (.int .u32 v)).setCell ⟨m,7+r.toNat,none⟩ (.bool true)):=((Tch.refl _ _).set _ _).set _ _
  have hz:((w.setCell ⟨m,3+r.toNat,none⟩ (.int .u32 v)).setCell ⟨m,7+r.toNat,none⟩ (.bool true)).heap.size=w.heap.size:=by simp[World.setCell]
  dsimp only at g
  generalize ((w.setCell ⟨m,3+r.toNat,none⟩ (.int .u32 v)).setCell ⟨m,7+r.toNat,none⟩ (.bool true))=w9 at*
  have hb:Below w9.heap.size w9 u:=((Below.refl _ _).alloc (Nat.le_refl _) _).trans (hw.mono (by omega))
  exact⟨g.below hb,g2.trans (Tch.of hb)⟩
 clear hM cdat ha cm
 go_enter Tryz.func179,Tryz.ntmps179
 go_upto_region 7 with fail
 go_region_held3 (fun w'=>w'.cell? ⟨w.heap.size,0,none⟩=some (.int .u8 4)/\w'.cell? ⟨w.heap.size,1,none⟩=some (.int .u8 r)/\w'.cell? ⟨w.heap.size,2,none⟩=some (.int .u8 t)/\w'.cell? ⟨w.heap.size,3,none⟩=some (.int .u8 f)/\w'.cell? ⟨w.heap.size,4,none⟩=some (.int .u32 0)/\w'.cell? ⟨m,0,none⟩=some ((.slice sp sn dc))/\w'.cell? ⟨m,1,none⟩=some (.int .u32 q.1)) (first|(refine HKP.out _ ?_;(repeat (first|with_reducible exact Below.refl _ _|with_reducible refine Below.drew ?_|with_reducible refine below_drewN ?_ _|with_reducible refine Below.alloc ?_ (by first|omega|(simp;done)|(simp;omega)|(simp[World.setCell];done)|(simp[World.setCell];omega)) _));done)|(refine HKP2.out (.int .u32 q.1) (.bool true) _ ?_;(repeat (first|with_reducible exact Below.refl _ _|with_reducible refine Below.drew ?_|with_reducible refine below_drewN ?_ _|with_reducible refine Below.alloc ?_ (by first|omega|(simp;done)|(simp;omega)|(simp[World.setCell];done)|(simp[World.setCell];omega)) _));done)) (first|(go_at_call 205;refine(put_any r _ (a.reg.getD r.toNat 0) (a.set.getD r.toNat false) m _ (by omega) (by omega) ?hc ?hd ?f0 ?f1).mono ?_;(case hc=>exact(HMC.out _ (by repeat (first|with_reducible exact Below.refl _ _|with_reducible refine Below.drew ?_|with_reducible refine below_drewN ?_ _|with_reducible refine Below.alloc ?_ (by first|omega|(simp;done)|(simp;omega)|(simp[World.setCell];done)|(simp[World.setCell];omega)) _))).1.reg _ (by omega));(case hd=>exact(HMC.out _ (by repeat (first|with_reducible exact Below.refl _ _|with_reducible refine Below.drew ?_|with_reducible refine below_drewN ?_ _|with_reducible refine Below.alloc ?_ (by first|omega|(simp;done)|(simp;omega)|(simp[World.setCell];done)|(simp[World.setCell];omega)) _))).1.set _ (by omega));(case f0=>exact(HMC.out _ (by repeat (first|with_reducible exact Below.refl _ _|with_reducible refine Below.drew ?_|with_reducible refine below_drewN ?_ _|with_reducible refine Below.alloc ?_ (by first|omega|(simp;done)|(simp;omega)|(simp[World.setCell];done)|(simp[World.setCell];omega)) _))).1.froz _);(case f1=>exact(HMC.out _ (by repeat (first|with_reducible exact Below.refl _ _|with_reducible refine Below.drew ?_|with_reducible refine below_drewN ?_ _|with_reducible refine Below.alloc ?_ (by first|omega|(simp;done)|(simp;omega)|(simp[World.setCell];done)|(simp[World.setCell];omega)) _))).1.froz _);rintro e w' ⟨rfl,rfl⟩))
 all_goals
  go_wp2_with fail
  go_ret
  refine⟨rfl,?_,?_⟩
  ·exact(HMP.out _ _ (by repeat (first|with_reducible exact Below.refl _ _|with_reducible refine Below.drew ?_|with_reducible refine below_drewN ?_ _|with_reducible refine Below.alloc ?_ (by first|omega|(simp;done)|(simp;omega)|(simp[World.setCell];done)|(simp[World.setCell];omega)) _))).1
  ·exact(HMP.out _ _ (by repeat (first|with_reducible exact Below.refl _ _|with_reducible refine Below.drew ?_|with_reducible refine below_drewN ?_ _|with_reducible refine Below.alloc ?_ (by first|omega|(simp;done)|(simp;omega)|(simp[World.setCell];done)|(simp[World.setCell];omega)) _))).2
theorem do_4_1 (r t f:Int) (m:Nat) (sp:Option Addr) (sn dc:Nat) (q:Int×Int) (a:St) (w:World) (br:0<=r/\r<4) (ha:a.Ok) (hM:Mc w m (.slice sp sn dc) q a):
 Calls Tryz.prog 179 #[.pointer (some ⟨m,0,none⟩),.agg #[.int .u8 4,.int .u8 r,.int .u8 t,.int .u8 f,.int .u32 1]] w fun e w'=>e= .returned (.int .u32 0)/\Mc w' m (.slice sp sn dc) q (a.put ⟨4,r,t,f,1⟩ q.2)/\Tch m w w':=by
 have cm:=hM.m1
 have ml:=hM.lt
 have cdat:=hM.data
 have HM:Hid (Mc w m (.slice sp sn dc) q a):=hM
 have HAO:Hid a.Ok:=ha
 have HKP:Hid (∀u,Below (w.heap.size+1) (w.alloc (.cells #[.int .u8 4,.int .u8 r,.int .u8 t,.int .u8 f,.int .u32 1] 250)) u->(fun w'=>w'.cell? ⟨w.heap.size,0,none⟩=some (.int .u8 4)/\w'.cell? ⟨w.heap.size,1,none⟩=some (.int .u8 r)/\w'.cell? ⟨w.heap.size,2,none⟩=some (.int .u8 t)/\w'.cell? ⟨w.heap.size,3,none⟩=some (.int .u8 f)/\w'.cell? ⟨w.heap.size,4,none⟩=some (.int .u32 1)/\w'.cell? ⟨m,0,none⟩=some ((.slice sp sn dc))/\w'.cell? ⟨m,2,none⟩=some (.int .u32 q.2)) u):=fun u hw=>by
  have hc:∀c,u.cell? ⟨w.heap.size,c,none⟩=(w.alloc (.cells #[.int .u8 4,.int .u8 r,.int .u8 t,.int .u8 f,.int .u32 1] 250)).cell? ⟨w.heap.size,c,none⟩:=fun c=>hw.cell (p:=⟨w.heap.size,c,none⟩) (by simp)
  have hd:∀c,u.cell? ⟨m,c,none⟩=w.cell? ⟨m,c,none⟩:=fun c=>(hw.cell (p:=⟨m,c,none⟩) (by show m<_;omega)).trans (World.cell?_alloc_lt _ _ _ ml)
  refine⟨?_,?_,?_,?_,?_,(hd _).trans cdat,(hd _).trans cm⟩<;>(rw[hc,World.cell?_alloc_at _ _ _ _ rfl];rfl)
 have HKP2:Hid (∀v v' u,Below (w.heap.size+1) (((w.setCell ⟨m,3+r.toNat,none⟩ v).setCell ⟨m,7+r.toNat,none⟩ v').alloc (.cells #[.int .u8 4,.int .u8 r,.int .u8 t,.int .u8 f,.int .u32 1] 250)) u->(fun w'=>w'.cell? ⟨w.heap.size,0,none⟩=some (.int .u8 4)/\w'.cell? ⟨w.heap.size,1,none⟩=some (.int .u8 r)/\w'.cell? ⟨w.heap.size,2,none⟩=some (.int .u8 t)/\w'.cell? ⟨w.heap.size,3,none⟩=some (.int .u8 f)/\w'.cell? ⟨w.heap.size,4,none⟩=some (.int .u32 1)/\w'.cell? ⟨m,0,none⟩=some ((.slice sp sn dc))/\w'.cell? ⟨m,2,none⟩=some (.int .u32 q.2)) u):=fun v v' u hw=>by
  have hz:((w.setCell ⟨m,3+r.toNat,none⟩ v).setCell ⟨m,7+r.toNat,none⟩ v').heap.size=w.heap.size:=by simp[World.setCell]
  have hc:∀c,u.cell? ⟨w.heap.size,c,none⟩=(((w.setCell ⟨m,3+r.toNat,none⟩ v).setCell ⟨m,7+r.toNat,none⟩ v').alloc (.cells #[.int .u8 4,.int .u8 r,.int .u8 t,.int .u8 f,.int .u32 1] 250)).cell? ⟨w.heap.size,c,none⟩:=fun c=>hw.cell (p:=⟨w.heap.size,c,none⟩) (by simp)
  have hd:∀c,c<3->u.cell? ⟨m,c,none⟩=w.cell? ⟨m,c,none⟩:=fun c hc=>by
   rw[hw.cell (p:=⟨m,c,none⟩) (by show m<_;omega),World.cell?_alloc_lt _ _ _ (by rw[hz];exact ml),cell_set_off _ _ _ _ _ (by omega),cell_set_off _ _ _ _ _ (by omega)]
  refine⟨?_,?_,?_,?_,?_,(hd _ (by omega)).trans cdat,(hd _ (by omega)).trans cm⟩<;>(rw[hc,World.cell?_alloc_at _ _ _ _ hz.symm];rfl)
 have HMC:Hid (∀u,Below (w.heap.size+1) (w.alloc (.cells #[.int .u8 4,.int .u8 r,.int .u8 t,.int .u8 f,.int .u32 1] 250)) u->Mc u m (.slice sp sn dc) q a/\Tch m w u):=fun u hw=>by
  have hb:Below w.heap.size w u:=((Below.refl _ _).alloc (Nat.le_refl _) _).trans (hw.mono (by omega))
  exact⟨HM.out.below hb,Tch.of hb⟩
 have HMP:Hid (∀v u,Below (w.heap.size+1) (((w.setCell ⟨m,3+r.toNat,none⟩ (.int .u32 v)).setCell ⟨m,7+r.toNat,none⟩ (.bool true)).alloc (.cells #[.int .u8 4,.int .u8 r,.int .u8 t,.int .u8 f,.int .u32 1] 250)) u->Mc u m (.slice sp sn dc) q (a.put ⟨4,r,t,f,1⟩ v)/\Tch m w u):=fun v u hw=>by
  have g:=HM.out.put ha ⟨4,r,t,f,1⟩ ⟨br.1,br.2⟩ v
  have g2:Tch m w ((w.setCell ⟨m,3+r.toNat,none⟩ (.int .u32 v)).setCell ⟨m,7+r.toNat,none⟩ (.bool true)):=((Tch.refl _ _).set _ _).set _ _
  have hz:((w.setCell ⟨m,3+r.toNat,none⟩ (.int .u32 v)).setCell ⟨m,7+r.toNat,none⟩ (.bool true)).heap.size=w.heap.size:=by simp[World.setCell]
  dsimp only at g
  generalize ((w.setCell ⟨m,3+r.toNat,none⟩ (.int .u32 v)).setCell ⟨m,7+r.toNat,none⟩ (.bool true))=w9 at*
  have hb:Below w9.heap.size w9 u:=((Below.refl _ _).alloc (Nat.le_refl _) _).trans (hw.mono (by omega))
  exact⟨g.below hb,g2.trans (Tch.of hb)⟩
 clear hM cdat ha cm
 go_enter Tryz.func179,Tryz.ntmps179
 go_upto_region 7 with fail
 go_region_held3 (fun w'=>w'.cell? ⟨w.heap.size,0,none⟩=some (.int .u8 4)/\w'.cell? ⟨w.heap.size,1,none⟩=some (.int .u8 r)/\w'.cell? ⟨w.heap.size,2,none⟩=some (.int .u8 t)/\w'.cell? ⟨w.heap.size,3,none⟩=some (.int .u8 f)/\w'.cell? ⟨w.heap.size,4,none⟩=some (.int .u32 1)/\w'.cell? ⟨m,0,none⟩=some ((.slice sp sn dc))/\w'.cell? ⟨m,2,none⟩=some (.int .u32 q.2)) (first|(refine HKP.out _ ?_;(repeat (first|with_reducible exact Below.refl _ _|with_reducible refine Below.drew ?_|with_reducible refine below_drewN ?_ _|with_reducible refine Below.alloc ?_ (by first|omega|(simp;done)|(simp;omega)|(simp[World.setCell];done)|(simp[World.setCell];omega)) _));done)|(refine HKP2.out (.int .u32 q.2) (.bool true) _ ?_;(repeat (first|with_reducible exact Below.refl _ _|with_reducible refine Below.drew ?_|with_reducible refine below_drewN ?_ _|with_reducible refine Below.alloc ?_ (by first|omega|(simp;done)|(simp;omega)|(simp[World.setCell];done)|(simp[World.setCell];omega)) _));done)) (first|(go_at_call 205;refine(put_any r _ (a.reg.getD r.toNat 0) (a.set.getD r.toNat false) m _ (by omega) (by omega) ?hc ?hd ?f0 ?f1).mono ?_;(case hc=>exact(HMC.out _ (by repeat (first|with_reducible exact Below.refl _ _|with_reducible refine Below.drew ?_|with_reducible refine below_drewN ?_ _|with_reducible refine Below.alloc ?_ (by first|omega|(simp;done)|(simp;omega)|(simp[World.setCell];done)|(simp[World.setCell];omega)) _))).1.reg _ (by omega));(case hd=>exact(HMC.out _ (by repeat (first|with_reducible exact Below.refl _ _|with_reducible refine Below.drew ?_|with_reducible refine below_drewN ?_ _|with_reducible refine Below.alloc ?_ (by first|omega|(simp;done)|(simp;omega)|(simp[World.setCell];done)|(simp[World.setCell];omega)) _))).1.set _ (by omega));(case f0=>exact(HMC.out _ (by repeat (first|with_reducible exact Below.refl _ _|with_reducible refine Below.drew ?_|with_reducible refine below_drewN ?_ _|with_reducible refine Below.alloc ?_ (by first|omega|(simp;done)|(simp;omega)|(simp[World.setCell];done)|(simp[World.setCell];omega)) _))).1.froz _);(case f1=>exact(HMC.out _ (by repeat (first|with_reducible exact Below.refl _ _|with_reducible refine Below.drew ?_|with_reducible refine below_drewN ?_ _|with_reducible refine Below.alloc ?_ (by first|omega|(simp;done)|(simp;omega)|(simp[World.setCell];done)|(simp[World.setCell];omega)) _))).1.froz _);rintro e w' ⟨rfl,rfl⟩))
 all_goals
  go_wp2_with fail
  go_ret
  refine⟨rfl,?_,?_⟩
  ·exact(HMP.out _ _ (by repeat (first|with_reducible exact Below.refl _ _|with_reducible refine Below.drew ?_|with_reducible refine below_drewN ?_ _|with_reducible refine Below.alloc ?_ (by first|omega|(simp;done)|(simp;omega)|(simp[World.setCell];done)|(simp[World.setCell];omega)) _))).1
  ·exact(HMP.out _ _ (by repeat (first|with_reducible exact Below.refl _ _|with_reducible refine Below.drew ?_|with_reducible refine below_drewN ?_ _|with_reducible refine Below.alloc ?_ (by first|omega|(simp;done)|(simp;omega)|(simp[World.setCell];done)|(simp[World.setCell];omega)) _))).2
theorem do_5 (r t f k:Int) (m:Nat) (sp:Option Addr) (sn dc:Nat) (q:Int×Int) (a:St) (w:World) (br:0<=r/\r<4) (bk:0<=k/\k<=4294967295) (ha:a.Ok) (hM:Mc w m (.slice sp sn dc) q a) (hn:sn<=4294967295):
 Calls Tryz.prog 179 #[.pointer (some ⟨m,0,none⟩),.agg #[.int .u8 5,.int .u8 r,.int .u8 t,.int .u8 f,.int .u32 k]] w fun e w'=>e= .returned (.int .u32 0)/\Mc w' m (.slice sp sn dc) q (a.put ⟨5,r,t,f,k⟩ sn)/\Tch m w w':=by
 have ml:=hM.lt
 have cdat:=hM.data
 have HM:Hid (Mc w m (.slice sp sn dc) q a):=hM
 have HAO:Hid a.Ok:=ha
 have HKP:Hid (∀u,Below (w.heap.size+1) (w.alloc (.cells #[.int .u8 5,.int .u8 r,.int .u8 t,.int .u8 f,.int .u32 k] 250)) u->(fun w'=>w'.cell? ⟨w.heap.size,0,none⟩=some (.int .u8 5)/\w'.cell? ⟨w.heap.size,1,none⟩=some (.int .u8 r)/\w'.cell? ⟨w.heap.size,2,none⟩=some (.int .u8 t)/\w'.cell? ⟨w.heap.size,3,none⟩=some (.int .u8 f)/\w'.cell? ⟨w.heap.size,4,none⟩=some (.int .u32 k)/\w'.cell? ⟨m,0,none⟩=some ((.slice sp sn dc))) u):=fun u hw=>by
  have hc:∀c,u.cell? ⟨w.heap.size,c,none⟩=(w.alloc (.cells #[.int .u8 5,.int .u8 r,.int .u8 t,.int .u8 f,.int .u32 k] 250)).cell? ⟨w.heap.size,c,none⟩:=fun c=>hw.cell (p:=⟨w.heap.size,c,none⟩) (by simp)
  have hd:∀c,u.cell? ⟨m,c,none⟩=w.cell? ⟨m,c,none⟩:=fun c=>(hw.cell (p:=⟨m,c,none⟩) (by show m<_;omega)).trans (World.cell?_alloc_lt _ _ _ ml)
  refine⟨?_,?_,?_,?_,?_,(hd _).trans cdat⟩<;>(rw[hc,World.cell?_alloc_at _ _ _ _ rfl];rfl)
 have HKP2:Hid (∀v v' u,Below (w.heap.size+1) (((w.setCell ⟨m,3+r.toNat,none⟩ v).setCell ⟨m,7+r.toNat,none⟩ v').alloc (.cells #[.int .u8 5,.int .u8 r,.int .u8 t,.int .u8 f,.int .u32 k] 250)) u->(fun w'=>w'.cell? ⟨w.heap.size,0,none⟩=some (.int .u8 5)/\w'.cell? ⟨w.heap.size,1,none⟩=some (.int .u8 r)/\w'.cell? ⟨w.heap.size,2,none⟩=some (.int .u8 t)/\w'.cell? ⟨w.heap.size,3,none⟩=some (.int .u8 f)/\w'.cell? ⟨w.heap.size,4,none⟩=some (.int .u32 k)/\w'.cell? ⟨m,0,none⟩=some ((.slice sp sn dc))) u):=fun v v' u hw=>by
  have hz:((w.setCell ⟨m,3+r.toNat,none⟩ v).setCell ⟨m,7+r.toNat,none⟩ v').heap.size=w.heap.size:=by simp[World.setCell]
  have hc:∀c,u.cell? ⟨w.heap.size,c,none⟩=(((w.setCell ⟨m,3+r.toNat,none⟩ v).setCell ⟨m,7+r.toNat,none⟩ v').alloc (.cells #[.int .u8 5,.int .u8 r,.int .u8 t,.int .u8 f,.int .u32 k] 250)).cell? ⟨w.heap.size,c,none⟩:=fun c=>hw.cell (p:=⟨w.heap.size,c,none⟩) (by simp)
  have hd:∀c,c<3->u.cell? ⟨m,c,none⟩=w.cell? ⟨m,c,none⟩:=fun c hc=>by
   rw[hw.cell (p:=⟨m,c,none⟩) (by show m<_;omega),World.cell?_alloc_lt _ _ _ (by rw[hz];exact ml),cell_set_off _ _ _ _ _ (by omega),cell_set_off _ _ _ _ _ (by omega)]
  refine⟨?_,?_,?_,?_,?_,(hd _ (by omega)).trans cdat⟩<;>(rw[hc,World.cell?_alloc_at _ _ _ _ hz.symm];rfl)
 have HMC:Hid (∀u,Below (w.heap.size+1) (w.alloc (.cells #[.int .u8 5,.int .u8 r,.int .u8 t,.int .u8 f,.int .u32 k] 250)) u->Mc u m (.slice sp sn dc) q a/\Tch m w u):=fun u hw=>by
  have hb:Below w.heap.size w u:=((Below.refl _ _).alloc (Nat.le_refl _) _).trans (hw.mono (by omega))
  exact⟨HM.out.below hb,Tch.of hb⟩
 have HMP:Hid (∀v u,Below (w.heap.size+1) (((w.setCell ⟨m,3+r.toNat,none⟩ (.int .u32 v)).setCell ⟨m,7+r.toNat,none⟩ (.bool true)).alloc (.cells #[.int .u8 5,.int .u8 r,.int .u8 t,.int .u8 f,.int .u32 k] 250)) u->Mc u m (.slice sp sn dc) q (a.put ⟨5,r,t,f,k⟩ v)/\Tch m w u):=fun v u hw=>by
  have g:=HM.out.put ha ⟨5,r,t,f,k⟩ ⟨br.1,br.2⟩ v
  have g2:Tch m w ((w.setCell ⟨m,3+r.toNat,none⟩ (.int .u32 v)).setCell ⟨m,7+r.toNat,none⟩ (.bool true)):=((Tch.refl _ _).set _ _).set _ _
  have hz:((w.setCell ⟨m,3+r.toNat,none⟩ (.int .u32 v)).setCell ⟨m,7+r.toNat,none⟩ (.bool true)).heap.size=w.heap.size:=by simp[World.setCell]
  dsimp only at g
  generalize ((w.setCell ⟨m,3+r.toNat,none⟩ (.int .u32 v)).setCell ⟨m,7+r.toNat,none⟩ (.bool true))=w9 at*
  have hb:Below w9.heap.size w9 u:=((Below.refl _ _).alloc (Nat.le_refl _) _).trans (hw.mono (by omega))
  exact⟨g.below hb,g2.trans (Tch.of hb)⟩
 have hwr:IntKind.u32.wrap (sn:Int)=sn:=by rw[IntKind.wrap_u32];omega
 have hmo:(sn:Int) % 4294967296=sn:=by omega
 clear hM cdat ha
 go_enter Tryz.func179,Tryz.ntmps179
 go_upto_region 9 with fail
 go_region_held3 (fun w'=>w'.cell? ⟨w.heap.size,0,none⟩=some (.int .u8 5)/\w'.cell? ⟨w.heap.size,1,none⟩=some (.int .u8 r)/\w'.cell? ⟨w.heap.size,2,none⟩=some (.int .u8 t)/\w'.cell? ⟨w.heap.size,3,none⟩=some (.int .u8 f)/\w'.cell? ⟨w.heap.size,4,none⟩=some (.int .u32 k)/\w'.cell? ⟨m,0,none⟩=some ((.slice sp sn dc))) (first|(refine HKP.out _ ?_;(repeat (first|with_reducible exact Below.refl _ _|with_reducible refine Below.drew ?_|with_reducible refine below_drewN ?_ _|with_reducible refine Below.alloc ?_ (by first|omega|(simp;done)|(simp;omega)|(simp[World.setCell];done)|(simp[World.setCell];omega)) _));done)|(refine HKP2.out (.int .u32 (sn:Int)) (.bool true) _ ?_;(repeat (first|with_reducible exact Below.refl _ _|with_reducible refine Below.drew ?_|with_reducible refine below_drewN ?_ _|with_reducible refine Below.alloc ?_ (by first|omega|(simp;done)|(simp;omega)|(simp[World.setCell];done)|(simp[World.setCell];omega)) _));done)) (first|(go_at_call 205;refine(put_any r _ (a.reg.getD r.toNat 0) (a.set.getD r.toNat false) m _ (by omega) (by omega) ?hc ?hd ?f0 ?f1).mono ?_;(case hc=>exact(HMC.out _ (by repeat (first|with_reducible exact Below.refl _ _|with_reducible refine Below.drew ?_|with_reducible refine below_drewN ?_ _|with_reducible refine Below.alloc ?_ (by first|omega|(simp;done)|(simp;omega)|(simp[World.setCell];done)|(simp[World.setCell];omega)) _))).1.reg _ (by omega));(case hd=>exact(HMC.out _ (by repeat (first|with_reducible exact Below.refl _ _|with_reducible refine Below.drew ?_|with_reducible refine below_drewN ?_ _|with_reducible refine Below.alloc ?_ (by first|omega|(simp;done)|(simp;omega)|(simp[World.setCell];done)|(simp[World.setCell];omega)) _))).1.set _ (by omega));(case f0=>exact(HMC.out _ (by repeat (first|with_reducible exact Below.refl _ _|with_reducible refine Below.drew ?_|with_reducible refine below_drewN ?_ _|with_reducible refine Below.alloc ?_ (by first|omega|(simp;done)|(simp;omega)|(simp[World.setCell];done)|(simp[World.setCell];omega)) _))).1.froz _);(case f1=>exact(HMC.out _ (by repeat (first|with_reducible exact Below.refl _ _|with_reducible refine Below.drew ?_|with_reducible refine below_drewN ?_ _|with_reducible refine Below.alloc ?_ (by first|omega|(simp;done)|(simp;omega)|(simp[World.setCell];done)|(simp[World.setCell];omega)) _))).1.froz _);rintro e w' ⟨rfl,rfl⟩))
 all_goals
  go_wp2_with fail
  go_ret
  refine⟨rfl,?_,?_⟩
  ·exact(HMP.out _ _ (by repeat (first|with_reducible exact Below.refl _ _|with_reducible refine Below.drew ?_|with_reducible refine below_drewN ?_ _|with_reducible refine Below.alloc ?_ (by first|omega|(simp;done)|(simp;omega)|(simp[World.setCell];done)|(simp[World.setCell];omega)) _))).1
  ·exact(HMP.out _ _ (by repeat (first|with_reducible exact Below.refl _ _|with_reducible refine Below.drew ?_|with_reducible refine below_drewN ?_ _|with_reducible refine Below.alloc ?_ (by first|omega|(simp;done)|(simp;omega)|(simp[World.setCell];done)|(simp[World.setCell];omega)) _))).2
end Go.Proofs.YtclpnafiiobfhaaGreatDoor

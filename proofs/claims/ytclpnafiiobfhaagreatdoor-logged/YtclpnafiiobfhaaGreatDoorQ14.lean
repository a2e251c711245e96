import Derived.Test.YtclpnafiiobfhaaGreatDoorQ10
import Derived.Test.YtclpnafiiobfhaaGreatDoorQ13
set_option linter.unusedVariables false
set_option linter.unusedSimpArgs false
set_option maxRecDepth 100000
set_option maxHeartbeats 6400000
namespace Go.Proofs.YtclpnafiiobfhaaGreatDoor
open Go.RowKit
theorem zAP.heap {w w':World} {B Q:Nat} {c:Cod} {lv tv fv:Value} (h:zAP w B Q c lv tv fv) (e:w'.heap=w.heap):zAP w' B Q c lv tv fv:=by
 have hc:∀i,w'.cell? ⟨Q,i,none⟩=w.cell? ⟨Q,i,none⟩:=fun i=>World.cell?_of_block (w:=w) (by rw[e])
 exact⟨(hc 0).trans h.c0,(hc 1).trans h.c1,(hc 2).trans h.c2,(hc 3).trans h.c3,zAS h.o0 (fun g _=>by rw[e]),zAS h.o1 (fun g _=>by rw[e]),zAS h.o2 (fun g _=>by rw[e]),h.d01,h.d02,h.d12,fun i=>(World.frozen?_of_block (w:=w) (by rw[e])).trans (h.f i),h.lt,by rw[e];exact h.le⟩
theorem zAP.put {w:World} {B Q:Nat} {c:Cod} {tv fv:Value} {lg lc:Nat} (h:zAP w B Q c (.slice (some ⟨lg,0,none⟩) c.L.length lc) tv fv) (L':List Ins) (hl:L'.length=c.L.length) (j:Nat) (u:Value) (he:(zAU c.L).set j u=zAU L'):zAP (w.setCell ⟨lg,j,none⟩ u) B Q ⟨L',c.T,c.F,c.z⟩ (.slice (some ⟨lg,0,none⟩) c.L.length lc) tv fv/\zBj Q w (w.setCell ⟨lg,j,none⟩ u):=by
 have hlg:B<=lg:=zAE h.o0 lg rfl;have hne:lg≠Q:=by have:=h.lt;omega
 have hc:∀i,(w.setCell ⟨lg,j,none⟩ u).cell? ⟨Q,i,none⟩=w.cell? ⟨Q,i,none⟩:=fun i=>World.cell?_setCell_other _ _ _ _ (by intro q;injection q with q1 q2;exact hne q1)
 have o0:=(h.o0.stored j u).1;rw[he] at o0;refine⟨⟨(hc 0).trans h.c0,(hc 1).trans h.c1,(hc 2).trans h.c2,(hc 3).trans h.c3,by rw[hl];exact o0,zAS h.o1 (fun g hg=>Below.heap_setCell _ _ _ _ (by intro q;subst q;exact h.d01 g rfl hg)),zAS h.o2 (fun g hg=>Below.heap_setCell _ _ _ _ (by intro q;subst q;exact h.d02 g rfl hg)),h.d01,h.d02,h.d12,fun i=>by simp[h.f],h.lt,by simp[World.setCell];exact h.le⟩,?_⟩;refine⟨rfl,rfl,rfl,by simp[World.setCell],fun m hm hn=>⟨Below.heap_setCell _ _ _ _ (fun q=>hn (Or.inr ⟨0,_,by decide,h.c0,by rw[q];rfl⟩)),fun q=>hn ?_⟩⟩;rcases q with q|⟨i,v,hi,hcc,hv⟩
 ·exact Or.inl q
 ·rw[hc i] at hcc
  exact Or.inr ⟨i,v,hi,hcc,hv⟩
def zQ3 (T:List Nat) (n:Nat):Prop:=∀a ∈ T,a<n/\n-a-1<=255
theorem zAP.nilT {w:World} {B Q:Nat} {c:Cod} {lv tv fv:Value} (h:zAP w B Q c lv tv fv):zAP ((w.setCell ⟨Q,1,none⟩ (.slice none 0 0)).setCell ⟨Q,2,none⟩ (.slice none 0 0)) B Q ⟨c.L,[],[],c.z⟩ lv (.slice none 0 0) (.slice none 0 0)/\zBj Q w ((w.setCell ⟨Q,1,none⟩ (.slice none 0 0)).setCell ⟨Q,2,none⟩ (.slice none 0 0)):=by
 have b0:((w.setCell ⟨Q,1,none⟩ (.slice none 0 0)).setCell ⟨Q,2,none⟩ (.slice none 0 0)).cell? ⟨Q,0,none⟩=some lv:=by
  rw[World.cell?_setCell_other _ _ _ _ (by simp),World.cell?_setCell_other _ _ _ _ (by simp)];exact h.c0
 have b1:((w.setCell ⟨Q,1,none⟩ (.slice none 0 0)).setCell ⟨Q,2,none⟩ (.slice none 0 0)).cell? ⟨Q,1,none⟩=some (.slice none 0 0):=by
  rw[World.cell?_setCell_other _ _ _ _ (by simp)];exact World.cell?_setCell_same _ _ _ h.c1
 have b2:((w.setCell ⟨Q,1,none⟩ (.slice none 0 0)).setCell ⟨Q,2,none⟩ (.slice none 0 0)).cell? ⟨Q,2,none⟩=some (.slice none 0 0):=
  World.cell?_setCell_same _ _ _ ((World.cell?_setCell_other _ _ _ _ (by simp)).trans h.c2)
 have b3:((w.setCell ⟨Q,1,none⟩ (.slice none 0 0)).setCell ⟨Q,2,none⟩ (.slice none 0 0)).cell? ⟨Q,3,none⟩=some (.int .u64 (c.z:Int)):=by
  rw[World.cell?_setCell_other _ _ _ _ (by simp),World.cell?_setCell_other _ _ _ _ (by simp)];exact h.c3
 have blk:∀g,g≠Q->((w.setCell ⟨Q,1,none⟩ (.slice none 0 0)).setCell ⟨Q,2,none⟩ (.slice none 0 0)).heap[g]? =w.heap[g]? :=fun g hg=>by
  rw[Below.heap_setCell _ _ _ _ hg,Below.heap_setCell _ _ _ _ hg]
 refine⟨⟨b0,b1,b2,b3,zAS h.o0 (fun g hg=>blk g (by have:=zAE h.o0 g hg;have:=h.lt;omega)),World.ownsRow_nil _ _ _ _,World.ownsRow_nil _ _ _ _,fun g _ q=>(by cases q),fun g _ q=>(by cases q),fun g q=>(by cases q),fun i=>by simp[h.f],h.lt,by simp[World.setCell];exact h.le⟩,?_⟩;refine⟨rfl,rfl,rfl,by simp[World.setCell],fun m hm hn=>⟨blk m (fun q=>hn (Or.inl q)),fun q=>hn ?_⟩⟩;rcases q with q|⟨i,v,hi,hcc,hv⟩
 ·exact Or.inl q
 ·rcases i with _|_|_|i
  ·rw[b0] at hcc;exact Or.inr ⟨0,v,by decide,by rw[h.c0];exact hcc,hv⟩
  ·rw[b1] at hcc;injection hcc with hcc;subst hcc;cases hv
  ·rw[b2] at hcc;injection hcc with hcc;subst hcc;cases hv
  ·omega
theorem zQG (B Q:Nat) (c:Cod) (hs:c.Sm 3900) (hT:zQ3 c.T c.L.length) (hF:zQ3 c.F c.L.length):zCD 124 #[.pointer (some ⟨Q,0,none⟩)] B Q c ⟨zDY (zDM c.L c.T) c.F,[],[],c.z⟩:=by
 intro w ⟨lv,tv,fv,hC⟩;have HNT:=hid hT;have HNF:=hid hF;have hsL:=hs.L;have hsT:=hs.T;have hsF:=hs.F;have HC:=hid hC;obtain⟨lp,lc,hlv⟩:=zA7 hC.o0;obtain⟨tp,tc,htv⟩:=zA7 hC.o1;obtain⟨fp,fc,hfv⟩:=zA7 hC.o2;have k1:=hC.c1;have k2:=hC.c2;rw[htv] at k1;rw[hfv] at k2;have HLV:=hid hlv;have HTV:=hid htv;have HFV:=hid hfv;clear hT hF hC hlv htv hfv hs;go_enter Tryz.func124,Tryz.ntmps124;go_wp2_with fail;go_loopw [11] (fun i wr=>∃(j:Nat) (L':List Ins),j<=c.T.length/\i= .int .i64 j/\zDM c.L c.T=zDM L' (c.T.drop j)/\L'.length=c.L.length/\zAP wr B Q ⟨L',c.T,c.F,c.z⟩ lv tv fv/\zBj Q w wr) (fun i _=>c.T.length-(intOf i).toNat)
 case atStart=>exact⟨0,c.L,Nat.zero_le _,rfl,rfl,rfl,HC.out,zBj.refl _ _⟩
 case round=>
  obtain⟨j,L',hj,rfl,hjn,hlen,hCr,hGr⟩:=hrel;have HJN:=hid hjn;have HCr:=hid hCr;have HGr:=hid hGr;have HLEN:=hid hlen;clear hjn hCr hGr hlen
  by_cases hlt:j<c.T.length
  ·obtain⟨a,ha⟩:∃a,c.T.getD j 0=a:=⟨_,rfl⟩
   have hmem:a ∈ c.T:=by
    rw[<-ha,List.getD_eq_getElem?_getD,List.getElem?_eq_getElem hlt];exact List.getElem_mem hlt
   have hnr:=HNT.out a hmem;have hdr:c.T.drop j=a::c.T.drop (j+1):=by
    rw[List.drop_eq_getElem_cons hlt,<-ha,List.getD_eq_getElem?_getD,List.getElem?_eq_getElem hlt];rfl
   obtain⟨tg,htg⟩:∃tg,tp=some ⟨tg,0,none⟩:=by
    rcases HCr.out.o1.2 with⟨e,e'⟩|⟨g,cap,cur,e,_⟩
    ·exact absurd e' (by show c.T.length≠0;omega)
    ·rw[HTV.out] at e;injection e with e;exact⟨g,e⟩
   obtain⟨lg,hlg⟩:∃lg,lp=some ⟨lg,0,none⟩:=by
    rcases HCr.out.o0.2 with⟨e,e'⟩|⟨g,cap,cur,e,_⟩
    ·exact absurd e' (by show L'.length≠0;rw[HLEN.out];omega)
    ·rw[HLV.out] at e;injection e with e;exact⟨g,e⟩
   subst htg hlg;have HA:=hid ha;have q1:wr.cell? ⟨tg,j,none⟩=some (.int .i64 (a:Int)):=by
    have h1:=HCr.out.o1;rw[HTV.out] at h1;rw[h1.cellAt j (by show j<c.T.length*1;omega)];unfold zHD;rw[List.getElem?_map,<-ha,List.getD_eq_getElem?_getD,List.getElem?_eq_getElem hlt];rfl
   have h0:=HCr.out.o0;rw[HLV.out] at h0;have ev:(Value.slice (some ⟨lg,0,none⟩) c.L.length lc)= .slice (some ⟨lg,0,none⟩) L'.length lc:=by rw[HLEN.out]
   rw[ev] at h0;obtain⟨u,hu⟩:∃u,wr.cell? ⟨lg,a*5+2,none⟩=some u:=by
    rw[h0.cellAt (a*5+2) (by show _<L'.length*5;rw[HLEN.out];omega)];exact⟨_,List.getElem?_eq_getElem (by rw[zC6];show _<L'.length*5;rw[HLEN.out];omega)⟩
   have hfz:=h0.frozenAt (a*5+2);have kk:=HCr.out.c0;rw[HLV.out] at kk;have hOv:∀W:World,W.heap=wr.heap->Calls Tryz.prog 142 #[.pointer (some ⟨Q,0,none⟩),.int .i64 (a:Int)] W fun e w'=>e= .returned (.int .u8 ((c.L.length-a-1:Nat):Int))/\w'=W:=fun W hW=>by
    have:=zJy B Q ⟨L',c.T,c.F,c.z⟩ lv tv fv a W (HCr.out.heap hW) (by show a<L'.length;rw[HLEN.out];exact hnr.1) (by show L'.length<=4000;rw[HLEN.out];omega) (by show L'.length-a-1<=255;rw[HLEN.out];exact hnr.2);rw[show(Cod.L ⟨L',c.T,c.F,c.z⟩).length=c.L.length from HLEN.out] at this;exact this
   have HOV:=hid hOv;have HPUT:Hid (∀U:World,U.heap=(wr.setCell ⟨lg,a*5+2,none⟩ (.int .u8 ((c.L.length-a-1:Nat):Int))).heap->U.os=wr.os->U.tape=wr.tape->U.output=wr.output->zAP U B Q ⟨L'.set a ((L'.getD a zLX).atT (c.L.length-a-1)),c.T,c.F,c.z⟩ lv tv fv/\zBj Q w U):=fun U hU h1 h2 h3=>by
    have hcw:=HCr.out;have hlv':lv= .slice (some ⟨lg,0,none⟩) (Cod.L ⟨L',c.T,c.F,c.z⟩).length lc:=by rw[HLV.out];exact ev
    rw[hlv'] at hcw ⊢;have hp:=hcw.put (L'.set a ((L'.getD a zLX).atT (c.L.length-a-1))) (by simp) (a*5+2) (.int .u8 ((c.L.length-a-1:Nat):Int)) (zDp L' a _ (by rw[HLEN.out];exact hnr.1));have hg2:zBj Q (wr.setCell ⟨lg,a*5+2,none⟩ (.int .u8 ((c.L.length-a-1:Nat):Int))) U:=⟨h1,h2,h3,by rw[hU];exact Nat.le_refl _,fun m hm hn=>⟨by rw[hU],fun q=>hn (by
     rcases q with q|⟨i,v,hi,hcc,hv⟩
     ·exact Or.inl q
     ·exact Or.inr ⟨i,v,hi,by rw[<-World.cell?_of_block (w:=wr.setCell ⟨lg,a*5+2,none⟩ (.int .u8 ((c.L.length-a-1:Nat):Int))) (w':=U) (a:=⟨Q,i,none⟩) (by rw[hU])];exact hcc,hv⟩)⟩⟩
    exact⟨hp.1.heap hU,(HGr.out.trans hp.2).trans hg2⟩
   have HNX:Hid (zDM c.L c.T=zDM (L'.set a ((L'.getD a zLX).atT (c.L.length-a-1))) (c.T.drop (j+1))):=show _=_ by rw[HJN.out,hdr,zDM,HLEN.out]
   have ha1:(a:Int)<(c.L.length:Int):=by omega
   have hQl:lg≠Q:=by have:=zAE h0 lg rfl;have:=HCr.out.lt;omega
   clear h0 ev hOv hdr hmem ha;go_upto_region 3 with fail
   first|(go_region_with (go_at_call 142;refine(HOV.out _ (by rfl)).mono ?_;rintro e w' ⟨rfl,rfl⟩))|fail
   all_goals
    go_wp2_with fail;go_roundw
    case rel=>exact⟨j+1,_,by omega,by go_num,HNX.out,by simp[HLEN.out],(HPUT.out _ (by rfl) (by rfl) (by rfl) (by rfl)).1,(HPUT.out _ (by rfl) (by rfl) (by rfl) (by rfl)).2⟩
    case measure=>simp[intOf];omega
  ·have e:j=c.T.length:=by omega
   subst e;have HJ0:Hid (zDM c.L c.T=L'):=show _=_ by rw[HJN.out,List.drop_length];rfl
   clear HJN;obtain⟨L1,hL1⟩:∃L1,zDM c.L c.T=L1:=⟨_,rfl⟩;have HL1:=hid hL1;have HC1:Hid (zAP wr B Q ⟨L1,c.T,c.F,c.z⟩ lv tv fv):=show zAP _ _ _ _ _ _ _ by rw[<-hL1,HJ0.out];exact HCr.out
   have HLE1:Hid (L1.length=c.L.length):=show _=_ by rw[<-hL1,HJ0.out];exact HLEN.out
   have HG1:=hid HGr.out;have k2':=HC1.out.c2;rw[HFV.out] at k2';clear hL1 HJ0 HCr HGr HLEN k1 k2;go_wp2_with fail;go_loopw [31] (fun i wr=>∃(j:Nat) (L':List Ins),j<=c.F.length/\i= .int .i64 j/\zDY L1 c.F=zDY L' (c.F.drop j)/\L'.length=c.L.length/\zAP wr B Q ⟨L',c.T,c.F,c.z⟩ lv tv fv/\zBj Q w wr) (fun i _=>c.F.length-(intOf i).toNat)
   case atStart=>exact⟨0,L1,Nat.zero_le _,rfl,rfl,HLE1.out,HC1.out,HG1.out⟩
   case round=>
    obtain⟨j,L',hj,rfl,hjn,hlen,hCr,hGr⟩:=hrel;have HJN:=hid hjn;have HCr:=hid hCr;have HGr:=hid hGr;have HLEN:=hid hlen;clear hjn hCr hGr hlen
    by_cases hlt:j<c.F.length
    ·obtain⟨a,ha⟩:∃a,c.F.getD j 0=a:=⟨_,rfl⟩
     have hmem:a ∈ c.F:=by
      rw[<-ha,List.getD_eq_getElem?_getD,List.getElem?_eq_getElem hlt];exact List.getElem_mem hlt
     have hnr:=HNF.out a hmem;have hdr:c.F.drop j=a::c.F.drop (j+1):=by
      rw[List.drop_eq_getElem_cons hlt,<-ha,List.getD_eq_getElem?_getD,List.getElem?_eq_getElem hlt];rfl
     obtain⟨tg,htg⟩:∃tg,fp=some ⟨tg,0,none⟩:=by
      rcases HCr.out.o2.2 with⟨e,e'⟩|⟨g,cap,cur,e,_⟩
      ·exact absurd e' (by show c.F.length≠0;omega)
      ·rw[HFV.out] at e;injection e with e;exact⟨g,e⟩
     obtain⟨lg,hlg⟩:∃lg,lp=some ⟨lg,0,none⟩:=by
      rcases HCr.out.o0.2 with⟨e,e'⟩|⟨g,cap,cur,e,_⟩
      ·exact absurd e' (by show L'.length≠0;rw[HLEN.out];omega)
      ·rw[HLV.out] at e;injection e with e;exact⟨g,e⟩
     subst htg hlg;have HA:=hid ha;have q1:wr.cell? ⟨tg,j,none⟩=some (.int .i64 (a:Int)):=by
      have h1:=HCr.out.o2;rw[HFV.out] at h1;rw[h1.cellAt j (by show j<c.F.length*1;omega)];unfold zHD;rw[List.getElem?_map,<-ha,List.getD_eq_getElem?_getD,List.getElem?_eq_getElem hlt];rfl
     have h0:=HCr.out.o0;rw[HLV.out] at h0;have ev:(Value.slice (some ⟨lg,0,none⟩) c.L.length lc)= .slice (some ⟨lg,0,none⟩) L'.length lc:=by rw[HLEN.out]
     rw[ev] at h0;obtain⟨u,hu⟩:∃u,wr.cell? ⟨lg,a*5+3,none⟩=some u:=by
      rw[h0.cellAt (a*5+3) (by show _<L'.length*5;rw[HLEN.out];omega)];exact⟨_,List.getElem?_eq_getElem (by rw[zC6];show _<L'.length*5;rw[HLEN.out];omega)⟩
     have hfz:=h0.frozenAt (a*5+3);have kk:=HCr.out.c0;rw[HLV.out] at kk;have hOv:∀W:World,W.heap=wr.heap->Calls Tryz.prog 142 #[.pointer (some ⟨Q,0,none⟩),.int .i64 (a:Int)] W fun e w'=>e= .returned (.int .u8 ((c.L.length-a-1:Nat):Int))/\w'=W:=fun W hW=>by
      have:=zJy B Q ⟨L',c.T,c.F,c.z⟩ lv tv fv a W (HCr.out.heap hW) (by show a<L'.length;rw[HLEN.out];exact hnr.1) (by show L'.length<=4000;rw[HLEN.out];omega) (by show L'.length-a-1<=255;rw[HLEN.out];exact hnr.2);rw[show(Cod.L ⟨L',c.T,c.F,c.z⟩).length=c.L.length from HLEN.out] at this;exact this
     have HOV:=hid hOv;have HPUT:Hid (∀U:World,U.heap=(wr.setCell ⟨lg,a*5+3,none⟩ (.int .u8 ((c.L.length-a-1:Nat):Int))).heap->U.os=wr.os->U.tape=wr.tape->U.output=wr.output->zAP U B Q ⟨L'.set a ((L'.getD a zLX).atF (c.L.length-a-1)),c.T,c.F,c.z⟩ lv tv fv/\zBj Q w U):=fun U hU h1 h2 h3=>by
      have hcw:=HCr.out;have hlv':lv= .slice (some ⟨lg,0,none⟩) (Cod.L ⟨L',c.T,c.F,c.z⟩).length lc:=by rw[HLV.out];exact ev
      rw[hlv'] at hcw ⊢;have hp:=hcw.put (L'.set a ((L'.getD a zLX).atF (c.L.length-a-1))) (by simp) (a*5+3) (.int .u8 ((c.L.length-a-1:Nat):Int)) (zDq L' a _ (by rw[HLEN.out];exact hnr.1));have hg2:zBj Q (wr.setCell ⟨lg,a*5+3,none⟩ (.int .u8 ((c.L.length-a-1:Nat):Int))) U:=⟨h1,h2,h3,by rw[hU];exact Nat.le_refl _,fun m hm hn=>⟨by rw[hU],fun q=>hn (by
       rcases q with q|⟨i,v,hi,hcc,hv⟩
       ·exact Or.inl q
       ·exact Or.inr ⟨i,v,hi,by rw[<-World.cell?_of_block (w:=wr.setCell ⟨lg,a*5+3,none⟩ (.int .u8 ((c.L.length-a-1:Nat):Int))) (w':=U) (a:=⟨Q,i,none⟩) (by rw[hU])];exact hcc,hv⟩)⟩⟩
      exact⟨hp.1.heap hU,(HGr.out.trans hp.2).trans hg2⟩
     have HNX:Hid (zDY L1 c.F=zDY (L'.set a ((L'.getD a zLX).atF (c.L.length-a-1))) (c.F.drop (j+1))):=show _=_ by rw[HJN.out,hdr,zDY,HLEN.out]
     have ha1:(a:Int)<(c.L.length:Int):=by omega
     have hQl:lg≠Q:=by have:=zAE h0 lg rfl;have:=HCr.out.lt;omega
     clear h0 ev hOv hdr hmem ha;go_upto_region 8 with fail
     first|(go_region_with (go_at_call 142;refine(HOV.out _ (by rfl)).mono ?_;rintro e w' ⟨rfl,rfl⟩))|fail
     all_goals
      go_wp2_with fail;go_roundw
      case rel=>exact⟨j+1,_,by omega,by go_num,HNX.out,by simp[HLEN.out],(HPUT.out _ (by rfl) (by rfl) (by rfl) (by rfl)).1,(HPUT.out _ (by rfl) (by rfl) (by rfl) (by rfl)).2⟩
      case measure=>simp[intOf];omega
    ·have e:j=c.F.length:=by omega
     subst e;have HJ0:Hid (zDY L1 c.F=L'):=show _=_ by rw[HJN.out,List.drop_length];rfl
     clear HJN;obtain⟨k0,k1,k2,k3,o0,o1,o2,d01,d02,d12,kf,klt,kle⟩:=HCr.out;have f1:=kf 1;have f2:=kf 2;have HN:=HCr.out.nilT;clear kf o0 o1 o2 d01 d02 d12;go_wp2_with fail;go_end0;rw[HL1.out,HJ0.out];exact⟨rfl,⟨_,_,_,HN.1⟩,HGr.out.trans HN.2⟩
def zCZ (cs:Cs):Nat->Nat->Cod->Cod
 |0,_,c=>c
 |n+1,i,c=>zCZ cs n (i+1) (match cs.getD i none with|none=>c|some v=>zFq i v c)
def zBt (r:Rl) (c:Cod):Cod:=(zCZ r.cs 8 0 ⟨c.L,c.T,c.F,34⟩).add ⟨0,0,0,0,(r.v:Int)⟩
def zDZ (c:Cod):Cod:=⟨zDY (zDM c.L c.T) c.F,[],[],c.z⟩
structure zEl (c d:Cod) (n:Nat):Prop where
 len:c.L.length<=d.L.length/\d.L.length<=c.L.length+n
 T:∀a ∈ d.T,a ∈ c.T\/(c.L.length<=a/\a<d.L.length)
 F:∀a ∈ d.F,a ∈ c.F\/(c.L.length<=a/\a<d.L.length)
 Tl:d.T.length<=c.T.length+n
 Fl:d.F.length<=c.F.length+n
theorem zEl.refl (c:Cod):zEl c c 0:=⟨⟨Nat.le_refl _,Nat.le_refl _⟩,fun a h=>Or.inl h,fun a h=>Or.inl h,Nat.le_refl _,Nat.le_refl _⟩
theorem zEl.trans {a b c:Cod} {n m:Nat} (h:zEl a b n) (k:zEl b c m):zEl a c (n+m):=by
 have h1:=h.len;have k1:=k.len;refine⟨⟨by omega,by omega⟩,fun x hx=> ?_,fun x hx=> ?_,by have:=h.Tl;have:=k.Tl;omega,by have:=h.Fl;have:=k.Fl;omega⟩
 ·rcases k.T x hx with q|q
  ·rcases h.T x q with q|q
   ·exact Or.inl q
   ·exact Or.inr ⟨by omega,by omega⟩
  ·exact Or.inr ⟨by omega,by omega⟩
 ·rcases k.F x hx with q|q
  ·rcases h.F x q with q|q
   ·exact Or.inl q
   ·exact Or.inr ⟨by omega,by omega⟩
  ·exact Or.inr ⟨by omega,by omega⟩
theorem zEl.mono {a b:Cod} {n m:Nat} (h:zEl a b n) (hm:n<=m):zEl a b m:=⟨⟨h.len.1,by have:=h.len.2;omega⟩,h.T,h.F,by have:=h.Tl;omega,by have:=h.Fl;omega⟩
theorem zBN (c:Cod) (x:Ins):zEl c (c.add x) 1:=⟨⟨by simp[Cod.add],by simp[Cod.add]⟩,fun a h=>Or.inl h,fun a h=>Or.inl h,by simp[Cod.add],by simp[Cod.add]⟩
theorem zBf (c:Cod) (x:Ins):zEl c (c.leave x) 1:=⟨⟨by simp[Cod.leave],by simp[Cod.leave]⟩,fun a h=>Or.inl h,fun a h=>by
 rcases List.mem_append.1 h with h|h
 ·exact Or.inl h
 ·rw[List.mem_singleton] at h;subst h;exact Or.inr ⟨Nat.le_refl _,by simp[Cod.leave]⟩,by simp[Cod.leave],by simp[Cod.leave]⟩
theorem zCm (c:Cod) (x:Ins):zEl c (c.unless x) 1:=⟨⟨by simp[Cod.unless],by simp[Cod.unless]⟩,fun a h=>by
 rcases List.mem_append.1 h with h|h
 ·exact Or.inl h
 ·rw[List.mem_singleton] at h;subst h;exact Or.inr ⟨Nat.le_refl _,by simp[Cod.unless]⟩,fun a h=>Or.inl h,by simp[Cod.unless],by simp[Cod.unless]⟩
theorem zCa (c:Cod) (e:Nat):zEl c (c.sure e) 1:=by
 unfold Cod.sure
 split
 ·have:=zBf c ⟨9,1,0,0,(e:Int)⟩
  exact⟨this.len,this.T,this.F,this.Tl,this.Fl⟩
 ·exact(zEl.refl c).mono (by decide)
theorem zGC:∀(l:List Bool) (c:Cod) (i:Nat),zEl c (zC5 c l i) l.length
 |[],c,i=>zEl.refl c
 |b::r,c,i=>by
  rw[zC5];have h1:zEl c (if b then c else c.unless ⟨8,0,0,0,(i:Int)⟩) 1:=by
   cases b
   ·exact zCm c _
   ·exact(zEl.refl c).mono (by decide)
  exact(h1.trans (zGC r _ (i+1))).mono (by simp;omega)
theorem zHk (i:Nat) (v:List Nat) (c:Cod):zEl c (zFq i v c) 5:=by
 unfold zFq
 split
 ·exact((zBN c _).trans (zBf _ _)).mono (by decide)
 split
 ·exact((((zCa c _).trans (zBN _ _)).trans (zBN _ _)).trans (zBf _ _)).mono (by decide)
 split
 ·exact((((zCa c _).trans (zBN _ _)).trans (zBN _ _)).trans (zBf _ _)).mono (by decide)
 split
 ·exact(((zCa c _).trans (zBN _ _)).trans (zBf _ _)).mono (by decide)
 split
 ·exact((((zCa c _).trans (zBN _ _)).trans (zBf _ _)).trans (zCm _ _)).mono (by decide)
 split
 ·exact((((zCa c _).trans (zBN _ _)).trans (zBf _ _)).trans (zCm _ _)).mono (by decide)
 split
 ·exact((((zCa c _).trans (zBN _ _)).trans (zBN _ _)).trans (zBf _ _)).mono (by decide)
 ·exact(((zBN c _).trans (zCm _ _)).trans (zGC _ _ _)).mono (by simp)
theorem zDG (cs:Cs):∀(n i:Nat) (c:Cod),zEl c (zCZ cs n i c) (n*5)
 |0,i,c=>zEl.refl c
 |n+1,i,c=>by
  rw[zCZ];have h2:zEl c (match cs.getD i none with|none=>c|some v=>zFq i v c) 5:=by
   split
   ·exact(zEl.refl c).mono (by decide)
   ·exact zHk _ _ _
  exact(h2.trans (zDG cs n (i+1) _)).mono (by omega)
theorem zEl.sm {c d:Cod} {n m:Nat} (h:zEl c d n) (hs:c.Sm m):d.Sm (m+n):=⟨by have:=h.len;have:=hs.L;omega,by have:=h.Tl;have:=hs.T;omega,by have:=h.Fl;have:=hs.F;omega⟩
theorem zMd (r:Rl) (c:Cod) (hT:c.T=[]) (hF:c.F=[]):zQ3 (zBt r c).T (zBt r c).L.length/\zQ3 (zBt r c).F (zBt r c).L.length:=by
 have h:=(zDG r.cs 8 0 ⟨c.L,c.T,c.F,34⟩).trans (zBN _ ⟨0,0,0,0,(r.v:Int)⟩);have hl:=h.len
 constructor
 ·intro a ha
  rcases h.T a ha with q|q
  ·rw[hT] at q;cases q
  ·unfold zBt
   omega
 ·intro a ha
  rcases h.F a ha with q|q
  ·rw[hF] at q;cases q
  ·unfold zBt
   omega
theorem zI6 (cs:Cs) (n i:Nat) (c:Cod):zCZ cs (n+1) i c=zCZ cs n (i+1) (match cs.getD i none with|none=>c|some v=>zFq i v c):=rfl
theorem zQH (B Q:Nat) (c:Cod) (r:Rl) (hr:zGa r) (hT:c.T=[]) (hF:c.F=[]) (hs:c.L.length<=3600):zCD 103 #[.pointer (some ⟨Q,0,none⟩),zHf r.v r.cs] B Q c (zDZ (zBt r c)):=by
 intro w hC;have hQ:=hC.lt;unfold zHf;obtain⟨rv,rcs⟩:=r;have hgv:rv<=2:=hr.v;have hgc:=hr.cs.2;have HGC:=hid hgc;have HNR:Hid (zQ3 (zBt ⟨rv,rcs⟩ c).T (zBt ⟨rv,rcs⟩ c).L.length/\zQ3 (zBt ⟨rv,rcs⟩ c).F (zBt ⟨rv,rcs⟩ c).L.length):=zMd ⟨rv,rcs⟩ c hT hF;have hcell:∀i,(rcs.getD i none=none->zAA rcs i= .nilIface):=fun i h=>by unfold zAA;rw[h]
 have hcell':∀i v,rcs.getD i none=some v->zAA rcs i=zF9 i v:=fun i v h=>by unfold zAA;rw[h]
 have HCN:=hid hcell;have HCS:=hid hcell';have hs0:(⟨c.L,c.T,c.F,34⟩:Cod).Sm 3600:=⟨hs,by simp[hT],by simp[hF]⟩;have HC:=hid hC;dsimp only;have HX8:∀i,i<8->∃x,zAA rcs i=x:=fun i _=>⟨_,rfl⟩
 obtain⟨x0,e0⟩:=HX8 0 (by decide);obtain⟨x1,e1⟩:=HX8 1 (by decide);obtain⟨x2,e2⟩:=HX8 2 (by decide);obtain⟨x3,e3⟩:=HX8 3 (by decide);obtain⟨x4,e4⟩:=HX8 4 (by decide);obtain⟨x5,e5⟩:=HX8 5 (by decide);obtain⟨x6,e6⟩:=HX8 6 (by decide);obtain⟨x7,e7⟩:=HX8 7 (by decide);rw[e0,e1,e2,e3,e4,e5,e6,e7];have HXS:Hid (∀i,i<8->zAA rcs i=[x0,x1,x2,x3,x4,x5,x6,x7].getD i .nilIface):=fun i hi=>by
  rcases i with _|_|_|_|_|_|_|_|i
  ·exact e0
  ·exact e1
  ·exact e2
  ·exact e3
  ·exact e4
  ·exact e5
  ·exact e6
  ·exact e7
  ·omega
 have HIX:Hid (∀i:Nat,i<8->∀W,(Instr.index 149 (.agg #[x0,x1,x2,x3,x4,x5,x6,x7]) (.int .i64 (i:Int))).run Tryz.prog W= .ok ([x0,x1,x2,x3,x4,x5,x6,x7].getD i .nilIface) W):=fun i hi W=>by
  rcases i with _|_|_|_|_|_|_|_|i
  ·kernel_rfl
  ·kernel_rfl
  ·kernel_rfl
  ·kernel_rfl
  ·kernel_rfl
  ·kernel_rfl
  ·kernel_rfl
  ·kernel_rfl
  ·omega
 obtain⟨W0,hW0⟩:∃W0,w.alloc (.cells #[.int .u8 (rv:Int),x0,x1,x2,x3,x4,x5,x6,x7] 151)=W0:=⟨_,rfl⟩;have HG0:Hid (zBj Q w W0):=show zBj Q w W0 by rw[<-hW0];exact zA2 w Q _ hQ
 have HX0:Hid (Bx W0 Q w.heap.size #[.int .u8 (rv:Int),x0,x1,x2,x3,x4,x5,x6,x7]):=show Bx W0 Q w.heap.size _ by rw[<-hW0];exact Bx.made hC _ _
 have HC0:Hid (zAg W0 B Q c):=show zAg W0 B Q c by rw[<-hW0];exact hC.below (bal _ _)
 have HW0:=hid hW0;clear hW0 hC hgc hcell hcell' HX8 e0 e1 e2 e3 e4 e5 e6 e7 hr;go_enter Tryz.func103,Tryz.ntmps103;go_upto_region 1 with fail
 rw[HW0.out];clear HW0;obtain⟨lv,tv,fv,hcA⟩:=HC0.out;have z3:=hcA.c3;have fz:=hcA.f 3;have HC1:Hid (zAg (W0.setCell ⟨Q,3,none⟩ (.int .u64 34)) B Q ⟨c.L,c.T,c.F,34⟩):=⟨lv,tv,fv,hcA.setZ 34⟩;have HG1:Hid (zBj Q w (W0.setCell ⟨Q,3,none⟩ (.int .u64 34))):=HG0.out.trans (zJw _ _ _);have HX1:Hid (Bx (W0.setCell ⟨Q,3,none⟩ (.int .u64 34)) Q w.heap.size #[.int .u8 (rv:Int),x0,x1,x2,x3,x4,x5,x6,x7]):=HX0.out.chgO (zJw _ _ _);obtain⟨W1,hW1⟩:∃W1,W0.setCell ⟨Q,3,none⟩ (.int .u64 34)=W1:=⟨_,rfl⟩;rw[hW1] at HC1 HG1 HX1;have HW1:=hid hW1;clear hcA hW1;go_upto_region 2 with fail
 rw[HW1.out];have r1:W1.cell? ⟨w.heap.size,1,none⟩=some x0:=HX1.out.c 1;have r2:W1.cell? ⟨w.heap.size,2,none⟩=some x1:=HX1.out.c 2;have r3:W1.cell? ⟨w.heap.size,3,none⟩=some x2:=HX1.out.c 3;have r4:W1.cell? ⟨w.heap.size,4,none⟩=some x3:=HX1.out.c 4;have r5:W1.cell? ⟨w.heap.size,5,none⟩=some x4:=HX1.out.c 5;have r6:W1.cell? ⟨w.heap.size,6,none⟩=some x5:=HX1.out.c 6;have r7:W1.cell? ⟨w.heap.size,7,none⟩=some x6:=HX1.out.c 7;have r8:W1.cell? ⟨w.heap.size,8,none⟩=some x7:=HX1.out.c 8;clear HW1 z3 fz;go_wp2_with fail;go_loopw [11] (fun i wr=>∃(j:Nat) (d:Cod),j<=8/\i= .int .i64 j/\zCZ rcs 8 0 ⟨c.L,c.T,c.F,34⟩=zCZ rcs (8-j) j d/\d.Sm (3600+j*5)/\zAg wr B Q d/\zBj Q W1 wr) (fun i _=>8-(intOf i).toNat)
 case atStart=>exact⟨0,_,by decide,rfl,rfl,hs0,HC1.out,zBj.refl _ _⟩
 case round=>
  obtain⟨j,d,hj,rfl,hts,hsm,hCr,hGr⟩:=hrel;have HTS:=hid hts;have HCr:=hid hCr;have HGr:=hid hGr;clear hts hCr hGr r1 r2 r3 r4 r5 r6 r7 r8
  by_cases hlt:j<8
  ·have hix:=HIX.out j hlt
   have hxs:=HXS.out j hlt;have HST:Hid (zCZ rcs 8 0 ⟨c.L,c.T,c.F,34⟩=zCZ rcs (8-(j+1)) (j+1) (match rcs.getD j none with|none=>d|some v=>zFq j v d)):=show _=_ by
    rw[HTS.out,show 8-j=(8-(j+1))+1 by omega,zI6]
   generalize [x0,x1,x2,x3,x4,x5,x6,x7].getD j .nilIface=x at hix hxs;cases hv:rcs.getD j none with
   |none=>
    have hx:x= .nilIface:=by rw[<-hxs];exact HCN.out j hv
    subst hx;rw[hv] at HST;clear hxs hv;go_wp2_with fail;go_roundw
    case rel=>exact⟨j+1,d,by omega,by go_num,HST.out,hsm.mono (by omega),HCr.out,HGr.out⟩
    case measure=>simp[intOf];omega
   |some v=>
    obtain⟨T,y,hy,hmt,hem⟩:=zOR B Q j hlt v (HGC.out j v hv) d (hsm.mono (by omega));have hx:x= .iface T y:=by rw[<-hxs,HCS.out j v hv];exact hy
    subst hx;rw[hv] at HST;have HEM:Hid (Calls _ _ _ wr _):=hem wr HCr.out;clear hxs hv hy hem;have hent:∀args W,(callFunc (zHg j) args).run Tryz.prog W= .ok (.enter (zHg j) args) W:=by
     rcases j with _|_|_|_|_|_|_|_|j
     ·exact enters_of Tryz.func305 (by kernel_rfl) rfl
     ·exact enters_of Tryz.func300 (by kernel_rfl) rfl
     ·exact enters_of Tryz.func302 (by kernel_rfl) rfl
     ·exact enters_of Tryz.func303 (by kernel_rfl) rfl
     ·exact enters_of Tryz.func289 (by kernel_rfl) rfl
     ·exact enters_of Tryz.func295 (by kernel_rfl) rfl
     ·exact enters_of Tryz.func296 (by kernel_rfl) rfl
     ·exact enters_of Tryz.func308 (by kernel_rfl) rfl
     ·omega
    go_wp2_with (go_at_fn (zHg j);refine HEM.out.mono ?_;rintro e W3 ⟨rfl,hC3,hG3⟩);go_roundw
    case rel=>exact⟨j+1,_,by omega,by go_num,HST.out,((zHk _ _ _).sm hsm).mono (by omega),hC3,HGr.out.trans hG3⟩
    case measure=>simp[intOf];omega
  ·have e:j=8:=by omega
   subst e;have HTE:Hid (zCZ rcs 8 0 ⟨c.L,c.T,c.F,34⟩=d):=show _=_ by rw[HTS.out];rfl
   have HX2:Hid (Bx wr Q w.heap.size #[.int .u8 (rv:Int),x0,x1,x2,x3,x4,x5,x6,x7]):=HX1.out.chgO HGr.out;have r0:wr.cell? ⟨w.heap.size,0,none⟩=some (.int .u8 (rv:Int)):=HX2.out.c 0;have HRT:Hid (Calls _ _ _ wr _):=zMO B Q d rv hgv (hsm.mono (by omega)) wr HCr.out;have HSm:Hid ((d.add ⟨0,0,0,0,(rv:Int)⟩).Sm 3900):=(hsm.add _).mono (by omega);have HRS:Hid (zBt ⟨rv,rcs⟩ c=d.add ⟨0,0,0,0,(rv:Int)⟩):=show _=_ by unfold zBt;rw[HTE.out]
   rw[HRS.out] at HNR;go_upto_region 9 with(go_at_call 104;refine HRT.out.mono ?_;rintro e W3 ⟨rfl,hC3,hG3⟩)
   have HJn:Hid (Calls _ _ _ W3 _):=zQG B Q (d.add ⟨0,0,0,0,(rv:Int)⟩) HSm.out HNR.out.1 HNR.out.2 W3 hC3;have HG3:=hid hG3;clear hC3 hG3;go_wp2_with (go_at_call 124;refine HJn.out.mono ?_;rintro e W4 ⟨rfl,hC4,hG4⟩);go_end0;rw[HRS.out];exact⟨rfl,hC4,((HG1.out.trans HGr.out).trans HG3.out).trans hG4⟩
theorem zOU (B Q:Nat) (hs:(⟨[],[],[],0⟩:Cod).Sm 3900):zCD 102 #[.pointer (some ⟨Q,0,none⟩)] B Q ⟨[],[],[],0⟩ ⟨[⟨5,1,0,0,0⟩,⟨9,1,1,0,34⟩,⟨0,0,0,0,0⟩],[],[],0⟩:=by
 intro w hC;have HS0:=hid (zFA B Q ⟨[],[],[],0⟩ ⟨5,1,0,0,0⟩ hs w hC);clear hC;go_enter Tryz.func102,Tryz.ntmps102;go_upto_region 1 with(go_at_call 123;refine HS0.out.mono ?_;rintro e W1 ⟨rfl,hC1,hG1⟩)
 have HS1:=hid (zFA B Q ⟨[⟨5,1,0,0,0⟩],[],[],0⟩ ⟨9,1,1,0,34⟩ ⟨by simp,by simp,by simp⟩ W1 hC1);have HG1:=hid hG1;clear hC1 hG1;go_upto_region 2 with(go_at_call 123;refine HS1.out.mono ?_;rintro e W2 ⟨rfl,hC2,hG2⟩)
 have HS2:=hid (zMO B Q ⟨[⟨5,1,0,0,0⟩,⟨9,1,1,0,34⟩],[],[],0⟩ 0 (by decide) ⟨by simp,by simp,by simp⟩ W2 hC2);have HG2:=hid hG2;clear hC2 hG2;go_wp2_with (go_at_call 104;refine HS2.out.mono ?_;rintro e W3 ⟨rfl,hC3,hG3⟩);go_end0;exact⟨rfl,hC3,(HG1.out.trans HG2.out).trans hG3⟩
def zBg:List Rl->Cod->Cod
 |[],c=>c
 |r::l,c=>zBg l (zDZ (zBt r c))
def zBW:List Ins:=[⟨5,1,0,0,0⟩,⟨9,1,1,0,34⟩,⟨0,0,0,0,0⟩]
def zJ0 (b:Bk):Cod:=(zBg b.rs ⟨zBW,[],[],0⟩).add ⟨0,0,0,0,(b.pol:Int)⟩
def zA8 (b:Bk):List Ins:=(zJ0 b).L
theorem zMe (c:Cod):(zDZ c).T=[]/\(zDZ c).F=[]/\(zDZ c).L.length=c.L.length:=⟨rfl,rfl,by unfold zDZ;rw[zHh,zFC]⟩
theorem zGD:∀(l:List Rl) (c:Cod),(zBg l c).L.length<=c.L.length+41*l.length
 |[],c=>by simp[zBg]
 |r::l,c=>by
  rw[zBg];have h1:=zGD l (zDZ (zBt r c));have h2:=(zDG r.cs 8 0 ⟨c.L,c.T,c.F,34⟩).trans (zBN _ ⟨0,0,0,0,(r.v:Int)⟩);have h3:(zBt r c).L.length<=c.L.length+41:=h2.len.2;have h4:=(zMe (zBt r c)).2.2;simp only[List.length_cons];rw[h4] at h1;omega
def zR6 (x:Ins):List Value:=[.int .u8 x.op,.int .u8 x.r,.int .u8 x.t,.int .u8 x.f,.int .u8 (x.k / 16777216),.int .u8 (x.k / 65536 % 256),.int .u8 (x.k / 256 % 256),.int .u8 (x.k % 256)]
def zDN:List Ins->List Value
 |[]=>[]
 |x::l=>zR6 x++zDN l
theorem zKk (l:List Ins) (x:Ins):zDN (l++[x])=zDN l++zR6 x:=by
 induction l with
 |nil=>simp[zDN]
 |cons a l ih=>simp[zDN,ih]
theorem zFD:∀(L:List Ins) (j c:Nat),j<L.length->c<5->(zAU L)[j*5+c]? =(zJu (L.getD j zLX))[c]?
 |[],j,c,h,_=>by simp at h
 |x::l,0,c,h,hc=>by
  rw[zAU,List.getElem?_append_left (by simp[zJu];omega)];simp
 |x::l,j+1,c,h,hc=>by
  rw[zAU,List.getElem?_append_right (by simp[zJu];omega),List.getD_cons_succ];rw[<-zFD l j c (by simpa using h) hc]
  congr 1
  simp[zJu];omega
theorem Tryz.infoU8:(Tryz.prog.info? 5).map (fun i=>(i.zero,i.size,i.bytes))=some (some (.int .u8 0),1,1):=by kernel_rfl
theorem zMf (L:List Ins) (lv:Value) (B:Nat) (w:World) (h:w.ownsRow B 250 5 lv L.length (zAU L)) (hl:L.length<=4000) (hpos:0<L.length) (hbd:∀x ∈ L,0<=x.k/\x.k<=4294967295):
 Calls Tryz.prog 105 #[lv] w fun e w'=>∃v,e= .returned v/\w'.ownsRow w.heap.size 5 1 v (8*L.length) (zDN L)/\Below w.heap.size w w':=by
 obtain⟨lp,lc,rfl⟩:=zA7 h;obtain⟨lg,rfl⟩:∃lg,lp=some ⟨lg,0,none⟩:=by
  rcases h.2 with⟨e,e'⟩|⟨g,cap,cur,e,_⟩
  ·omega
  ·injection e with e;exact⟨g,e⟩
 have HO:=hid h;have hlg:lg<w.heap.size:=(h.lt lg rfl).2;have HBD:=hid hbd;obtain⟨i0,hi0,hz0,hz1,hz2⟩:=zAi Tryz.infoU8;clear h hbd;have hmk:∀W,(Instr.makeSlice 32 (.int .i64 0) (.int .i64 ((L.length:Int)*8))).run Tryz.prog W= .ok (.slice (some ⟨W.heap.size,0,none⟩) 0 (8*L.length)) (W.alloc (.cells (madeCells #[.int .u8 0] (8*L.length)) 5)):=fun W=>by
  have hm:=run_make (P:=Tryz.prog) W 32 5 i0 (.int .u8 0) Tryz.underlying32 hi0 hz0 .i64 .i64 0 ((8*L.length:Nat):Int) (by omega) (by omega) (by rw[hz2];omega) (by omega);rw[hz1] at hm;rw[show(L.length:Int)*8=((8*L.length:Nat):Int) by omega];rw[Nat.mul_one,Int.toNat_natCast] at hm;exact hm
 have hL8:(L.length:Int)<=4000:=by omega
 go_enter Tryz.func105,Tryz.ntmps105;go_wp2_with fail;go_loopw [3,12] (fun v i wr=>∃j:Nat,j<=L.length/\i= .int .i64 j/\wr.ownsRow w.heap.size 5 1 v (8*j) (zDN (L.take j))/\Below w.heap.size w wr) (fun _ i _=>L.length-(intOf i).toNat)
 case atStart=>exact⟨0,Nat.zero_le _,rfl,World.ownsRow_made w _ _ (Nat.le_refl _) (by unfold maxLen;omega) (by simp[madeCells]),bal _ _⟩
 case round=>
  obtain⟨j,hj,rfl,hO,hB⟩:=hrel;have HOr:=hid hO;have HB:=hid hB;have hzr:w.heap.size<=wr.heap.size:=hB.size;clear hO hB
  by_cases hlt:j<L.length
  ·obtain⟨x,hx⟩:∃x,L.getD j zLX=x:=⟨_,rfl⟩
   have hmem:x ∈ L:=by
    rw[<-hx,List.getD_eq_getElem?_getD,List.getElem?_eq_getElem hlt];exact List.getElem_mem hlt
   have hk:=HBD.out x hmem;have htk:L.take (j+1)=L.take j++[x]:=by
    rw[List.take_add_one,<-hx,List.getD_eq_getElem?_getD,List.getElem?_eq_getElem hlt];rfl
   have HTK:Hid (zDN (L.take (j+1))=zDN (L.take j)++zR6 x):=show _=_ by rw[htk,zKk]
   obtain⟨op,r,t,f,k⟩:=x;have hc:∀i,i<5->wr.cell? ⟨lg,j*5+i,none⟩=(zJu ⟨op,r,t,f,k⟩)[i]? :=fun i hi=>by
    rw[HB.out.cell (p:=⟨lg,j*5+i,none⟩) hlg,HO.out.cellAt (j*5+i) (by omega),zFD L j i hlt hi,hx]
   have c0:wr.cell? ⟨lg,j*5,none⟩=some (.int .u8 op):=hc 0 (by decide);have c1:wr.cell? ⟨lg,j*5+1,none⟩=some (.int .u8 r):=hc 1 (by decide);have c2:wr.cell? ⟨lg,j*5+2,none⟩=some (.int .u8 t):=hc 2 (by decide);have c3:wr.cell? ⟨lg,j*5+3,none⟩=some (.int .u8 f):=hc 3 (by decide);have c4:wr.cell? ⟨lg,j*5+4,none⟩=some (.int .u32 k):=hc 4 (by decide);have hk0:0<=k:=hk.1;have hk1:k<=4294967295:=hk.2;have hlr:lg<wr.heap.size:=by omega
   clear hx hmem hk htk hc;have HN1:Hid (∀(m:Nat) (y:Value),([.int .u8 op,.int .u8 r,.int .u8 t,.int .u8 f]:List Value)[m]? =some y->((wr.alloc (.cells #[.int .u8 op,.int .u8 r,.int .u8 t,.int .u8 f,.int .u32 k] 250)).alloc (.cells #[.int .u8 op,.int .u8 r,.int .u8 t,.int .u8 f] 5)).cell? ((⟨wr.heap.size+1,0,none⟩:Addr).add m)=some y):=World.news_of_block (w:=(wr.alloc (.cells #[.int .u8 op,.int .u8 r,.int .u8 t,.int .u8 f,.int .u32 k] 250)).alloc (.cells #[.int .u8 op,.int .u8 r,.int .u8 t,.int .u8 f] 5)) (cs:= #[.int .u8 op,.int .u8 r,.int .u8 t,.int .u8 f]) (t:=5) (fr:=(0,0)) (by have:=heap_alloc_new (wr.alloc (.cells #[.int .u8 op,.int .u8 r,.int .u8 t,.int .u8 f,.int .u32 k] 250)) (.cells #[.int .u8 op,.int .u8 r,.int .u8 t,.int .u8 f] 5);simpa using this);have HO1:Hid (((wr.alloc (.cells #[.int .u8 op,.int .u8 r,.int .u8 t,.int .u8 f,.int .u32 k] 250)).alloc (.cells #[.int .u8 op,.int .u8 r,.int .u8 t,.int .u8 f] 5)).ownsRow w.heap.size 5 1 u3 (8*j) (zDN (L.take j))):=(HOr.out.alloc _).alloc _;have HM1:Hid (8*j+4<=maxLen):=show 8*j+4<=maxLen by unfold maxLen;omega
   have HM2:Hid ((8*j+4)*1<=140737488355328):=show(8*j+4)*1<=140737488355328 by omega
   have HM3:Hid (w.heap.size<=((wr.alloc (.cells #[.int .u8 op,.int .u8 r,.int .u8 t,.int .u8 f,.int .u32 k] 250)).alloc (.cells #[.int .u8 op,.int .u8 r,.int .u8 t,.int .u8 f] 5)).heap.size):=show _<=_ by simp;omega
   go_upto_region 5 with fail
   go_upto_region 6 with(at_builtin;refine wpList_append_lies _ rfl _ _ 32 rfl w.heap.size 5 i0 _ 1 1 Tryz.underlying32 hi0 hz0 hz1 hz2 rfl (by decide) u3 (8*j) (zDN (L.take j)) rfl HO1.out ⟨wr.heap.size+1,0,none⟩ 4 4 [.int .u8 op,.int .u8 r,.int .u8 t,.int .u8 f] rfl rfl HN1.out (by simp[Value.oneCell']) (by decide) HM1.out HM2.out HM3.out (wr.heap.size+1+1) (by simp) ?_;intro g1 cap1 w1 hown1 hgrow1 hat1 hlt1)
   have hbx:w1.heap[wr.heap.size]? =((wr.alloc (.cells #[.int .u8 op,.int .u8 r,.int .u8 t,.int .u8 f,.int .u32 k] 250)).alloc (.cells #[.int .u8 op,.int .u8 r,.int .u8 t,.int .u8 f] 5)).heap[wr.heap.size]? :=hgrow1.block wr.heap.size (by simp;omega) (fun q=>by have:=(HOr.out.lt _ q.symm).2;omega);have d4:w1.cell? ⟨wr.heap.size,4,none⟩=some (.int .u32 k):=by
    rw[World.cell?_of_block (w:=(wr.alloc (.cells #[.int .u8 op,.int .u8 r,.int .u8 t,.int .u8 f,.int .u32 k] 250)).alloc (.cells #[.int .u8 op,.int .u8 r,.int .u8 t,.int .u8 f] 5)) (a:=⟨wr.heap.size,4,none⟩) hbx];rw[World.cell?_alloc_lt _ _ ⟨wr.heap.size,4,none⟩ (by simp),World.cell?_alloc_at _ _ _ _ rfl];rfl
   have HB1:Hid (Below w.heap.size w w1):=Below.grown (w:=(wr.alloc (.cells #[.int .u8 op,.int .u8 r,.int .u8 t,.int .u8 f,.int .u32 k] 250)).alloc (.cells #[.int .u8 op,.int .u8 r,.int .u8 t,.int .u8 f] 5)) ((HB.out.alloc HB.out.size _).alloc (by simp;omega) _) hgrow1 (by simp;omega) (zAE HOr.out);have HO2:=hid hown1;have hz1':w.heap.size<=w1.heap.size:=HB1.out.size;have HN2:Hid (∀(m:Nat) (y:Value),([.int .u8 (k / 16777216),.int .u8 (k / 65536 % 256),.int .u8 (k / 256 % 256),.int .u8 (k % 256)]:List Value)[m]? =some y->(w1.alloc (.cells #[.int .u8 (k / 16777216),.int .u8 (k / 65536 % 256),.int .u8 (k / 256 % 256),.int .u8 (k % 256)] 5)).cell? ((⟨w1.heap.size,0,none⟩:Addr).add m)=some y):=World.news_of_block (w:=w1.alloc (.cells #[.int .u8 (k / 16777216),.int .u8 (k / 65536 % 256),.int .u8 (k / 256 % 256),.int .u8 (k % 256)] 5)) (cs:= #[.int .u8 (k / 16777216),.int .u8 (k / 65536 % 256),.int .u8 (k / 256 % 256),.int .u8 (k % 256)]) (t:=5) (fr:=(0,0)) (heap_alloc_new w1 _);have HM4:Hid (8*j+4+4<=maxLen):=show 8*j+4+4<=maxLen by unfold maxLen;omega
   have HM5:Hid ((8*j+4+4)*1<=140737488355328):=show(8*j+4+4)*1<=140737488355328 by omega
   have HM6:Hid (w.heap.size<=(w1.alloc (.cells #[.int .u8 (k / 16777216),.int .u8 (k / 65536 % 256),.int .u8 (k / 256 % 256),.int .u8 (k % 256)] 5)).heap.size):=show _<=_ by simp;omega
   clear hown1 hgrow1 hat1 hlt1 hbx c0 c1 c2 c3 c4 HO1 HN1 HM1 HM2 HM3;go_wp2_with (at_builtin;refine wpList_append_lies _ rfl _ _ 32 rfl w.heap.size 5 i0 _ 1 1 Tryz.underlying32 hi0 hz0 hz1 hz2 rfl (by decide) _ (8*j+4) _ rfl (HO2.out.alloc _) ⟨w1.heap.size,0,none⟩ 4 4 [.int .u8 (k / 16777216),.int .u8 (k / 65536 % 256),.int .u8 (k / 256 % 256),.int .u8 (k % 256)] rfl rfl HN2.out (by simp[Value.oneCell']) (by decide) HM4.out HM5.out HM6.out (w1.heap.size+1) (by simp) ?_;intro g2 cap2 w2 hown2 hgrow2 hat2 hlt2);go_roundw
   case rel=>
    refine⟨j+1,by omega,by go_num,?_,Below.grown (w:=w1.alloc (.cells #[.int .u8 (k / 16777216),.int .u8 (k / 65536 % 256),.int .u8 (k / 256 % 256),.int .u8 (k % 256)] 5)) (HB1.out.alloc HB1.out.size _) hgrow2 (by simp;omega) (zAE HO2.out)⟩;rw[HTK.out,show 8*(j+1)=8*j+4+4 by omega];rw[List.append_assoc] at hown2;exact hown2
   case measure=>simp[intOf];omega
  ·have e:j=L.length:=by omega
   subst e;go_wp2_with fail;go_ret;have HO':=HOr.out;rw[List.take_length] at HO';exact⟨_,rfl,HO',HB.out⟩
theorem zDr:∀(l:List Rl) (j c:Nat) (d:Rl),j<l.length->c<9->(zAp l)[j*9+c]? =(zBs (l.getD j d))[c]?
 |[],j,c,d,h,_=>by simp at h
 |r::l,0,c,d,h,hc=>by
  rw[zAp,List.getElem?_append_left (by simp[zBs];omega)];simp
 |r::l,j+1,c,d,h,hc=>by
  rw[zAp,List.getElem?_append_right (by simp[zBs];omega),List.getD_cons_succ];rw[<-zDr l j c d (by simpa using h) hc]
  congr 1
  simp[zBs];omega
theorem zBB (cs:Cs) (c:Nat):(zAA cs c).oneCell'=true:=by
 unfold zAA
 split
 ·rfl
 ·obtain⟨T,x,hx⟩:=zDE c ‹_›
  rw[hx];rfl
theorem zI7 {l:List Rl} {r:Rl} {m:List Rl} (h:l=r::m) (c:Cod):zBg l c=zBg m (zDZ (zBt r c)):=by rw[h,zBg]
def Kbd (L:List Ins):Prop:=∀x ∈ L,0<=x.k/\x.k<=4294967295
theorem zFE (s:ByteArray) (w:World) (hm:zBx w) (hL:zBU w) (hs:s.size<=maxLen) (hK:(zAJ s).1=0->Kbd (zA8 (zAJ s).2.2)):
 Calls Tryz.prog 78 #[.string s] w fun e w'=>
  ((zAJ s).1≠0->∃ev,e= .returned (.tuple #[.slice none 0 0,ev])/\zI5 w w' ev (zAJ s).1 (zAJ s).2.1)/\((zAJ s).1=0->∃v,e= .returned (.tuple #[v,.nilIface])/\w'.ownsRow w.heap.size 5 1 v (8*(zA8 (zAJ s).2.2).length) (zDN (zA8 (zAJ s).2.2)))/\Below w.heap.size w w':=by
 have HR:Hid (Calls _ _ _ w _):=zOT s w hm hL hs
 have HK:Hid ((zAJ s).1=0->Kbd (zA8 (zAJ s).2.2)):=hK
 clear hm hL hs hK
 obtain⟨k,n,b,hk⟩:∃k n b,zAJ s=(k,n,b):=⟨_,_,_,rfl⟩
 rw[hk] at HR HK
 rw[hk]
 clear hk
 dsimp only at HR HK ⊢
 by_cases h0:k=0
 ·subst h0
  have HKB:Hid (Kbd (zA8 b)):=HK.out rfl
  clear HK
  go_enter Tryz.func78,Tryz.ntmps78
  go_upto_region 4 with(go_at_call 63;refine HR.out.mono ?_;rintro e W1 ⟨h1,h2,hb1⟩;obtain⟨hgb,rv,rfl,hown⟩:=h2 rfl;clear h1 h2;obtain⟨rp,rc,hrv⟩:=zA7 hown;subst hrv;have HOW:Hid (W1.ownsRow w.heap.size 151 9 (.slice rp b.rs.length rc) b.rs.length (zAp b.rs)):=hown;have HGB:Hid (zBr b):=hgb;have HB1:Hid (Below w.heap.size w W1):=hb1;clear hown hgb hb1)
  obtain⟨W2,hW2⟩:∃W2,(W1.alloc (.cells #[.bool true,.int .u8 (b.pol:Int),.slice rp b.rs.length rc] 139)).alloc (.cells #[.slice none 0 0,.slice none 0 0,.slice none 0 0,.int .u64 0] 222)=W2:=⟨_,rfl⟩
  have hz2:W2.heap.size=W1.heap.size+2:=by rw[<-hW2];simp
  have HW2:Hid ((W1.alloc (.cells #[.bool true,.int .u8 (b.pol:Int),.slice rp b.rs.length rc] 139)).alloc (.cells #[.slice none 0 0,.slice none 0 0,.slice none 0 0,.int .u64 0] 222)=W2):=hW2
  have hcq:∀i,W2.cell? ⟨W1.heap.size+1,i,none⟩=(#[.slice none 0 0,.slice none 0 0,.slice none 0 0,.int .u64 0]:Array Value)[i]? :=fun i=>by
   rw[<-hW2,World.cell?_alloc_at _ _ _ _ (by simp)]
  have hfq:∀i,W2.frozen? ⟨W1.heap.size+1,i,none⟩=false:=fun i=>by
   rw[<-hW2]
   exact World.frozen?_alloc_at _ _ _ _ (by simp)
  have HB2:Hid (Below W1.heap.size W1 W2):=show Below W1.heap.size W1 W2 by
   rw[<-hW2]
   exact((Below.refl _ W1).alloc (Nat.le_refl _) _).alloc (by simp) _
  have HC2:Hid (zAg W2 (W1.heap.size+2) (W1.heap.size+1) ⟨[],[],[],0⟩):=⟨_,_,_,⟨hcq 0,hcq 1,hcq 2,hcq 3,World.ownsRow_nil _ _ _ _,World.ownsRow_nil _ _ _ _,World.ownsRow_nil _ _ _ _,fun g q=>(by cases q),fun g q=>(by cases q),fun g q=>(by cases q),hfq,by omega,by omega⟩⟩
  have hfree:∀m,m<=W1.heap.size->¬Own W2 (W1.heap.size+1) m:=fun m hm q=>by
   rcases q with q|⟨i,v,hi,hc,hv⟩
   ·omega
   ·rw[hcq i] at hc
    rcases i with _|_|_|i
    ·injection hc with hc;subst hc;cases hv
    ·injection hc with hc;subst hc;cases hv
    ·injection hc with hc;subst hc;cases hv
    ·omega
  have HFR:Hid (∀m,m<=W1.heap.size->¬Own W2 (W1.heap.size+1) m):=hfree
  have HX2:Hid (Bx W2 (W1.heap.size+1) W1.heap.size #[.bool true,.int .u8 (b.pol:Int),.slice rp b.rs.length rc]):=⟨by omega,hfree _ (Nat.le_refl _),fun i=>by
   rw[<-hW2,World.cell?_alloc_lt _ _ ⟨W1.heap.size,i,none⟩ (by simp),World.cell?_alloc_at _ _ _ _ rfl]⟩
  have HS2:Hid (Calls _ _ _ W2 _):=zOU (W1.heap.size+2) (W1.heap.size+1) ⟨by simp,by simp,by simp⟩ W2 HC2.out
  clear hW2 hcq hfq hfree
  go_upto_region 5 with fail
  rw[HW2.out]
  clear HW2
  go_upto_region 6 with(go_at_call 102;refine HS2.out.mono ?_;rintro e W3 ⟨rfl,hC3,hG3⟩)
  have HC3:Hid (zAg W3 (W1.heap.size+2) (W1.heap.size+1) ⟨zBW,[],[],0⟩):=hC3
  have HG3:Hid (zBj (W1.heap.size+1) W2 W3):=hG3
  have HX3:Hid (Bx W3 (W1.heap.size+1) W1.heap.size #[.bool true,.int .u8 (b.pol:Int),.slice rp b.rs.length rc]):=HX2.out.chgO hG3
  have q2:W3.cell? ⟨W1.heap.size,2,none⟩=some (.slice rp b.rs.length rc):=HX3.out.c 2
  have hbl:=HGB.out.len
  have hbl':(b.rs.length:Int)<=48:=by omega
  clear hC3 hG3 HS2
  go_wp2_with fail
  go_loopw [21] (fun i wr=>∃(j:Nat) (d:Cod),j<=b.rs.length/\i= .int .i64 j/\zBg b.rs ⟨zBW,[],[],0⟩=zBg (b.rs.drop j) d/\d.T=[]/\d.F=[]/\d.L.length<=3+41*j/\zAg wr (W1.heap.size+2) (W1.heap.size+1) d/\zBj (W1.heap.size+1) W2 wr) (fun i _=>b.rs.length-(intOf i).toNat)
  case atStart=>exact⟨0,_,Nat.zero_le _,rfl,by rw[List.drop_zero],rfl,rfl,by simp[zBW],HC3.out,HG3.out⟩
  case round=>
   obtain⟨j,d,hj,rfl,hrs,hT,hF,hdl,hCr,hGr⟩:=hrel
   have HRS:Hid (zBg b.rs ⟨zBW,[],[],0⟩=zBg (b.rs.drop j) d):=hrs
   have HCr:Hid (zAg wr (W1.heap.size+2) (W1.heap.size+1) d):=hCr
   have HGr:Hid (zBj (W1.heap.size+1) W2 wr):=hGr
   have HT:Hid (d.T=[]):=hT
   have HF:Hid (d.F=[]):=hF
   have hzr:W1.heap.size+2<=wr.heap.size:=by have:=hGr.size;omega
   clear hrs hCr hGr hT hF q2
   by_cases hlt:j<b.rs.length
   ·obtain⟨r,hr⟩:∃r,b.rs.getD j ⟨0,zAq⟩=r:=⟨_,rfl⟩
    have hmem:r ∈ b.rs:=by
     rw[<-hr,List.getD_eq_getElem?_getD,List.getElem?_eq_getElem hlt];exact List.getElem_mem hlt
    have hgr:=HGB.out.rs r hmem
    have hdr:b.rs.drop j=r::b.rs.drop (j+1):=by
     rw[List.drop_eq_getElem_cons hlt,<-hr,List.getD_eq_getElem?_getD,List.getElem?_eq_getElem hlt];rfl
    have HNX:Hid (zBg b.rs ⟨zBW,[],[],0⟩=zBg (b.rs.drop (j+1)) (zDZ (zBt r d))):=show _=_ by rw[HRS.out,zI7 hdr]
    obtain⟨rg,hrg⟩:∃rg,rp=some ⟨rg,0,none⟩:=by
     rcases HOW.out.2 with⟨e,e'⟩|⟨g,cap,cur,e,_⟩
     ·omega
     ·injection e with e;exact⟨g,e⟩
    subst hrg
    have hrgl:rg<W1.heap.size:=(HOW.out.lt rg rfl).2
    have hc:∀i,i<9->wr.cell? ⟨rg,j*9+i,none⟩=(zBs r)[i]? :=fun i hi=>by
     rw[HGr.out.cell (p:=⟨rg,j*9+i,none⟩) (by show rg<_;omega) (HFR.out rg (by omega)),HB2.out.cell (p:=⟨rg,j*9+i,none⟩) hrgl,HOW.out.cellAt (j*9+i) (by omega),zDr b.rs j i ⟨0,zAq⟩ hlt hi,hr]
    have hEm:=zQH (W1.heap.size+2) (W1.heap.size+1) d r hgr HT.out HF.out (by omega)
    have hJ:=zMe (zBt r d)
    have hRl:(zBt r d).L.length<=d.L.length+41:=((zDG r.cs 8 0 ⟨d.L,d.T,d.F,34⟩).trans (zBN _ ⟨0,0,0,0,(r.v:Int)⟩)).len.2
    have HJ:Hid ((zDZ (zBt r d)).T=[]/\(zDZ (zBt r d)).F=[]/\(zDZ (zBt r d)).L.length<=3+41*(j+1)):=⟨hJ.1,hJ.2.1,by rw[hJ.2.2];omega⟩
    unfold zHf at hEm
    have c0:wr.cell? ⟨rg,j*9,none⟩=some (.int .u8 (r.v:Int)):=hc 0 (by decide)
    have c1:wr.cell? ⟨rg,j*9+1,none⟩=some (zAA r.cs 0):=hc 1 (by decide)
    have c2:wr.cell? ⟨rg,j*9+2,none⟩=some (zAA r.cs 1):=hc 2 (by decide)
    have c3:wr.cell? ⟨rg,j*9+3,none⟩=some (zAA r.cs 2):=hc 3 (by decide)
    have c4:wr.cell? ⟨rg,j*9+4,none⟩=some (zAA r.cs 3):=hc 4 (by decide)
    have c5:wr.cell? ⟨rg,j*9+5,none⟩=some (zAA r.cs 4):=hc 5 (by decide)
    have c6:wr.cell? ⟨rg,j*9+6,none⟩=some (zAA r.cs 5):=hc 6 (by decide)
    have c7:wr.cell? ⟨rg,j*9+7,none⟩=some (zAA r.cs 6):=hc 7 (by decide)
    have c8:wr.cell? ⟨rg,j*9+8,none⟩=some (zAA r.cs 7):=hc 8 (by decide)
    clear hc hr hmem hgr hdr hJ hRl
    have oc0:=zBB r.cs 0
    have oc1:=zBB r.cs 1
    have oc2:=zBB r.cs 2
    have oc3:=zBB r.cs 3
    have oc4:=zBB r.cs 4
    have oc5:=zBB r.cs 5
    have oc6:=zBB r.cs 6
    have oc7:=zBB r.cs 7
    generalize zAA r.cs 0=x0 at*
    generalize zAA r.cs 1=x1 at*
    generalize zAA r.cs 2=x2 at*
    generalize zAA r.cs 3=x3 at*
    generalize zAA r.cs 4=x4 at*
    generalize zAA r.cs 5=x5 at*
    generalize zAA r.cs 6=x6 at*
    generalize zAA r.cs 7=x7 at*
    have st0:∀(a:Addr) (W:World),Sem.run Tryz.prog (store a x0) W=_:=fun a W=>run_store Tryz.prog W a x0 .plain oc0
    have st1:∀(a:Addr) (W:World),Sem.run Tryz.prog (store a x1) W=_:=fun a W=>run_store Tryz.prog W a x1 .plain oc1
    have st2:∀(a:Addr) (W:World),Sem.run Tryz.prog (store a x2) W=_:=fun a W=>run_store Tryz.prog W a x2 .plain oc2
    have st3:∀(a:Addr) (W:World),Sem.run Tryz.prog (store a x3) W=_:=fun a W=>run_store Tryz.prog W a x3 .plain oc3
    have st4:∀(a:Addr) (W:World),Sem.run Tryz.prog (store a x4) W=_:=fun a W=>run_store Tryz.prog W a x4 .plain oc4
    have st5:∀(a:Addr) (W:World),Sem.run Tryz.prog (store a x5) W=_:=fun a W=>run_store Tryz.prog W a x5 .plain oc5
    have st6:∀(a:Addr) (W:World),Sem.run Tryz.prog (store a x6) W=_:=fun a W=>run_store Tryz.prog W a x6 .plain oc6
    have st7:∀(a:Addr) (W:World),Sem.run Tryz.prog (store a x7) W=_:=fun a W=>run_store Tryz.prog W a x7 .plain oc7
    have hQr:W1.heap.size+1<wr.heap.size:=by omega
    have HE2:Hid (Calls _ _ _ (wr.alloc (.cells #[.int .u8 (r.v:Int),x0,x1,x2,x3,x4,x5,x6,x7] 151)) _):=hEm _ (HCr.out.below (bal _ _))
    clear hEm
    go_wp2_with (go_at_call 103;refine HE2.out.mono ?_;rintro e W4 ⟨rfl,hC4,hG4⟩)
    go_roundw
    case rel=>exact⟨j+1,zDZ (zBt r d),by omega,by go_num,HNX.out,HJ.out.1,HJ.out.2.1,HJ.out.2.2,hC4,(HGr.out.trans (zA2 _ _ _ hQr)).trans hG4⟩
    case measure=>simp[intOf];omega
   ·have e:j=b.rs.length:=by omega
    subst e
    have HRE:Hid (zBg b.rs ⟨zBW,[],[],0⟩=d):=show _=_ by rw[HRS.out,List.drop_length];rfl
    have HX4:Hid (Bx wr (W1.heap.size+1) W1.heap.size #[.bool true,.int .u8 (b.pol:Int),.slice rp b.rs.length rc]):=HX2.out.chgO HGr.out
    have q1:wr.cell? ⟨W1.heap.size,1,none⟩=some (.int .u8 (b.pol:Int)):=HX4.out.c 1
    have HRt:Hid (Calls _ _ _ wr _):=zMO (W1.heap.size+2) (W1.heap.size+1) d b.pol HGB.out.pol ⟨by omega,by rw[HT.out];simp,by rw[HF.out];simp⟩ wr HCr.out
    have HBk:Hid (zA8 b=(d.add ⟨0,0,0,0,(b.pol:Int)⟩).L):=show _=_ by unfold zA8 zJ0;rw[HRE.out]
    have hdl2:(d.add ⟨0,0,0,0,(b.pol:Int)⟩).L.length<=4000:=by simp[Cod.add];omega
    have hdl3:0<(d.add ⟨0,0,0,0,(b.pol:Int)⟩).L.length:=by simp[Cod.add]
    go_upto_region 12 with(go_at_call 104;refine HRt.out.mono ?_;rintro e W5 ⟨rfl,hC5,hG5⟩)
    obtain⟨lv,tv,fv,hcA⟩:=hC5
    have k0:=hcA.c0
    have hKb:=HKB.out
    rw[HBk.out] at hKb
    have HWr:Hid (Calls _ _ _ W5 _):=zMf _ lv (W1.heap.size+2) W5 hcA.o0 hdl2 hdl3 hKb
    have hB5:Below w.heap.size w W5:=by
     have hg:=HGr.out.trans hG5
     refine(HB1.out.trans (HB2.out.mono HB1.out.size)).trans ⟨hg.os,hg.tape,hg.output,hg.size,fun m hm=> ?_⟩
     have hw1:=HB1.out.size
     exact(hg.block m (by omega) (HFR.out m (by omega))).1
    have HB5:Hid (Below w.heap.size w W5):=hB5
    clear hcA hKb hB5 hG5
    go_wp2_with (go_at_call 105;refine HWr.out.mono ?_;rintro e W6 ⟨v,rfl,hO6,hb6⟩)
    go_ret2
    refine⟨fun q=>absurd rfl q,fun _=>⟨v,rfl,?_⟩,HB5.out.trans (hb6.mono HB5.out.size)⟩
    rw[HBk.out]
    exact zDm hO6 HB5.out.size
 ·go_enter Tryz.func78,Tryz.ntmps78
  go_wp2_with (go_at_call 63;refine HR.out.mono ?_;rintro e W1 ⟨h1,h2,hb1⟩;obtain⟨ev,rfl,hev⟩:=h1 h0;obtain⟨⟨cc,rfl,q1,q2,q3,q4⟩⟩:=hev;clear h1 h2)
  go_ret2
  have hcl:cc<W1.heap.size:=q2
  refine⟨fun _=>⟨_,rfl,⟨cc,rfl,q1,by simp;omega,?_,?_⟩⟩,fun q=>absurd q h0,hb1.alloc hb1.size _⟩
  ·rw[World.cell?_alloc_lt _ _ ⟨cc,0,none⟩ hcl];exact q3
  ·rw[World.cell?_alloc_lt _ _ ⟨cc,1,none⟩ hcl];exact q4
end Go.Proofs.YtclpnafiiobfhaaGreatDoor

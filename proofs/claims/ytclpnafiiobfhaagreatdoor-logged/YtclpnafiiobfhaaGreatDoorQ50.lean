import Derived.Test.YtclpnafiiobfhaaGreatDoorQ49
set_option linter.unusedVariables false
set_option linter.unusedSimpArgs false
set_option maxRecDepth 20000
set_option maxHeartbeats 6400000
namespace Go.Proofs.YtclpnafiiobfhaaGreatDoor
open Go.RowKit
section
variable {D : Nat} {rv fv : Value} {R : Option Bk} {room now : Nat} {F : List Fl} {cA cD cR cM : Nat}
theorem zIP {W0 u' w3:World} {gg cap' cc:Nat} {pp:Option Addr} {o:Obj} (h:zAQ W0 D rv (.slice pp F.length cc) R room now F cA cD cR cM) (x:Fl) (q1:u'.heap=(W0.alloc o).heap) (q2:u'.os=W0.os) (q3:u'.tape=W0.tape) (q4:u'.output=W0.output) (q5:u'.grownBy w3 (Value.slice pp F.length cc).ownBlock) (q6:(Value.slice pp F.length cc).ownBlock=some gg\/gg=W0.heap.size+1) (q7:w3.ownsRow 0 197 8 (.slice (some ⟨gg,0,none⟩) (F.length+1) cap') (F.length+1) (zAV F++x.l)):
 (zAQ (w3.setCell ⟨D,5,none⟩ (.slice (some ⟨gg,0,none⟩) (F.length+1) cap')) D rv (.slice (some ⟨gg,0,none⟩) (F.length+1) cap') R room now (F++[x]) cA cD cR cM/\Trn (fun y=>y=D\/(Value.slice pp F.length cc).ownBlock=some y) W0 (w3.setCell ⟨D,5,none⟩ (.slice (some ⟨gg,0,none⟩) (F.length+1) cap'))/\((Value.slice pp F.length cc).ownBlock=some gg\/W0.heap.size<=gg))/\w3.cell? ⟨D,5,none⟩=some (.slice pp F.length cc)/\w3.frozen? ⟨D,5,none⟩=false:=by
 have hz:(W0.alloc o).heap.size=W0.heap.size+1:=by simp
 have b1:Below W0.heap.size W0 u':=⟨q2,q3,q4,by rw[q1,hz];omega,fun m hm=>by rw[q1];exact Below.heap_alloc _ _ _ hm⟩;have t1:Trn (fun y=>(Value.slice pp F.length cc).ownBlock=some y) W0 w3:=(Trn.below b1).trans (Trn.grown' q5 (fun b q=>q)) (fun _ _ q=>q);have d3:Blk 132 w3 D (zQ5 room R rv now (.slice pp F.length cc) cA cD cR cM):=h.blk.trn t1 (fun q=>h.fv_ne q);have t2:Trn (fun y=>y=D\/(Value.slice pp F.length cc).ownBlock=some y) W0 (w3.setCell ⟨D,5,none⟩ (.slice (some ⟨gg,0,none⟩) (F.length+1) cap')):=(t1.mono (fun x _ q=> .inr q)).trans (Trn.setCell (S:=fun y=>y=D\/(Value.slice pp F.length cc).ownBlock=some y) w3 D 5 _ (.inl rfl)) (fun _ _ q=>q);have hgD:gg≠D:=by
  have hD:=h.blk.lt;rcases q6 with q|q
  ·exact fun e=>h.fv_ne (e▸q)
  ·omega
 refine⟨⟨⟨d3.set 5 _,h.rules.keep t2 (fun y q z=> ?_),?_⟩,t2,?_⟩,d3.cell 5 _ rfl,d3.frozen 5⟩
 ·rcases z with z|z
  ·exact(h.rv_ne y q).1 z
  ·exact(h.rv_ne y q).2 z
 ·have e:(F++[x]).length=F.length+1:=by simp
  rw[e,zFh,show zAV [x]=x.l by simp[zAV]];exact zAr q7 (Trn.setCell (S:=fun y=>y=D) w3 D 5 _ rfl) (fun y q z=>by
   obtain rfl:gg=y:=by simpa[Value.ownBlock] using q
   exact hgD z)
 ·rcases q6 with q|q
  ·exact .inl q
  ·exact .inr (by omega)
theorem zLB (W:World) (h:zAQ W D rv fv R room now F cA cD cR cM) (hn:now<=zCr) (hF:F.length<=64) (hd:Hd) (way:Int) (hr:F.length≠room):
 Calls Tryz.prog 114 #[.pointer (some ⟨D,0,none⟩),.agg hd.cells,.int .i64 (-1),.int .i64 way,.int .u8 0] W fun e w'=>e= .returned (.bool false)/\∃fv',zAQ w' D rv fv' R room now (F++[zEc hd now]) cA cD cR cM/\Trn (fun y=>y=D\/fv.ownBlock=some y) W w'/\∀y,fv'.ownBlock=some y->fv.ownBlock=some y\/W.heap.size<=y:=by
 obtain⟨a,b,p,s,d,f⟩:=hd;obtain⟨pp,cc,rfl⟩:=zAn h.flows;have HH:=hid h;have HM:Hid (zEc ⟨a,b,p,s,d,f⟩ now=⟨a,b,p,s,d,false,false,zBO now (zCV ⟨a,b,p,s,d,false,false,0⟩)⟩):=rfl;generalize zEc ⟨a,b,p,s,d,f⟩ now=nf at HM ⊢;obtain⟨U,hU⟩:∃U,zBO now (zCV ⟨a,b,p,s,d,false,false,0⟩)=U:=⟨_,rfl⟩;rw[hU] at HM;have hD:=h.blk.lt;have hDn:D≠W.heap.size:=Nat.ne_of_lt hD;have HLX:Hid (∀V:World,Below W.heap.size W V->Calls Tryz.prog 133 #[.pointer (some ⟨D,0,none⟩),.agg #[.int .u32 a,.int .u32 b,.int .u8 p,.int .u16 s,.int .u16 d,.bool false,.bool false,.int .u64 0]] V fun e w'=>e= .returned (.int .u64 (U:Int))/\Below V.heap.size V w'):=fun V hb=>by rw[<-hU];exact zEJ D now ⟨a,b,p,s,d,false,false,0⟩ V hn ((hb.cell (p:=⟨D,4,none⟩) hD).trans (h.blk.cell 4 _ rfl)) (by have:=hb.size;omega)
 have t0:((F.length:Int) == (room:Int))=false:=by simp;omega
 dsimp only[Hd.cells];clear h hU hn hr;go_enter Tryz.func114,Tryz.ntmps114;go_upto_region 14 with(go_at_call 133;refine(HLX.out _ ((bal _ _).alloc (by simp) _)).mono ?_;rintro e w2 ⟨rfl,hb2⟩;have HB2:Hid (Below W.heap.size W w2/\Blk 197 w2 (W.heap.size+1) [.int .u32 a,.int .u32 b,.int .u8 p,.int .u16 s,.int .u16 d,.bool false,.bool false,.int .u64 0]/\W.heap.size+2<=w2.heap.size):=zG9 hb2;have r7:=HB2.out.2.1.cell 7 _ rfl;have rf:=HB2.out.2.1.frozen 7;clear hb2)
 obtain⟨W3,hW3⟩:∃W3,w2.setCell ⟨W.heap.size+1,7,none⟩ (.int .u64 (U:Int))=W3:=⟨_,rfl⟩;rw[hW3];have B3:Hid (Below W.heap.size W W3):=by rw[<-hW3];exact HB2.out.1.setCell (p:=⟨W.heap.size+1,7,none⟩) (Nat.le_succ _) _
 have R3:Hid (Blk 197 W3 (W.heap.size+1) [.int .u32 a,.int .u32 b,.int .u8 p,.int .u16 s,.int .u16 d,.bool false,.bool false,.int .u64 (U:Int)]):=by rw[<-hW3];exact HB2.out.2.1.set 7 (.int .u64 (U:Int))
 have d0:=(B3.out.cell (p:=⟨D,0,none⟩) hD).trans (HH.out.blk.cell 0 _ rfl);have d5:=(B3.out.cell (p:=⟨D,5,none⟩) hD).trans (HH.out.blk.cell 5 _ rfl);clear r7 rf hW3 HB2 HLX;go_big_region;obtain⟨W4,hW4⟩:∃W4,W3.drew=W4:=⟨_,rfl⟩;rw[hW4];have B4:Hid (Below W.heap.size W W4):=by rw[<-hW4];exact B3.out.drew
 have R4:Hid (Blk 197 W4 (W.heap.size+1) [.int .u32 a,.int .u32 b,.int .u8 p,.int .u16 s,.int .u16 d,.bool false,.bool false,.int .u64 (U:Int)]):=by rw[<-hW4];exact R3.out.below (B:=W3.heap.size) (Below.refl _ _).drew R3.out.lt
 clear hW4 d0 d5 B3 R3;go_upto_region 26 with fail
 have HD:Hid (zAQ W4 D rv (.slice pp F.length cc) R room now F cA cD cR cM):=HH.out.below B4.out;have RF:=hid R4.out;obtain⟨i0,hi0,hz0,hz1,hz2⟩:=zEo Tryz.infoFl;have hDl:=HD.out.blk.lt;have hDl2:D≠W4.heap.size:=Nat.ne_of_lt hDl;have hfl:=RF.out.lt;have hfl2:W.heap.size+1≠W4.heap.size:=Nat.ne_of_lt hfl;have k5:=HD.out.blk.cell 5 _ rfl;have fz5:=HD.out.blk.frozen 5;have r0:=RF.out.cell 0 _ rfl;have r1:=RF.out.cell 1 _ rfl;have r2:=RF.out.cell 2 _ rfl;have r3:=RF.out.cell 3 _ rfl;have r4:=RF.out.cell 4 _ rfl;have r5:=RF.out.cell 5 _ rfl;have r6:=RF.out.cell 6 _ rfl;have r7:=RF.out.cell 7 _ rfl;have HOWA:Hid (∀u':World,u'.heap=(W4.alloc (.cells #[.int .u32 a,.int .u32 b,.int .u8 p,.int .u16 s,.int .u16 d,.bool false,.bool false,.int .u64 (U:Int)] 197)).heap->u'.ownsRow 0 197 8 (.slice pp F.length cc) F.length (zAV F)):=fun u' hu=>zCH (HD.out.flows.alloc (.cells #[.int .u32 a,.int .u32 b,.int .u8 p,.int .u16 s,.int .u16 d,.bool false,.bool false,.int .u64 (U:Int)] 197)) (fun g _=>by rw[hu])
 have HNW:Hid (∀u':World,u'.heap=(W4.alloc (.cells #[.int .u32 a,.int .u32 b,.int .u8 p,.int .u16 s,.int .u16 d,.bool false,.bool false,.int .u64 (U:Int)] 197)).heap->∀(j:Nat) (y:Value),([.int .u32 a,.int .u32 b,.int .u8 p,.int .u16 s,.int .u16 d,.bool false,.bool false,.int .u64 (U:Int)]:List Value)[j]? =some y->u'.cell? ((⟨W4.heap.size,0,none⟩:Addr).add j)=some y):=fun u' hu=>World.news_of_block (w:=u') (cs:= #[.int .u32 a,.int .u32 b,.int .u8 p,.int .u16 s,.int .u16 d,.bool false,.bool false,.int .u64 (U:Int)]) (t:=197) (fr:=(0,0)) (by rw[hu];exact heap_alloc_new W4 _)
 have HAD:Hid (∀(u' w3:World) (gg cap':Nat),u'.heap=(W4.alloc (.cells #[.int .u32 a,.int .u32 b,.int .u8 p,.int .u16 s,.int .u16 d,.bool false,.bool false,.int .u64 (U:Int)] 197)).heap->u'.os=W4.os->u'.tape=W4.tape->u'.output=W4.output->u'.grownBy w3 (Value.slice pp F.length cc).ownBlock->((Value.slice pp F.length cc).ownBlock=some gg\/gg=W4.heap.size+1)->w3.ownsRow 0 197 8 (.slice (some ⟨gg,0,none⟩) (F.length+1) cap') (F.length+1) (zAV F++[.int .u32 a,.int .u32 b,.int .u8 p,.int .u16 s,.int .u16 d,.bool false,.bool false,.int .u64 (U:Int)])->(zAQ (w3.setCell ⟨D,5,none⟩ (.slice (some ⟨gg,0,none⟩) (F.length+1) cap')) D rv (.slice (some ⟨gg,0,none⟩) (F.length+1) cap') R room now (F++[⟨a,b,p,s,d,false,false,U⟩]) cA cD cR cM/\Trn (fun y=>y=D\/(Value.slice pp F.length cc).ownBlock=some y) W4 (w3.setCell ⟨D,5,none⟩ (.slice (some ⟨gg,0,none⟩) (F.length+1) cap'))/\((Value.slice pp F.length cc).ownBlock=some gg\/W4.heap.size<=gg))/\w3.cell? ⟨D,5,none⟩=some (.slice pp F.length cc)/\w3.frozen? ⟨D,5,none⟩=false):=fun u' w3 gg cap' q1 q2 q3 q4 q5 q6 q7=>zIP HD.out ⟨a,b,p,s,d,false,false,U⟩ q1 q2 q3 q4 q5 q6 q7
 go_cut [135] from 126 to 134 (fun _ w'=>∃gg cap',zAQ w' D rv (.slice (some ⟨gg,0,none⟩) (F.length+1) cap') R room now (F++[⟨a,b,p,s,d,false,false,U⟩]) cA cD cR cM/\Trn (fun y=>y=D\/(Value.slice pp F.length cc).ownBlock=some y) W4 w'/\((Value.slice pp F.length cc).ownBlock=some gg\/W4.heap.size<=gg))
 case first=>
  go_region_law (refine step_append_lies _ (by rfl) _ _ _ (by rfl) 0 197 i0 _ 8 24 Tryz.underlying128 hi0 hz0 hz1 hz2 rfl (by decide) _ F.length (zAV F) (by rfl) (HOWA.out _ (by rfl)) ⟨W4.heap.size,0,none⟩ 1 1 [.int .u32 a,.int .u32 b,.int .u8 p,.int .u16 s,.int .u16 d,.bool false,.bool false,.int .u64 (U:Int)] (by rfl) (by rfl) (HNW.out _ (by rfl)) (by simp[Value.oneCell']) (by decide) (by unfold maxLen;omega) (by omega) (by omega) (W4.heap.size+1) (by simp) ?_;intro gg cap' w3 hown3 hgrow hat hlt3;have HA3:Hid ((_/\_)/\w3.cell? ⟨D,5,none⟩=some (.slice pp F.length cc)/\w3.frozen? ⟨D,5,none⟩=false):=HAD.out _ _ _ _ (by rfl) (by rfl) (by rfl) (by rfl) hgrow hat hown3;clear hgrow hat hown3;have m0:=HA3.out.2.1;have g0:=HA3.out.2.2)
  all_goals
   go_wp2_with fail;go_meet;exact⟨_,_,HA3.out.1⟩
 obtain⟨gg,cap',hA1,hA2,hA3⟩:=hcut;clear HOWA HNW HAD k5 fz5 r0 r1 r2 r3 r4 r5 r6 r7;have HA1:=hid (And.intro hA1 (And.intro hA2 hA3));clear hA1 hA2 hA3;go_wp2_with fail;go_ret;rw[HM.out];obtain⟨q1,q2,q3⟩:=HA1.out;refine⟨rfl,_,q1,(Trn.below B4.out).trans q2 (fun _ _ q=>q),fun y q=> ?_⟩;obtain rfl:gg=y:=by simpa[Value.ownBlock] using q
 rcases q3 with z|z
 ·exact .inl z
 ·exact .inr (Nat.le_trans B4.out.size z)
end
theorem zFi {w:World} {B g n c:Nat} {F:List Fl} (h:w.ownsRow B 197 8 (.slice (some ⟨g,0,none⟩) n c) n (zAV F)) (hn:n=F.length) (k o:Nat) (A:List Value) (hA:(zAV F).drop (k*8)=A\/(k=0/\A<+:zAV F)) (ho:0<A.length->o=k*8):∀j u,A[j]? =some u->w.cell? ((⟨g,o,none⟩:Addr).add j)=some u:=by
 intro j u hj;have hjl:j<A.length:=(List.getElem?_eq_some_iff.1 hj).1;have e:(⟨g,o,none⟩:Addr).add j=⟨g,o+j,none⟩:=by
  by_cases q:j=0<;>simp[Addr.add,q]
 rw[e,ho (by omega)];have hq:(zAV F)[k*8+j]? =some u:=by
  rcases hA with q|⟨rfl,q⟩
  ·rw[<-q,List.getElem?_drop] at hj;exact hj
  ·obtain⟨r,hr⟩:=q
   rw[<-hr,Nat.zero_mul,Nat.zero_add,List.getElem?_append_left hjl];exact hj
 have hl:k*8+j<(zAV F).length:=(List.getElem?_eq_some_iff.1 hq).1;rw[zD5] at hl;rw[h.cellAt _ (by subst hn;exact hl)];exact hq
theorem zGS:∀(F:List Fl) (k:Nat),(zAV F).drop (k*8)=zAV (F.drop k)
 |F,0=>by simp
 |[],k+1=>by simp[zAV]
 |y::F,k+1=>by
  show(y.l++zAV F).drop ((k+1)*8)=zAV (F.drop k)
  rw[show(k+1)*8=y.l.length+k*8 by rw[Fl.len];omega,List.drop_append,List.drop_eq_nil_of_le (by omega),List.nil_append,Nat.add_sub_cancel_left];exact zGS F k
theorem zLC (F:List Fl) (k:Nat):zAV (F.take k)<+:zAV F:=by
 conv=>rhs;rw[<-List.take_append_drop k F,zFh]
 exact List.prefix_append _ _
theorem zIQ (F:List Fl):∀u ∈ zAV F,u.oneCell'=true:=by
 intro u hu;simp only[zAV,List.mem_flatMap] at hu;obtain⟨x,_,hx⟩:=hu;exact x.one u hx
theorem zNl {F:List Fl} (h:0<F.length):zFX (F.take 1) 0:=by
 refine⟨by simp;omega,fun j hj=> ?_,fun j hj=>absurd hj (by omega)⟩;have:j=0:=by simp at hj;omega
 subst this;exact Nat.le_refl _
section
variable {D : Nat} {rv fv : Value} {R : Option Bk} {room now : Nat} {F : List Fl} {cA cD cR cM : Nat}
theorem zLD (W:World) (h:zAQ W D rv fv R room now F cA cD cR cM) (hn:now<=zCr) (hF:F.length<=64) (hd:Hd) (way:Int) (hr:F.length=room) (hr1:1<=room):
 Calls Tryz.prog 114 #[.pointer (some ⟨D,0,none⟩),.agg hd.cells,.int .i64 (-1),.int .i64 way,.int .u8 0] W fun e w'=>e= .returned (.bool true)/\∃fv',zAQ w' D rv fv' R room now (F.eraseIdx (zKv F)++[zEc hd now]) cA cD cR cM/\Trn (fun y=>y=D\/fv.ownBlock=some y) W w'/\∀y,fv'.ownBlock=some y->fv.ownBlock=some y\/W.heap.size<=y:=by
 obtain⟨a,b,p,s,d,f⟩:=hd;have hF1:0<F.length:=by omega
 obtain⟨g,cc,rfl,hg,_⟩:=h.flow (List.getElem?_eq_getElem hF1);have HH:=hid h;have hcc:F.length<=cc/\cc<=maxLen:=by
  rcases h.flows.2 with⟨q,_⟩|⟨g',c',cur,q,_,_,q4,q5,_⟩
  ·cases q
  ·cases q;exact⟨q4,q5⟩
 have HM:Hid (zEc ⟨a,b,p,s,d,f⟩ now=⟨a,b,p,s,d,false,false,zBO now (zCV ⟨a,b,p,s,d,false,false,0⟩)⟩):=rfl;generalize zEc ⟨a,b,p,s,d,f⟩ now=nf at HM ⊢;obtain⟨U,hU⟩:∃U,zBO now (zCV ⟨a,b,p,s,d,false,false,0⟩)=U:=⟨_,rfl⟩;rw[hU] at HM;have hD:=h.blk.lt;have hDn:D≠W.heap.size:=Nat.ne_of_lt hD;have HMI:Hid (∀k,zFX F k->k=zKv F):=fun k q=>q.unique (zJG F (fun e=>by rw[e] at hF1;simp at hF1))
 generalize zKv F=mD at HMI ⊢;have HLX:Hid (∀V:World,Below W.heap.size W V->Calls Tryz.prog 133 #[.pointer (some ⟨D,0,none⟩),.agg #[.int .u32 a,.int .u32 b,.int .u8 p,.int .u16 s,.int .u16 d,.bool false,.bool false,.int .u64 0]] V fun e w'=>e= .returned (.int .u64 (U:Int))/\Below V.heap.size V w'):=fun V hb=>by rw[<-hU];exact zEJ D now ⟨a,b,p,s,d,false,false,0⟩ V hn ((hb.cell (p:=⟨D,4,none⟩) hD).trans (h.blk.cell 4 _ rfl)) (by have:=hb.size;omega)
 have t0:((F.length:Int) == (room:Int))=true:=by simp;omega
 dsimp only[Hd.cells];clear h hU hn hr hr1;go_enter Tryz.func114,Tryz.ntmps114;go_upto_region 14 with(go_at_call 133;refine(HLX.out _ ((bal _ _).alloc (by simp) _)).mono ?_;rintro e w2 ⟨rfl,hb2⟩;have HB2:Hid (Below W.heap.size W w2/\Blk 197 w2 (W.heap.size+1) [.int .u32 a,.int .u32 b,.int .u8 p,.int .u16 s,.int .u16 d,.bool false,.bool false,.int .u64 0]/\W.heap.size+2<=w2.heap.size):=zG9 hb2;have r7:=HB2.out.2.1.cell 7 _ rfl;have rf:=HB2.out.2.1.frozen 7;clear hb2)
 obtain⟨W3,hW3⟩:∃W3,w2.setCell ⟨W.heap.size+1,7,none⟩ (.int .u64 (U:Int))=W3:=⟨_,rfl⟩;rw[hW3];have B3:Hid (Below W.heap.size W W3):=by rw[<-hW3];exact HB2.out.1.setCell (p:=⟨W.heap.size+1,7,none⟩) (Nat.le_succ _) _
 have R3:Hid (Blk 197 W3 (W.heap.size+1) [.int .u32 a,.int .u32 b,.int .u8 p,.int .u16 s,.int .u16 d,.bool false,.bool false,.int .u64 (U:Int)]):=by rw[<-hW3];exact HB2.out.2.1.set 7 (.int .u64 (U:Int))
 have d0:=(B3.out.cell (p:=⟨D,0,none⟩) hD).trans (HH.out.blk.cell 0 _ rfl);have d5:=(B3.out.cell (p:=⟨D,5,none⟩) hD).trans (HH.out.blk.cell 5 _ rfl);clear r7 rf hW3 HB2 HLX;go_big_region;obtain⟨W4,hW4⟩:∃W4,W3.drew=W4:=⟨_,rfl⟩;rw[hW4];have B4:Hid (Below W.heap.size W W4):=by rw[<-hW4];exact B3.out.drew
 have R4:Hid (Blk 197 W4 (W.heap.size+1) [.int .u32 a,.int .u32 b,.int .u8 p,.int .u16 s,.int .u16 d,.bool false,.bool false,.int .u64 (U:Int)]):=by rw[<-hW4];exact R3.out.below (B:=W3.heap.size) (Below.refl _ _).drew R3.out.lt
 clear hW4 d0 d5 B3 R3;have HD4:Hid (zAQ W4 D rv (.slice (some ⟨g,0,none⟩) F.length cc) R room now F cA cD cR cM):=HH.out.below B4.out;go_wp2_with fail;go_loopw [14,15] (fun kv jv wr=>∃kk jj:Nat,kv= .int .i64 kk/\jv= .int .i64 jj/\1<=jj/\jj<=F.length/\zFX (F.take jj) kk/\Below W4.heap.size W4 wr) (fun _ j _=>F.length-(intOf j).toNat)
 case atStart=>exact⟨0,1,rfl,rfl,by omega,by omega,zNl hF1,Below.refl _ _⟩
 case round=>
  obtain⟨kk,jj,rfl,rfl,hj1,hj,hmin,hbr⟩:=hrel;have HMN:=hid hmin;have HBr:=hid hbr;have hkj:kk<jj:=by have:=hmin.lt;simp at this;omega
  have HDr:Hid (zAQ wr D rv (.slice (some ⟨g,0,none⟩) F.length cc) R room now F cA cD cR cM):=HD4.out.below hbr;have k5:=HDr.out.blk.cell 5 _ rfl;have hzr:=hbr.size;clear hmin hbr
  by_cases hlt:jj<F.length
  ·obtain⟨x,hx⟩:∃x,F[jj]? =some x:=⟨_,List.getElem?_eq_getElem hlt⟩
   obtain⟨y,hy⟩:∃y,F[kk]? =some y:=⟨_,List.getElem?_eq_getElem (by omega)⟩;have HMS:Hid (zFX (F.take (jj+1)) (if x.u<y.u then jj else kk)):=zPL hx hy HMN.out;obtain⟨g1,c1,e1,_,hc1⟩:=HDr.out.flow hx;cases e1;obtain⟨g2,c2,e2,_,hc2⟩:=HDr.out.flow hy;cases e2;have u1:=hc1 7 _ rfl;have u2:=hc2 7 _ rfl;generalize x.u=xu at u1 HMS;generalize y.u=yu at u2 HMS;have i1:(0:Int)<=(jj:Int):=by omega
   have i2:(jj:Int)<(F.length:Int):=by omega
   have i3:IntKind.i64.wrap ((jj:Int)+1)=(jj:Int)+1:=by rw[IntKind.wrap_i64];omega
   have i4:(0:Int)<=(kk:Int):=by omega
   have i5:(kk:Int)<(F.length:Int):=by omega
   clear hx hy hc1 hc2
   by_cases hu:xu<yu
   ·have q:(xu:Int)<(yu:Int):=by omega
    go_upto_region 20 with fail
    go_big_region;go_wp2_with fail;go_roundw
    case measure=>simp[intOf];omega
    case rel=>exact⟨jj,jj+1,rfl,by simp,by omega,by omega,by have:=HMS.out;rw[if_pos hu] at this;exact this,HBr.out.drew⟩
   ·have q:¬(xu:Int)<(yu:Int):=by omega
    go_upto_region 20 with fail
    go_big_region;go_wp2_with fail;go_roundw
    case measure=>simp[intOf];omega
    case rel=>exact⟨kk,jj+1,rfl,by simp,by omega,by omega,by have:=HMS.out;rw[if_neg hu] at this;exact this,HBr.out.drew⟩
  ·obtain rfl:jj=F.length:=by omega
   have i2:¬(F.length:Int)<(F.length:Int):=by omega
   have hkD:kk=mD:=HMI.out kk (by have:=HMN.out;rw[List.take_length] at this;exact this);obtain rfl:kk=mD:=hkD;have hkl:kk<F.length:=hkj;obtain⟨i0,hi0,hz0,hz1,hz2⟩:=zEo Tryz.infoFl;have hs1:=zG8 kk g F.length cc (by omega);have hcm:cc<=9223372036854775807:=by have:=hcc.2;unfold maxLen at this;omega
   obtain⟨o',ho',hs2⟩:=zLA (kk+1) g F.length cc ((kk:Int)+1) (by omega) (by omega) hcc.1 hcm;have w1:IntKind.i64.wrap ((kk:Int)+1)=(kk:Int)+1:=by rw[IntKind.wrap_i64];omega
   have HN1:Hid (∀j u,(zAV (F.take kk))[j]? =some u->wr.cell? ((⟨g,0,none⟩:Addr).add j)=some u):=zFi HDr.out.flows rfl 0 0 _ (.inr ⟨rfl,zLC F kk⟩) (fun _=>rfl);have HL1:Hid ((zAV (F.take kk)).length=kk*8):=show(zAV (F.take kk)).length=kk*8 by rw[zD5,List.length_take];congr 1;omega
   have HL2:Hid ((zAV (F.drop (kk+1))).length=(F.length-(kk+1))*8):=show(zAV (F.drop (kk+1))).length=_ by rw[zD5,List.length_drop]
   have hWr:W.heap.size<=wr.heap.size:=Nat.le_trans B4.out.size hzr;go_upto_region 24 with(at_builtin;refine wpList_append_own_at _ rfl _ _ 128 rfl wr.heap.size 197 i0 _ 8 24 Tryz.underlying128 hi0 hz0 hz1 hz2 rfl (by decide) (.slice none 0 0) 0 [] rfl (World.ownsRow_nil _ _ _ _) ⟨g,0,none⟩ kk cc (zAV (F.take kk)) rfl HL1.out HN1.out (zIQ _) (by unfold maxLen;omega) (by omega) (Nat.le_refl _) ?_;intro v1 w5 hown1 hgrow1 hiff1 hob1;clear hiff1 hob1;rw[Nat.zero_add,List.nil_append] at hown1;obtain⟨p1,c1,hv1⟩:=zAn hown1;subst hv1;have HO1:=hid hown1;have HB5:Hid (Below wr.heap.size wr w5):=⟨hgrow1.os,hgrow1.tape,hgrow1.output,hgrow1.size,fun m hm=>hgrow1.block m hm (by intro q;cases q)⟩;clear hown1 hgrow1)
   have HD5:Hid (zAQ w5 D rv (.slice (some ⟨g,0,none⟩) F.length cc) R room now F cA cD cR cM):=HDr.out.below HB5.out;have k5':=HD5.out.blk.cell 5 _ rfl;have HN2:Hid (∀j u,(zAV (F.drop (kk+1)))[j]? =some u->w5.cell? ((⟨g,o',none⟩:Addr).add j)=some u):=zFi HD5.out.flows rfl (kk+1) o' _ (.inl (zGS F (kk+1))) (fun q=>ho' (by have:=HL2.out;omega));obtain⟨F',hF'⟩:∃F',F.eraseIdx kk=F':=⟨_,rfl⟩;have HF':=hid hF';have HLF:Hid (kk+(F.length-(kk+1))=F'.length/\zAV (F.take kk)++zAV (F.drop (kk+1))=zAV F'):=by
    show _/\_
    rw[<-hF',List.eraseIdx_eq_take_drop_succ,zFh];exact⟨by simp;omega,rfl⟩
   have hzz:wr.heap.size<=w5.heap.size:=HB5.out.size;clear hF' k5 HN1 HL1 hs1;go_upto_region 25 with(at_builtin;refine wpList_append_own_at _ rfl _ _ 128 rfl wr.heap.size 197 i0 _ 8 24 Tryz.underlying128 hi0 hz0 hz1 hz2 rfl (by decide) (.slice p1 kk c1) kk (zAV (F.take kk)) rfl HO1.out ⟨g,o',none⟩ (F.length-(kk+1)) (cc-(kk+1)) (zAV (F.drop (kk+1))) rfl HL2.out HN2.out (zIQ _) (by unfold maxLen;omega) (by omega) hzz ?_;intro v2 w6 hown2 hgrow2 hiff2 hob2;clear hiff2 hob2;rw[HLF.out.1,HLF.out.2] at hown2;obtain⟨p2,c2,hv2⟩:=zAn hown2;subst hv2;have HO2:=hid hown2;have HB6:Hid (Below wr.heap.size wr w6):=Below.grown (w:=w5) HB5.out hgrow2 hzz (zAE HO1.out);clear hown2 hgrow2)
   have HD6:Hid (zAQ w6 D rv (.slice (some ⟨g,0,none⟩) F.length cc) R room now F cA cD cR cM):=HDr.out.below HB6.out;have k6:=HD6.out.blk.cell 5 _ rfl;have f6:=HD6.out.blk.frozen 5;have hfl:F'.length<=64:=by have:=HLF.out.1;omega
   clear k5' HN2 HL2 hs2 HLF HO1 HB5 HD5 hi0 hz0 hz1 hz2;go_upto_region 26 with fail
   obtain⟨W7,hW7⟩:∃W7,w6.setCell ⟨D,5,none⟩ (.slice p2 F'.length c2)=W7:=⟨_,rfl⟩;rw[hW7];have T7:Hid (Trn (fun y=>y=D) w6 W7):=by rw[<-hW7];exact Trn.setCell (S:=fun y=>y=D) w6 D 5 _ rfl
   have HD:Hid (zAQ W7 D rv (.slice p2 F'.length c2) R room now F' cA cD cR cM):=⟨by rw[<-hW7];exact HD6.out.blk.set 5 (.slice p2 F'.length c2),HD6.out.rules.keep T7.out (fun x q=>(HD6.out.rv_ne x q).1),zAr (zIL HO2.out (Nat.zero_le _)) T7.out (fun x q e=>by have:=(HO2.out.lt x q).1;have:=HDr.out.blk.lt;omega)⟩;have RF:Hid (Blk 197 W7 (W.heap.size+1) [.int .u32 a,.int .u32 b,.int .u8 p,.int .u16 s,.int .u16 d,.bool false,.bool false,.int .u64 (U:Int)]):=((R4.out.below HBr.out R4.out.lt).below HB6.out (by have:=R4.out.lt;omega)).trn T7.out (fun q=>by omega);clear hW7 k6 f6 HD6;obtain⟨i0,hi0,hz0,hz1,hz2⟩:=zEo Tryz.infoFl;have hDl:=HD.out.blk.lt;have hDl2:D≠W7.heap.size:=Nat.ne_of_lt hDl;have hfl:=RF.out.lt;have hfl2:W.heap.size+1≠W7.heap.size:=Nat.ne_of_lt hfl;have k5:=HD.out.blk.cell 5 _ rfl;have fz5:=HD.out.blk.frozen 5;have r0:=RF.out.cell 0 _ rfl;have r1:=RF.out.cell 1 _ rfl;have r2:=RF.out.cell 2 _ rfl;have r3:=RF.out.cell 3 _ rfl;have r4:=RF.out.cell 4 _ rfl;have r5:=RF.out.cell 5 _ rfl;have r6:=RF.out.cell 6 _ rfl;have r7:=RF.out.cell 7 _ rfl;have HOWA:Hid (∀u':World,u'.heap=(W7.alloc (.cells #[.int .u32 a,.int .u32 b,.int .u8 p,.int .u16 s,.int .u16 d,.bool false,.bool false,.int .u64 (U:Int)] 197)).heap->u'.ownsRow 0 197 8 (.slice p2 F'.length c2) F'.length (zAV F')):=fun u' hu=>zCH (HD.out.flows.alloc (.cells #[.int .u32 a,.int .u32 b,.int .u8 p,.int .u16 s,.int .u16 d,.bool false,.bool false,.int .u64 (U:Int)] 197)) (fun g _=>by rw[hu])
   have HNW:Hid (∀u':World,u'.heap=(W7.alloc (.cells #[.int .u32 a,.int .u32 b,.int .u8 p,.int .u16 s,.int .u16 d,.bool false,.bool false,.int .u64 (U:Int)] 197)).heap->∀(j:Nat) (y:Value),([.int .u32 a,.int .u32 b,.int .u8 p,.int .u16 s,.int .u16 d,.bool false,.bool false,.int .u64 (U:Int)]:List Value)[j]? =some y->u'.cell? ((⟨W7.heap.size,0,none⟩:Addr).add j)=some y):=fun u' hu=>World.news_of_block (w:=u') (cs:= #[.int .u32 a,.int .u32 b,.int .u8 p,.int .u16 s,.int .u16 d,.bool false,.bool false,.int .u64 (U:Int)]) (t:=197) (fr:=(0,0)) (by rw[hu];exact heap_alloc_new W7 _)
   have HAD:Hid (∀(u' w3:World) (gg cap':Nat),u'.heap=(W7.alloc (.cells #[.int .u32 a,.int .u32 b,.int .u8 p,.int .u16 s,.int .u16 d,.bool false,.bool false,.int .u64 (U:Int)] 197)).heap->u'.os=W7.os->u'.tape=W7.tape->u'.output=W7.output->u'.grownBy w3 (Value.slice p2 F'.length c2).ownBlock->((Value.slice p2 F'.length c2).ownBlock=some gg\/gg=W7.heap.size+1)->w3.ownsRow 0 197 8 (.slice (some ⟨gg,0,none⟩) (F'.length+1) cap') (F'.length+1) (zAV F'++[.int .u32 a,.int .u32 b,.int .u8 p,.int .u16 s,.int .u16 d,.bool false,.bool false,.int .u64 (U:Int)])->(zAQ (w3.setCell ⟨D,5,none⟩ (.slice (some ⟨gg,0,none⟩) (F'.length+1) cap')) D rv (.slice (some ⟨gg,0,none⟩) (F'.length+1) cap') R room now (F'++[⟨a,b,p,s,d,false,false,U⟩]) cA cD cR cM/\Trn (fun y=>y=D\/(Value.slice p2 F'.length c2).ownBlock=some y) W7 (w3.setCell ⟨D,5,none⟩ (.slice (some ⟨gg,0,none⟩) (F'.length+1) cap'))/\((Value.slice p2 F'.length c2).ownBlock=some gg\/W7.heap.size<=gg))/\w3.cell? ⟨D,5,none⟩=some (.slice p2 F'.length c2)/\w3.frozen? ⟨D,5,none⟩=false):=fun u' w3 gg cap' q1 q2 q3 q4 q5 q6 q7=>zIP HD.out ⟨a,b,p,s,d,false,false,U⟩ q1 q2 q3 q4 q5 q6 q7
   go_cut [135] from 126 to 134 (fun _ w'=>∃gg cap',zAQ w' D rv (.slice (some ⟨gg,0,none⟩) (F'.length+1) cap') R room now (F'++[⟨a,b,p,s,d,false,false,U⟩]) cA cD cR cM/\Trn (fun y=>y=D\/(Value.slice p2 F'.length c2).ownBlock=some y) W7 w'/\((Value.slice p2 F'.length c2).ownBlock=some gg\/W7.heap.size<=gg))
   case first=>
    go_region_law (refine step_append_lies _ (by rfl) _ _ _ (by rfl) 0 197 i0 _ 8 24 Tryz.underlying128 hi0 hz0 hz1 hz2 rfl (by decide) _ F'.length (zAV F') (by rfl) (HOWA.out _ (by rfl)) ⟨W7.heap.size,0,none⟩ 1 1 [.int .u32 a,.int .u32 b,.int .u8 p,.int .u16 s,.int .u16 d,.bool false,.bool false,.int .u64 (U:Int)] (by rfl) (by rfl) (HNW.out _ (by rfl)) (by simp[Value.oneCell']) (by decide) (by unfold maxLen;omega) (by omega) (by omega) (W7.heap.size+1) (by simp) ?_;intro gg cap' w3 hown3 hgrow hat hlt3;have HA3:Hid ((_/\_)/\w3.cell? ⟨D,5,none⟩=some (.slice p2 F'.length c2)/\w3.frozen? ⟨D,5,none⟩=false):=HAD.out _ _ _ _ (by rfl) (by rfl) (by rfl) (by rfl) hgrow hat hown3;clear hgrow hat hown3;have m0:=HA3.out.2.1;have g0:=HA3.out.2.2)
    all_goals
     go_wp2_with fail;go_meet;exact⟨_,_,HA3.out.1⟩
   obtain⟨gg,cap',hA1,hA2,hA3⟩:=hcut;clear HOWA HNW HAD k5 fz5 r0 r1 r2 r3 r4 r5 r6 r7;have HA1:=hid (And.intro hA1 (And.intro hA2 hA3));clear hA1 hA2 hA3;go_wp2_with fail;go_ret;rw[HM.out,HF'.out];obtain⟨q1,q2,q3⟩:=HA1.out;have bb:Below W.heap.size W w6:=(B4.out.trans (HBr.out.mono B4.out.size)).trans (HB6.out.mono hWr);have tt:Trn (fun y=>y=D\/(Value.slice (some ⟨g,0,none⟩) F.length cc).ownBlock=some y) W W7:=(Trn.below bb).trans (T7.out.mono (fun x _ q=> .inl q)) (fun _ _ q=>q);refine⟨rfl,_,q1,tt.trans q2 (fun m hm q=> ?_),fun y q=> ?_⟩
   ·rcases q with q|q
    ·exact .inl q
    ·have:=(HO2.out.lt m q).1;omega
   ·obtain rfl:gg=y:=by simpa[Value.ownBlock] using q
    rcases q3 with z|z
    ·have:=(HO2.out.lt gg z).1;exact .inr (by omega)
    ·have:=tt.size;exact .inr (by omega)
end
end Go.Proofs.YtclpnafiiobfhaaGreatDoor

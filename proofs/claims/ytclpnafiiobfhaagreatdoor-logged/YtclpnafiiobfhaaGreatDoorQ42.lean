import Derived.Test.YtclpnafiiobfhaaGreatDoorQ41
import Derived.Shelf.RegionOpen
import Derived.OwnWalkIn
import Derived.LoopNIn
import Derived.LoopIn
set_option linter.unusedVariables false
set_option linter.unusedSimpArgs false
set_option maxRecDepth 100000
set_option maxHeartbeats 2000000
namespace Go.Proofs.YtclpnafiiobfhaaGreatDoor
open Go.RowKit Go.Shelf
attribute [local go_sem] Oper.semAt_some
theorem zJO {T mb room births n g cap B:Nat} {f:Nat->En} {F:List Fl} {G:List En} (w:World) (h:zAK w T mb (.slice (some ⟨g,0,none⟩) n cap) room births n f) (hr:Rel n f births F G) (hB:w.cell? ⟨B,0,none⟩=some (.pointer (some ⟨T,0,none⟩))):
 zQ4 Tryz.prog 167 #[.pointer (some ⟨B,0,none⟩)] (fun x:Fl=> #[.agg x.cells]) F w:=by
 intro l J Jx hs hJ hJx hY;have HC:=hid (zK5 w h hr);have hn:n<=64:=Nat.le_trans h.le h.big;refine(callsIn_wide (n:=3)).1 ?_;refine callsIn_of_wp Tryz.func167 rfl trivial ?_ rfl;simp only[Tryz.ntmps167,List.size_toArray,List.length_cons,List.length_nil,Nat.reduceAdd,Nat.reduceSub,Array.replicate_succ,Array.replicate_zero,List.push_toArray,List.append_toArray,List.nil_append,List.cons_append];gi_wp2_with (refine⟨trivial,?_⟩;gi_at_call 168;refine(callsIn_wide.2 HC.out).mono ?_;rintro e w2 ⟨b,c,rfl,hb1,hb2,hb3,hg⟩;have HG:=hid hg;have HB3:=hid hb3;clear hg hb3);clear HC hB h;gi_loopw [8] (fun i wr=>∃k:Nat,k<=n/\i= .int .i64 k/\Hid (J w2.heap.size (F.take k) wr/\Kpt w.heap.size w2.heap.size w2 wr))
  (fun i _=>n-(intOf i).toNat)
 case atStart=>exact⟨0,Nat.zero_le _,rfl,hs _ _ HB3.out.size (Nat.le_refl _) HB3.out,Kpt.refl _ _ _⟩
 case round=>
  obtain⟨k,hk,rfl,HJ⟩:=hrel
  by_cases hlt:k<n
  ·obtain⟨⟨⟨x1,x2,x3,x4,x5⟩,⟨x6,x7,x8,x9,x10,x11,x12,x13⟩,x14⟩,he⟩:∃e,G[k]? =some e:=⟨_,List.getElem?_eq_getElem (by rw[hr.len];exact hlt)⟩
   have hc:∀j u,(En.mk ⟨x1,x2,x3,x4,x5⟩ ⟨x6,x7,x8,x9,x10,x11,x12,x13⟩ x14).l[j]? =some u->wr.cell? ⟨b,k*14+j,none⟩=some u:=fun j u hu=>by
    have:=HG.out k _ he j u hu;simp only[World.cell?] at this ⊢;rw[HJ.out.2.block b (by omega) (by omega)];exact this
   have c0:=hc 0 _ rfl;have c1:=hc 1 _ rfl;have c2:=hc 2 _ rfl;have c3:=hc 3 _ rfl;have c4:=hc 4 _ rfl;have c5:=hc 5 _ rfl;have c6:=hc 6 _ rfl;have c7:=hc 7 _ rfl;have c8:=hc 8 _ rfl;have c9:=hc 9 _ rfl;have c10:=hc 10 _ rfl;have c11:=hc 11 _ rfl;have c12:=hc 12 _ rfl;have c13:=hc 13 _ rfl;rw[Nat.add_zero] at c0;clear hc;have j1:(0:Int)<=(k:Int):=by omega
   have j2:(k:Int)<(n:Int):=by omega
   have hx:F.take k++[⟨x6,x7,x8,x9,x10,x11,x12,x13⟩]=F.take (k+1):=by
    have e:F[k]? =some ⟨x6,x7,x8,x9,x10,x11,x12,x13⟩:=by rw[<-hr.vals,List.getElem?_map,he];rfl
    rw[List.take_add_one,e];rfl
   have HX:=hid hx;have hz:w2.heap.size<=(wr.alloc (.cells #[.int .u32 x1,.int .u16 x2,.int .u32 x3,.int .u16 x4,.int .u8 x5,.int .u32 x6,.int .u32 x7,.int .u8 x8,.int .u16 x9,.int .u16 x10,.bool x11,.bool x12,.int .u64 (x13:Int),.int .u64 (x14:Int)] 265)).heap.size:=by
    have:=HJ.out.2.size;simp;omega
   obtain⟨fn,tmps,assign,body,hy,hR⟩:=hY w2.heap.size (F.take k) ⟨x6,x7,x8,x9,x10,x11,x12,x13⟩ (wr.alloc (.cells #[.int .u32 x1,.int .u16 x2,.int .u32 x3,.int .u16 x4,.int .u8 x5,.int .u32 x6,.int .u32 x7,.int .u8 x8,.int .u16 x9,.int .u16 x10,.bool x11,.bool x12,.int .u64 (x13:Int),.int .u64 (x14:Int)] 265)) HB3.out.size hz (hJ _ _ _ _ HJ.out.1 (Trn.alloc _ _ _)) (by rw[hx];exact List.take_prefix _ _);have HR:=hid hR;have HJ':=hid fun(o:Obj)=>HJ.out.2.alloc HJ.out.2.size o
   dsimp only[Fl.cells] at hy;clear he hx hR hY hz;gi_wp2;refine(zHz HR.out).mono ?_;rintro e W3 (⟨rfl,hJ3,hk3⟩|⟨rfl,hJx3,hk3⟩)
   ·have H3:Hid (J w2.heap.size (F.take (k+1)) W3/\Kpt w.heap.size w2.heap.size w2 W3):=⟨by rw[<-HX.out];exact hJ3,(HJ'.out _).trans hk3⟩
    clear hJ3 hk3;gi_wp2;go_roundw
    case rel=>exact⟨k+1,by omega,by simp,H3⟩
    case measure=>simp[intOf];omega
   ·gi_wp2
    refine bodyPost_ret (results_none rfl _ _ _) rfl ?_;exact⟨⟨_,rfl⟩,_,HB3.out.size,Nat.le_trans (HJ'.out _).size hk3.size,.inr ⟨_,by rw[HX.out];exact List.take_prefix _ _,hJx3⟩⟩
  ·obtain rfl:k=n:=by omega
   gi_wp2;go_end0;refine⟨⟨_,rfl⟩,_,HB3.out.size,HJ.out.2.size,.inl ?_⟩;have:=HJ.out.1
   rwa [List.take_of_length_le (by rw[hr.flen];exact Nat.le_refl _)] at this
theorem zK6 {T mb room births B:Nat} {f:Nat->En} (w:World) (h:zAK w T mb (.slice none 0 0) room births 0 f) (hB:w.cell? ⟨B,0,none⟩=some (.pointer (some ⟨T,0,none⟩))):
 zQ4 Tryz.prog 167 #[.pointer (some ⟨B,0,none⟩)] (fun x:Fl=> #[.agg x.cells]) [] w:=by
 intro l J Jx hs hJ hJx hY;have HC:=hid (zNX w h);clear hJ hJx hY;refine(callsIn_wide (n:=3)).1 ?_;refine callsIn_of_wp Tryz.func167 rfl trivial ?_ rfl;simp only[Tryz.ntmps167,List.size_toArray,List.length_cons,List.length_nil,Nat.reduceAdd,Nat.reduceSub,Array.replicate_succ,Array.replicate_zero,List.push_toArray,List.append_toArray,List.nil_append,List.cons_append];gi_wp2_with (refine⟨trivial,?_⟩;gi_at_call 168;refine(callsIn_wide.2 HC.out).mono ?_;rintro e w2 ⟨rfl,rfl⟩);gi_loopw [8] (fun i wr=>i= .int .i64 0/\wr=w2) (fun _ _=>0)
 case atStart=>exact⟨rfl,rfl⟩
 case round=>
  obtain⟨rfl,rfl⟩:=hrel;gi_wp2;go_end0;exact⟨⟨_,rfl⟩,_,Nat.le_refl _,Nat.le_refl _,.inl (hs _ _ (Nat.le_refl _) (Nat.le_refl _) (Below.refl _ _))⟩
theorem zGK {T mb room births n B:Nat} {v:Value} {f:Nat->En} {F:List Fl} {G:List En} (w:World) (h:zAK w T mb v room births n f) (hr:Rel n f births F G) (hB:w.cell? ⟨B,0,none⟩=some (.pointer (some ⟨T,0,none⟩))):
 zQ4 Tryz.prog 167 #[.pointer (some ⟨B,0,none⟩)] (fun x:Fl=> #[.agg x.cells]) F w:=by
 rcases h.row with⟨rfl,rfl⟩|⟨g,cap,rfl,_⟩
 ·have:=hr.flen
  obtain rfl:F=[]:=List.eq_nil_of_length_eq_zero this;exact zK6 w h hB
 ·exact zJO w h hr hB
theorem zGL (T:Nat) (w:World):
 Calls Tryz.prog 145 #[.pointer (some ⟨T,0,none⟩)] w fun e w'=>e= .returned (.func (.func 167) #[] #[.pointer (some ⟨w.heap.size,0,none⟩)])/\w'=w.alloc (.cells #[.pointer (some ⟨T,0,none⟩)] 234):=by
 go_enter Tryz.func145,Tryz.ntmps145;go_wp2_with fail;go_ret;exact⟨rfl,rfl⟩
theorem zJP (K:Nat) (w:World):
 Calls Tryz.prog 126 #[.pointer (some ⟨K,0,none⟩)] w fun e w'=>e= .returned (.func (.func 144) #[] #[.pointer (some ⟨w.heap.size,0,none⟩)])/\w'=w.alloc (.cells #[.pointer (some ⟨K,0,none⟩)] 191):=by
 go_enter Tryz.func126,Tryz.ntmps126;go_wp2_with fail;go_ret;exact⟨rfl,rfl⟩
end Go.Proofs.YtclpnafiiobfhaaGreatDoor
namespace Go.Proofs.YtclpnafiiobfhaaGreatDoor
open Go.RowKit Go.Shelf
attribute [local go_sem] Oper.semAt_some
theorem zO6 {P:Program} {F:Fence} {l' l fn n:Nat} {tmps:Array Value} {assign body:Go.Code} {W:World} {R:Ending->World->Prop} (h:RoundIn F n P l fn tmps assign body W R):RoundIn (F.inRound l') n P l fn tmps assign body W R:=h
theorem zFd {K room now births B:Nat} {O:Nat->Prop} {F:List Fl} (w:World) (h:Kps w O K room now births F) (hB:w.cell? ⟨B,0,none⟩=some (.pointer (some ⟨K,0,none⟩))) (hBl:B<w.heap.size):
 zQ4 Tryz.prog 144 #[.pointer (some ⟨B,0,none⟩)] (fun x:Fl=> #[.agg x.cells]) F w:=by
 obtain⟨T,mb,v,m,f,G,hk,_⟩:=h;have hK1:=hk.blk.cell 1 _ rfl;have hKl:=hk.blk.lt;intro l J Jx hs hJ hJx hY;have HK:=hid hk;clear hk;refine(callsIn_wide (n:=3)).1 ?_;refine callsIn_of_wp_marks Tryz.func144 rfl trivial ?_ rfl;simp only[Tryz.ntmps144,List.size_toArray,List.length_cons,List.length_nil,Nat.reduceAdd,Nat.reduceSub,Array.replicate_succ,Array.replicate_zero,List.push_toArray,List.append_toArray,List.nil_append,List.cons_append];gi_wp2_with (refine⟨trivial,?_⟩;gi_at_call 145;refine(callsIn_wide.2 (zGL _ _)).mono ?_;rintro e w2 ⟨rfl,rfl⟩);obtain⟨w2,hw2⟩:∃w2,(w.alloc (Obj.cells #[Value.func (Fn.yield l) #[] #[]] 242)).alloc (Obj.cells #[Value.pointer (some {block:=T,off:=0})] 234)=w2:=⟨_,rfl⟩;rw[hw2];have hz:w2.heap.size=w.heap.size+2:=by rw[<-hw2];simp
 have b2:Below w.heap.size w w2:=by rw[<-hw2];exact((Below.refl _ w).alloc (Nat.le_refl _) _).alloc (by simp) _
 have y2:w2.heap[w.heap.size]? =some (.cells #[.func (.yield l) #[] #[]] 242):=by
  rw[<-hw2,Below.heap_alloc _ _ _ (by simp)];exact World.alloc_heap_new w _
 have t2:w2.heap[w.heap.size+1]? =some (.cells #[.pointer (some ⟨T,0,none⟩)] 234):=by
  rw[<-hw2];have:=World.alloc_heap_new (w.alloc (Obj.cells #[Value.func (Fn.yield l) #[] #[]] 242)) (Obj.cells #[Value.pointer (some {block:=T,off:=0})] 234);rwa [World.size_alloc] at this
 have wid:∀{b:Nat} {A B:World},Trn (Btw w2.heap.size b) A B->Trn (Btw w.heap.size b) A B:=fun ht=>ht.mono fun m _ q=>⟨by have:=q.1;omega,q.2⟩
 refine zEu (P:=Tryz.prog) (gf:=167) (lb:= #[.pointer (some ⟨w.heap.size+1,0,none⟩)]) (encs:=fun x:Fl=> #[.agg x.cells]) (xs:=F) rfl (enters_of Tryz.func167 (by kernel_rfl) rfl)
  (fun W1 h1=>zGK W1 (HK.out.tab.below (b2.trans (h1.mono (by omega)))) HK.out.rel (zAd ((h1.block _ (by omega)).trans t2) _ rfl)) (fun _=>rfl)
  (fun b pre W=>J b pre W/\W.heap[w.heap.size]? =some (.cells #[.func (.yield l) #[] #[]] 242))
  (fun b c pre W=>c= .ret/\Jx b pre W)
  (fun b W2 h1 h2 h3=>⟨hs b W2 (by omega) h2 (b2.trans (h3.mono (by omega))),(h3.block _ (by omega)).trans y2⟩)
  (fun b pre A B h t=>⟨hJ b pre A B h.1 (wid t),t.keep (fun q=>by have:=q.1;omega) h.2⟩)
  (fun b c pre A B h t=>⟨h.1,hJx b pre A B h.2 (wid t)⟩)
  (fun b x a' W=>∃Bx,b<=Bx/\W.heap[Bx]? =some (.cells x.cells 241)/\a'={tmps:= #[.func (.yield l) #[] #[],.pointer (some ⟨B,0,none⟩),.pointer (some ⟨w.heap.size,0,none⟩),.pointer (some ⟨Bx,0,none⟩),.pointer (some ⟨K,0,none⟩),.pointer (some ⟨K,0,none⟩),.pointer (some ⟨K,1,none⟩),.pointer (some ⟨T,0,none⟩),.func (.func 167) #[] #[.pointer (some ⟨w.heap.size+1,0,none⟩)],.agg x.cells,undef,undef,undef,undef],defers:=[]})
  (fun b x a' A B h t=>by obtain⟨Bx,h1,h2,h3⟩:=h;exact⟨Bx,h1,t.keep (fun q=>by have:=q.2;omega) h2,h3⟩)
  ?assign ?body ?done ?stop
 case assign=>
  rintro l' b pre ⟨x1,x2,x3,x4,x5,x6,x7,x8⟩ W K' hb hbW _ hK;dsimp only[Fl.cells] at hK ⊢;have HKK:=hid hK;clear hK;gi_wp2;exact HKK.out _ _ ((Below.refl _ W).alloc (Nat.le_refl _) _) ⟨W.heap.size,hbW,World.alloc_heap_new W _,rfl⟩
 case body=>
  rintro l' b pre x a' W hb hbW ⟨hi,hy0⟩ ⟨Bx,hBx,hx,rfl⟩ hpre;obtain⟨x1,x2,x3,x4,x5,x6,x7,x8⟩:=x;obtain⟨fn,tmps,assign,body,hy,hR⟩:=hY b pre ⟨x1,x2,x3,x4,x5,x6,x7,x8⟩ W (by omega) hbW hi hpre;have HR:=hid hR;dsimp only[Fl.cells] at hy hx ⊢;have c:=zAd hy0 _ rfl (i:=0);have c0:=zAd hx _ rfl (i:=0);have c1:=zAd hx _ rfl (i:=1);have c2:=zAd hx _ rfl (i:=2);have c3:=zAd hx _ rfl (i:=3);have c4:=zAd hx _ rfl (i:=4);have c5:=zAd hx _ rfl (i:=5);have c6:=zAd hx _ rfl (i:=6);have c7:=zAd hx _ rfl (i:=7);have HY0:=hid hy0;clear hR hx hi hpre hy0 hY hw2 y2 t2;gi_wp2;refine⟨rfl,RoundIn.mono (zO6 (zHz HR.out)) ?_⟩;rintro e W3 (⟨rfl,hJ3,hk3⟩|⟨rfl,hJx3,hk3⟩)
  ·have H3:=hid (And.intro hJ3 hk3)
   clear hJ3 hk3;gi_wp2;exact⟨H3.out.2.mono (by omega) (Nat.le_refl _),H3.out.1,(H3.out.2.block _ (Nat.le_refl _) (by omega)).trans HY0.out⟩
  ·have H3:=hid (And.intro hJx3 hk3)
   clear hJx3 hk3;gi_wp2;exact⟨H3.out.2.mono (by omega) (Nat.le_refl _),rfl,H3.out.1⟩
 case done=>
  rintro D b W hD1 hD2 hbW ⟨hi,_⟩ hK;gi_wp2;refine⟨by simp,.inl ⟨_,_,rfl,run_takeDeferred hK,?_⟩⟩;exact⟨_,results_none rfl _ _ _,⟨_,rfl⟩,b,by omega,by simp;exact hbW,.inl (hJ _ _ _ _ hi (Trn.put _ _ _ ⟨by omega,hD2⟩))⟩
 case stop=>
  rintro D b c pre W hD1 hD2 hbW hp ⟨rfl,hi⟩ hK;gi_wp2;refine⟨by simp,.inl ⟨_,_,rfl,run_takeDeferred hK,?_⟩⟩;exact⟨_,results_none rfl _ _ _,⟨_,rfl⟩,b,by omega,by simp;exact hbW,.inr ⟨pre,hp,hJx _ _ _ _ hi (Trn.put _ _ _ ⟨by omega,hD2⟩)⟩⟩
end Go.Proofs.YtclpnafiiobfhaaGreatDoor
namespace Go.Proofs.YtclpnafiiobfhaaGreatDoor
open Go.RowKit Go.Shelf
attribute [local go_sem] Oper.semAt_some
section
variable {Q K : Nat} {O : Nat → Prop} {lg cv : Value} {R : Option Bk} {room now births : Nat} {F : List Fl} {cA cD cR cM : Nat}
theorem zDJ (w:World) (h:zAa w Q K O lg cv R room now births F cA cD cR cM):
 Calls Tryz.prog 108 #[.pointer (some ⟨Q,0,none⟩)] w fun e w'=>e= .returned (.func (.func 144) #[] #[.pointer (some ⟨w.heap.size,0,none⟩)])/\w'=w.alloc (.cells #[.pointer (some ⟨K,0,none⟩)] 191):=by
 have c1:=h.blk.cell 1 _ rfl;have HC:=hid (zJP K w);clear h;go_enter Tryz.func108,Tryz.ntmps108;go_wp2_with (go_at_call 126;refine HC.out.mono ?_;rintro e w2 ⟨rfl,rfl⟩);go_ret;exact⟨rfl,rfl⟩
theorem zO7 (w:World) (h:zAa w Q K O lg cv R room now births F cA cD cR cM):
 Calls Tryz.prog 59 #[.pointer (some ⟨Q,0,none⟩)] w fun e w'=>e= .returned (.int .u64 (now:Int))/\w'=w:=by
 have c1:=h.blk.cell 1 _ rfl;have HC:=hid (zJJ w h.keeps);clear h;go_enter Tryz.func59,Tryz.ntmps59;go_wp2_with (go_at_call 89;refine HC.out.mono ?_;rintro e w2 ⟨rfl,rfl⟩);go_ret;exact⟨rfl,rfl⟩
theorem zJQ (w:World) (h:zAa w Q K O lg cv R room now births F cA cD cR cM):
 Calls Tryz.prog 62 #[.pointer (some ⟨Q,0,none⟩)] w fun e w'=>e= .returned (.agg #[.int .u64 (cA:Int),.int .u64 (cD:Int),.int .u64 (cR:Int),.int .u64 (cM:Int)])/\Below w.heap.size w w':=by
 have c1:=h.blk.cell 2 _ rfl;have c2:=h.blk.cell 3 _ rfl;have c3:=h.blk.cell 4 _ rfl;have c4:=h.blk.cell 5 _ rfl;have hQ:=h.blk.lt;clear h;go_enter Tryz.func62,Tryz.ntmps62;go_wp2_with fail;refine bodyPost_ret (v:= .agg #[.int .u64 (cA:Int),.int .u64 (cD:Int),.int .u64 (cR:Int),.int .u64 (cM:Int)]) (by simp[results,Tryz.results62,go_sem]) rfl ⟨rfl,?_⟩
 repeat (with_reducible first|exact Below.refl _ _|refine Below.drew ?_|refine Below.setCell ?_ (by first|(simp;done)|(simp;omega)) _|refine Below.alloc ?_ (by first|(simp;done)|(simp;omega)) _)
theorem zFe {W W':World} {base e size k:Nat} {v:Value} {xs:List Value} {S:Nat->Prop} (h:W.ownsRow base e size v k xs) (ht:Trn S W W') (hs:∀m,base<=m->¬S m):W'.ownsRow base e size v k xs:=by
 refine⟨h.1,?_⟩;rcases h.2 with q|⟨g,cap,cur,q1,q2,q3,q4⟩
 ·exact .inl q
 ·exact .inr ⟨g,cap,cur,q1,q2,ht.keep (hs g q2) q3,q4⟩
theorem zIB {W w1:World} {b B:Nat} {t e:TypeId} {size:Nat} {v v':Value} {k m:Nat} {xs ys:List Value} {tmp:Obj} (hv:Boxed W B t v) (hte:t≠e) (hrow:W.ownsRow b e size v k xs) (hown':w1.ownsRow b e size v' m ys) (hgrow:(W.alloc tmp).grownBy w1 v.ownBlock):
 Boxed w1 B t v/\Boxed (w1.setCell ⟨B,0,none⟩ v') B t v'/\(w1.setCell ⟨B,0,none⟩ v').ownsRow b e size v' m ys/\Trn (fun x=>x=B\/b<=x) W (w1.setCell ⟨B,0,none⟩ v'):=by
 have h1:Boxed w1 B t v:=(hv.alloc tmp).kept hgrow (hv.not_row hte hrow);refine⟨h1,h1.set v',hown'.kept (grownBy_setCell' w1 B v') (.inr (h1.not_row hte hown').symm),?_⟩;refine((Trn.alloc _ W tmp).trans (Trn.grown' (S:=fun x=>x=B\/b<=x) hgrow (fun j ej=> ?_)) (fun _ _ q=>q)).trans (Trn.setCell (S:=fun x=>x=B\/b<=x) w1 B 0 v' (.inl rfl)) (fun _ _ q=>q);rcases hrow.2 with⟨rfl,_⟩|⟨g,cap,cur,rfl,q,_⟩
 ·simp[Value.ownBlock] at ej
 ·obtain rfl:g=j:=by simpa[Value.ownBlock] using ej
  exact .inr q
theorem zNY (w:World) (h:zAa w Q K O lg cv R room now births F cA cD cR cM):
 Calls Tryz.prog 90 #[.pointer (some ⟨Q,0,none⟩)] w fun e w'=>∃v,e= .returned v/\w'.ownsRow w.heap.size 197 8 v F.length (zAV F)/\Below w.heap.size w w':=by
 have HC:Hid (∀o,Calls _ _ _ (w.alloc o) _):=fun o=>zDJ (w.alloc o) (h.below (bal _ _))
 have HG:=hid h;have hF:F.length<=64:=by
  obtain⟨T,mb,v,n,f,G,h,_⟩:=h.keeps;rw[h.rel.flen];exact Nat.le_trans h.tab.le h.tab.big
 obtain⟨i0,hi0,hz0,hz1,hz2⟩:=zEo Tryz.infoFl;clear h;refine(callsIn_wide (n:=3)).1 ?_;refine callsIn_of_wp_marks Tryz.func90 rfl trivial ?_ rfl;simp only[Tryz.ntmps90,List.size_toArray,List.length_cons,List.length_nil,Nat.reduceAdd,Nat.reduceSub,Array.replicate_succ,Array.replicate_zero,List.push_toArray,List.append_toArray,List.nil_append,List.cons_append];gi_wp2_with (refine⟨trivial,?_⟩;gi_at_call 108;refine(callsIn_wide.2 (HC.out _)).mono ?_;rintro e w2 ⟨rfl,rfl⟩);obtain⟨w2,hw2⟩:∃w2,(w.alloc (Obj.cells #[Value.slice none 0 0] 128)).alloc (Obj.cells #[Value.pointer (some {block:=K,off:=0})] 191)=w2:=⟨_,rfl⟩;rw[hw2];have hz:w2.heap.size=w.heap.size+2:=by rw[<-hw2];simp
 have b2:Below w.heap.size w w2:=by rw[<-hw2];exact((Below.refl _ w).alloc (Nat.le_refl _) _).alloc (by simp) _
 have y2:Boxed w2 w.heap.size 128 (.slice none 0 0):=by
  rw[<-hw2];exact(Boxed.new w _ _).alloc _
 have t2:w2.heap[w.heap.size+1]? =some (.cells #[.pointer (some ⟨K,0,none⟩)] 191):=by
  rw[<-hw2];have:=World.alloc_heap_new (w.alloc (Obj.cells #[Value.slice none 0 0] 128)) (Obj.cells #[Value.pointer (some {block:=K,off:=0})] 191);rwa [World.size_alloc] at this
 refine zEu (P:=Tryz.prog) (gf:=144) (lb:= #[.pointer (some ⟨w.heap.size+1,0,none⟩)]) (encs:=fun x:Fl=> #[.agg x.cells]) (xs:=F) rfl (enters_of Tryz.func144 (by kernel_rfl) rfl)
  (fun W1 h1=>zFd W1 (HG.out.keeps.below (b2.trans (h1.mono (by omega)))) (zAd ((h1.block _ (by omega)).trans t2) _ rfl) (by have:=h1.size;omega)) (fun _=>rfl)
  (fun b pre W=>∃v,Boxed W w.heap.size 128 v/\W.ownsRow b 197 8 v pre.length (zAV pre)/\Below w.heap.size w W)
  (fun b c pre W=>False)
  (fun b W2 h1 h2 h3=>⟨_,(h3.block _ (by omega)).trans y2,World.ownsRow_nil _ _ _ _,b2.trans (h3.mono (by omega))⟩)
  (fun b pre A B h t=>by
    obtain⟨v,q1,q2,q3⟩:=h;exact⟨v,t.keep (fun q=>by have:=q.1;omega) q1,zFe q2 t (fun m hm q=>by have:=q.2;omega),q3.trans (t.to_below q3.size (fun m hm q=>by have:=q.1;omega))⟩)
  (fun b c pre A B h t=>h)
  (fun b x a' W=>∃Bx,b<=Bx/\W.heap[Bx]? =some (.cells x.cells 197)/\a'={tmps:= #[.pointer (some ⟨Q,0,none⟩),undef,.slice none 0 0,.pointer (some ⟨w.heap.size,0,none⟩),.pointer (some ⟨Bx,0,none⟩),.pointer (some ⟨Q,0,none⟩),.func (.func 144) #[] #[.pointer (some ⟨w.heap.size+1,0,none⟩)],.agg x.cells,undef,undef,undef,undef,undef],defers:=[]})
  (fun b x a' A B h t=>by obtain⟨Bx,h1,h2,h3⟩:=h;exact⟨Bx,h1,t.keep (fun q=>by have:=q.2;omega) h2,h3⟩)
  ?assign ?body ?done ?stop
 case assign=>
  rintro l' b pre ⟨x1,x2,x3,x4,x5,x6,x7,x8⟩ W K' hb hbW _ hK;dsimp only[Fl.cells] at hK ⊢;have HKK:=hid hK;clear hK;gi_wp2;exact HKK.out _ _ ((Below.refl _ W).alloc (Nat.le_refl _) _) ⟨W.heap.size,hbW,World.alloc_heap_new W _,rfl⟩
 case body=>
  rintro l' b pre x a' W hb hbW ⟨v,hv,hrow,hB⟩ ⟨Bx,hBx,hx,rfl⟩ hpre;obtain⟨x1,x2,x3,x4,x5,x6,x7,x8⟩:=x;have hl:pre.length+1<=64:=by have:=hpre.length_le;simp at this;omega
  have HX:Hid (zAV (pre++[⟨x1,x2,x3,x4,x5,x6,x7,x8⟩])=zAV pre++[.int .u32 x1,.int .u32 x2,.int .u8 x3,.int .u16 x4,.int .u16 x5,.bool x6,.bool x7,.int .u64 (x8:Int)]):=zFa _ _;dsimp only[Fl.cells] at hx ⊢;have c:=hv.cell;have c0:=zAd hx _ rfl (i:=0);have c1:=zAd hx _ rfl (i:=1);have c2:=zAd hx _ rfl (i:=2);have c3:=zAd hx _ rfl (i:=3);have c4:=zAd hx _ rfl (i:=4);have c5:=zAd hx _ rfl (i:=5);have c6:=zAd hx _ rfl (i:=6);have c7:=zAd hx _ rfl (i:=7);have HB:=hid hB;clear hx hpre hw2 y2 t2 hB;gi_wp2_with (gi_at_builtin;refine wpListIn_append_own _ rfl _ _ 128 rfl b 197 i0 _ 8 24 Tryz.underlying128 hi0 hz0 hz1 hz2 rfl (by decide) _ _ _ rfl (hrow.alloc _) ⟨W.heap.size,0,none⟩ 1 1 [.int .u32 x1,.int .u32 x2,.int .u8 x3,.int .u16 x4,.int .u16 x5,.bool x6,.bool x7,.int .u64 (x8:Int)] rfl rfl (zFb _ _ _) (by simp[Value.oneCell']) (by unfold maxLen;omega) (by omega) (by simp;omega) ?_;intro v' w1 hown' hgrow _;obtain⟨g',cap',rfl⟩:=ownsRow_succ hown';obtain⟨hv1,hv2,hr2,ht2⟩:=zIB hv (by decide) hrow hown' hgrow;have hc1:=hv1.cell;have hf1:=hv1.frozen);refine⟨Kpt.trn ht2 hbW (fun m h1 h2 q=>by omega),_,hv2,?_,HB.out.trans (ht2.to_below HB.out.size (fun m hm q=>by omega))⟩;rw[HX.out]
  simpa using hr2
 case done=>
  rintro D b W hD1 hD2 hbW ⟨v,hv,hrow,hB⟩ hK;have hc:=hv.cell;gi_wp2;refine⟨by simp,.inl ⟨_,_,rfl,run_takeDeferred hK,?_⟩⟩;refine⟨_,results_tmp rfl _ _ _,v,rfl,?_,hB.trans ((Trn.put (S:=fun x=>x=D) W D _ rfl).to_below hB.size (fun m hm q=>by omega))⟩;have:=ownsRow_putObj hrow (.deferred none) hK rfl;rcases this.2 with q|⟨g,cap,cur,q1,q2,q3⟩
  ·exact⟨this.1,.inl q⟩
  ·exact⟨this.1,.inr ⟨g,cap,cur,q1,by omega,q3⟩⟩
 case stop=>
  rintro D b c pre W hD1 hD2 hbW hp h hK;exact h.elim
end
end Go.Proofs.YtclpnafiiobfhaaGreatDoor

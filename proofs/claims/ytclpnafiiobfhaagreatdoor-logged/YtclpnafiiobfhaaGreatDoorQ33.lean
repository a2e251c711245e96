import Derived.Test.YtclpnafiiobfhaaGreatDoorQ32
set_option linter.unusedVariables false
set_option linter.unusedSimpArgs false
set_option maxRecDepth 100000
set_option maxHeartbeats 12800000
namespace Go.Proofs.YtclpnafiiobfhaaGreatDoor
open Go.RowKit
def zBV (f:Nat->En):Nat->List Value
 |0=>[]
 |n+1=>zBV f n++(f n).l
theorem zBp (f:Nat->En):∀n,(zBV f n).length=n*14
 |0=>rfl
 |n+1=>by rw[zBV,List.length_append,zBp f n,En.len];omega
theorem zDb (f:Nat->En):∀(n i k:Nat),i<n->k<14->(zBV f n)[i*14+k]? =(f i).l[k]?
 |0,i,k,hi,_=>by omega
 |n+1,i,k,hi,hk=>by
  rw[zBV]
  by_cases e:i=n
  ·subst e
   rw[List.getElem?_append_right (by rw[zBp];omega),zBp,show i*14+k-i*14=k by omega]
  ·rw[List.getElem?_append_left (by rw[zBp];omega)]
   exact zDb f n i k (by omega) hk
theorem zFc (f:Nat->En) (e:En):∀(n m:Nat),n<=m->zBV (Hp.put f m e) n=zBV f n
 |0,_,_=>rfl
 |n+1,m,h=>by rw[zBV,zBV,zFc f e n m (by omega),Hp.put_other _ _ _ _ (by omega)]
theorem zEn.owns {W:World} {v:Value} {n:Nat} {f:Nat->En} (h:zEn W v n f):W.ownsRow 0 265 14 v n (zBV f n):=by
 rcases h with⟨rfl,rfl⟩|⟨g,cap,rfl,cur,hh,a,b,c,d⟩
 ·exact World.ownsRow_nil _ _ _ _
 ·refine⟨zBp f n,.inr ⟨g,cap,cur,rfl,Nat.zero_le _,hh,b,c,a,?_⟩⟩
  apply List.ext_getElem?
  intro j
  by_cases hj:j<n*14
  ·have hm:=Nat.mod_lt j (show 14>0 by decide)
   have hd:j / 14<n:=by omega
   have ej:j=j / 14*14+j % 14:=by omega
   rw[List.getElem?_take_of_lt hj];rw[ej,zDb f n _ _ hd hm];obtain⟨v,hv⟩:∃v,(f (j / 14)).l[j % 14]? =some v:=⟨_,List.getElem?_eq_getElem (by rw[En.len];exact hm)⟩;rw[hv]
   simpa using d (j / 14) hd (j % 14) v hv
  ·rw[List.getElem?_eq_none (by rw[List.length_take];omega),List.getElem?_eq_none (by rw[zBp];omega)]
theorem zNH {W:World} {g n cap:Nat} {f:Nat->En} (h:W.ownsRow 0 265 14 (.slice (some ⟨g,0,none⟩) n cap) n (zBV f n)):zAR W g n cap f:=by
 obtain⟨_,q⟩:=h;rcases q with⟨q,_⟩|⟨g',cap',cur,q,_,hh,b,c,a,t⟩
 ·cases q
 ·cases q
  refine⟨cur,hh,a,b,c,fun i hi k v hv=> ?_⟩;have hk:k<14:=by have:=(List.getElem?_eq_some_iff.1 hv).1;rw[En.len] at this;exact this
  have e:=zDb f n i k hi hk;rw[<-t,List.getElem?_take_of_lt (by omega),hv] at e
  simpa using e
theorem zEn.form {W:World} {v:Value} {n:Nat} {f:Nat->En} (h:zEn W v n f):∃p c,v= .slice p n c:=by
 rcases h with⟨rfl,rfl⟩|⟨g,cap,rfl,_⟩
 ·exact⟨_,_,rfl⟩
 ·exact⟨_,_,rfl⟩
theorem zEn.lt {W:World} {v:Value} {n:Nat} {f:Nat->En} (h:zEn W v n f) (x:Nat) (hx:v.ownBlock=some x):x<W.heap.size:=by
 rcases h with⟨rfl,rfl⟩|⟨g,cap,rfl,q⟩
 ·cases hx
 ·cases hx;exact q.lt
theorem Tryz.infoEn:(Tryz.prog.info? 265).map (fun i=>(i.zero,i.size,i.bytes))=some (some (.agg #[.int .u32 0,.int .u16 0,.int .u32 0,.int .u16 0,.int .u8 0,.int .u32 0,.int .u32 0,.int .u8 0,.int .u16 0,.int .u16 0,.bool false,.bool false,.int .u64 0,.int .u64 0]),14,56):=by kernel_rfl
structure zOp (W0 w':World) (T mb:Nat) (v:Value) (room births n gg cap':Nat) (f:Nat->En) (e:En) (bx:Nat):Prop where
 blk:Blk 263 w' T [.int .i64 (room:Int),.int .u64 (births:Int),.map (some mb),.slice (some ⟨gg,0,none⟩) (n+1) cap']
 ents:zAR w' gg (n+1) cap' (Hp.put f n e)
 map:Plc w' mb (fun k i=>i<n/\(f i).k=k)
 gT:gg≠T
 gm:gg≠mb
 trn:Trn (Ows T mb v) W0 w'
 at':v.ownBlock=some gg\/W0.heap.size<=gg
 box:Blk 265 w' bx e.l
theorem zSD {W0 u w3:World} {T mb:Nat} {v:Value} {room births n gg cap':Nat} {f:Nat->En} {e:En} {bx:Nat} {o:Obj} (h:zAK W0 T mb v room births n f) (hbx:Blk 265 W0 bx e.l) (b1:bx≠T) (b2:v.ownBlock≠some bx) (hu:u.heap=(W0.alloc o).heap) (h2:u.os=W0.os) (h3:u.tape=W0.tape) (h4:u.output=W0.output) (hg:u.grownBy w3 v.ownBlock) (hat:v.ownBlock=some gg\/gg=W0.heap.size+1)
 (hown:w3.ownsRow 0 265 14 (.slice (some ⟨gg,0,none⟩) (n+1) cap') (n+1) (zBV f n++e.l)):
 zOp W0 (w3.setCell ⟨T,3,none⟩ (.slice (some ⟨gg,0,none⟩) (n+1) cap')) T mb v room births n gg cap' f e bx:=by
 have blk:∀m,m<W0.heap.size->v.ownBlock≠some m->w3.heap[m]? =W0.heap[m]? :=fun m hm hn=>by
  rw[hg.block m (by rw[hu];simp;omega) (fun q=>hn q.symm),hu];exact Below.heap_alloc _ _ _ hm
 have oth:∀m,m≠T->(w3.setCell ⟨T,3,none⟩ (.slice (some ⟨gg,0,none⟩) (n+1) cap')).heap[m]? =w3.heap[m]? :=fun m hm=>by
  simp only[World.setCell,Array.getElem?_modify];rw[if_neg (fun q=>hm q.symm)]
 have gT:gg≠T:=by
  rcases hat with q|q
  ·exact(h.tr gg q).1
  ·have:=h.blk.lt;omega
 have gm:gg≠mb:=by
  rcases hat with q|q
  ·exact(h.tr gg q).2
  ·have:=h.map.lt;omega
 have hT:w3.heap[T]? =W0.heap[T]? :=blk T h.blk.lt (fun q=>(h.tr T q).1 rfl);have hM:w3.heap[mb]? =W0.heap[mb]? :=blk mb h.map.lt (fun q=>(h.tr mb q).2 rfl);have hB:Blk 263 w3 T [.int .i64 (room:Int),.int .u64 (births:Int),.map (some mb),v]:=⟨hT.trans h.blk.1,h.blk.2⟩;refine⟨hB.set 3 _,(zNH (f:=Hp.put f n e) ?_).same (oth gg gT),h.map.same ((oth mb (fun q=>h.tm q.symm)).trans hM),gT,gm,?_,hat.imp id (fun q=>by omega),⟨(oth bx b1).trans ((blk bx hbx.lt b2).trans hbx.1),hbx.2⟩⟩
 ·rw[zBV,zFc f e n n (Nat.le_refl _),Hp.put_same];exact hown
 ·have t1:Trn (Ows T mb v) W0 u:=⟨h2,h3,h4,by rw[hu];simp,fun m hm _=>by rw[hu];exact Below.heap_alloc _ _ _ hm⟩
  exact(t1.trans (Trn.grown' hg (fun b q=> .inr (.inr q))) (fun _ _ q=>q)).trans (Trn.setCell _ _ _ _ (.inl rfl)) (fun _ _ q=>q)
theorem zNI {W0 wc W1:World} {T mb:Nat} {v:Value} {room births n gg cap':Nat} {f:Nat->En} {e:En} {bx:Nat} (h:zAK W0 T mb v room births n f) (A:zOp W0 wc T mb v room births n gg cap' f e bx) (hk:e.k.Wf) (hnew:∀i,i<n->(f i).k≠e.k) (hne:e.n<18446744073709551616) (hn:n<room) (hg:wc.drew.grownBy W1 (some mb)) (hp:Plc W1 mb (fun x y=>(x=e.k/\y=n)\/(x≠e.k/\(y<n/\(f y).k=x)))):
 zAK W1 T mb (.slice (some ⟨gg,0,none⟩) (n+1) cap') room births (n+1) (Hp.put f n e)/\Trn (Ows T mb v) W0 W1:=by
 have hT:W1.heap[T]? =wc.heap[T]? :=hg.block T A.blk.lt (fun q=>h.tm (by cases q;rfl));have hG:W1.heap[gg]? =wc.heap[gg]? :=hg.block gg A.ents.lt (fun q=>A.gm (by cases q;rfl));refine⟨⟨⟨hT.trans A.blk.1,A.blk.2⟩,.inr ⟨gg,cap',rfl,A.ents.same hG⟩,hp.congr (fun x y=> ?_),fun i hi=> ?_,fun i hi=> ?_,h.tm,fun x hx=>by cases hx;exact⟨A.gT,A.gm⟩,by omega,h.big⟩,?_⟩
 ·by_cases q:y=n
  ·subst q
   rw[Hp.put_same]
   constructor
   ·rintro(⟨rfl,_⟩|⟨_,z,_⟩)
    ·exact⟨by omega,rfl⟩
    ·omega
   ·rintro⟨_,rfl⟩;exact .inl ⟨rfl,rfl⟩
  ·rw[Hp.put_other _ _ _ _ q]
   constructor
   ·rintro(⟨_,z⟩|⟨_,z,r⟩)
    ·exact absurd z q
    ·exact⟨by omega,r⟩
   ·rintro⟨z,rfl⟩
    have hy:y<n:=by omega
    exact .inr ⟨hnew y hy,hy,rfl⟩
 ·by_cases q:i=n
  ·subst q;rw[Hp.put_same];exact hk
  ·rw[Hp.put_other _ _ _ _ q];exact h.wf i (by omega)
 ·by_cases q:i=n
  ·subst q;rw[Hp.put_same];exact hne
  ·rw[Hp.put_other _ _ _ _ q];exact h.ns i (by omega)
 ·exact(A.trn.trans (Trn.drew _ _) (fun _ _ q=>q)).trans (Trn.grown hg (.inr (.inl rfl))) (fun _ _ q=>q)
theorem zEo {P:Program} {e:TypeId} {z:Value} {s b:Nat} (h:(P.info? e).map (fun i=>(i.zero,i.size,i.bytes))=some (some z,s,b)):∃i,P.info? e=some i/\i.zero=some z/\i.size=s/\i.bytes=b:=by
 cases hq:P.info? e with
 |none=>simp[hq] at h
 |some i=>simp only[hq,Option.map_some,Option.some.injEq,Prod.mk.injEq] at h;exact⟨i,rfl,h.1,h.2.1,h.2.2⟩
theorem zCH {w w':World} {B:Nat} {e:TypeId} {sz:Nat} {v:Value} {n:Nat} {xs:List Value} (h:w.ownsRow B e sz v n xs) (hk:∀g,v.ownBlock=some g->w'.heap[g]? =w.heap[g]?):w'.ownsRow B e sz v n xs:=by
 obtain⟨h1,h2⟩:=h;refine⟨h1,?_⟩;rcases h2 with q|⟨g,cap,cur,rfl,q1,q2,q3⟩
 ·exact .inl q
 ·exact .inr ⟨g,cap,cur,rfl,q1,(hk g rfl).trans q2,q3⟩
theorem zKG {T mb room births n:Nat} {v:Value} {f:Nat->En} (w:World) (h:zAK w T mb v room births n f) (e:En) (hn:n<room) (hk:e.k.Wf) (hnew:∀i,i<n->(f i).k≠e.k) (hne:e.n<18446744073709551616):
 Calls Tryz.prog 181 #[.pointer (some ⟨T,0,none⟩),.agg e.l.toArray] w fun r w'=>r= .returned (.tuple #[])/\∃v',zAK w' T mb v' room births (n+1) (Hp.add rkE n f e)/\Trn (Ows T mb v) w w'/\∀x,Ows T mb v' x->Ows T mb v x\/w.heap.size<=x:=by
 obtain⟨pp,cc,hv⟩:=h.row.form;have HH:=hid h;have hnn:n<64:=Nat.lt_of_lt_of_le hn h.big;have HEW:=hid (And.intro hk (And.intro hnew (And.intro hne hn)));have HOE:=hid e.one;clear hk hnew hne hn;obtain⟨W0,hW0⟩:∃W0,w.alloc (.cells e.l.toArray 265)=W0:=⟨_,rfl⟩;have hz0':W0.heap.size=w.heap.size+1:=by rw[<-hW0];simp
 have HB0:=hid (show Below w.heap.size w W0 by rw[<-hW0];exact(Below.refl _ w).alloc (Nat.le_refl _) _);have HBX:Hid (Blk 265 W0 w.heap.size e.l):=by rw[<-hW0];exact Blk.made w _ _ e.one
 have HE:Hid (e=e):=rfl;obtain⟨e',he'⟩:∃e',e=e':=⟨_,rfl⟩;have HEE:Hid (e=e'):=he';rw[he'] at hW0;clear he';obtain⟨⟨la,lp,ha,hp,kp⟩,⟨a,b,p,s,d,rep,clo,u⟩,nn⟩:=e';have HW0:=hid hW0;have r0:∀i x,([.int .u32 la,.int .u16 lp,.int .u32 ha,.int .u16 hp,.int .u8 kp,.int .u32 a,.int .u32 b,.int .u8 p,.int .u16 s,.int .u16 d,.bool rep,.bool clo,.int .u64 (u:Int),.int .u64 (nn:Int)]:List Value)[i]? =some x->W0.cell? ⟨w.heap.size,i,none⟩=some x:=fun i x hx=>HBX.out.cell i x (by rw[HEE.out];exact hx)
 have c0:=r0 0 _ rfl;have c1:=r0 1 _ rfl;have c2:=r0 2 _ rfl;have c3:=r0 3 _ rfl;have c4:=r0 4 _ rfl;have c5:=r0 5 _ rfl;have c6:=r0 6 _ rfl;have c7:=r0 7 _ rfl;have c8:=r0 8 _ rfl;have c9:=r0 9 _ rfl;have c10:=r0 10 _ rfl;have c11:=r0 11 _ rfl;have c12:=r0 12 _ rfl;have c13:=r0 13 _ rfl;have HC0:=hid (h.below HB0.out);have hTw:T<w.heap.size:=h.blk.lt;have HVB:Hid (v.ownBlock≠some w.heap.size):=fun q=>absurd (h.row.lt _ q) (by omega)
 have k3:W0.cell? ⟨T,3,none⟩=some (.slice pp n cc):=by rw[<-hv];exact HC0.out.blk.cell 3 _ rfl
 have fT:=HC0.out.blk.frozen 3;have HV:=hid hv;have HOW:Hid (W0.ownsRow 0 265 14 (.slice pp n cc) n (zBV f n)):=by rw[<-hv];exact HC0.out.row.owns
 clear hW0 hv h r0;rw[HEE.out];go_enter Tryz.func181,Tryz.ntmps181;go_upto_region 1 with fail
 rw[HW0.out];go_upto_region 2 with fail
 obtain⟨i0,hi0,hz0,hz1,hz2⟩:=zEo Tryz.infoEn;have HOWA:=hid fun(u':World)(hu:u'.heap=(W0.alloc (.cells #[.int .u32 la,.int .u16 lp,.int .u32 ha,.int .u16 hp,.int .u8 kp,.int .u32 a,.int .u32 b,.int .u8 p,.int .u16 s,.int .u16 d,.bool rep,.bool clo,.int .u64 (u:Int),.int .u64 (nn:Int)] 265)).heap)=>zCH (HOW.out.alloc (.cells #[.int .u32 la,.int .u16 lp,.int .u32 ha,.int .u16 hp,.int .u8 kp,.int .u32 a,.int .u32 b,.int .u8 p,.int .u16 s,.int .u16 d,.bool rep,.bool clo,.int .u64 (u:Int),.int .u64 (nn:Int)] 265)) (fun g _=>by rw[hu])
 have HNW:=hid fun(u':World)(hu:u'.heap=(W0.alloc (.cells #[.int .u32 la,.int .u16 lp,.int .u32 ha,.int .u16 hp,.int .u8 kp,.int .u32 a,.int .u32 b,.int .u8 p,.int .u16 s,.int .u16 d,.bool rep,.bool clo,.int .u64 (u:Int),.int .u64 (nn:Int)] 265)).heap)=>World.news_of_block (w:=u') (cs:= #[.int .u32 la,.int .u16 lp,.int .u32 ha,.int .u16 hp,.int .u8 kp,.int .u32 a,.int .u32 b,.int .u8 p,.int .u16 s,.int .u16 d,.bool rep,.bool clo,.int .u64 (u:Int),.int .u64 (nn:Int)]) (t:=265) (fr:=(0,0)) (by rw[hu];exact heap_alloc_new W0 _)
 have HAD:Hid (∀(u' w3:World) (gg cap':Nat),u'.heap=(W0.alloc (.cells #[.int .u32 la,.int .u16 lp,.int .u32 ha,.int .u16 hp,.int .u8 kp,.int .u32 a,.int .u32 b,.int .u8 p,.int .u16 s,.int .u16 d,.bool rep,.bool clo,.int .u64 (u:Int),.int .u64 (nn:Int)] 265)).heap->u'.os=W0.os->u'.tape=W0.tape->u'.output=W0.output->u'.grownBy w3 (Value.slice pp n cc).ownBlock->((Value.slice pp n cc).ownBlock=some gg\/gg=W0.heap.size+1)->w3.ownsRow 0 265 14 (.slice (some ⟨gg,0,none⟩) (n+1) cap') (n+1) (zBV f n++[.int .u32 la,.int .u16 lp,.int .u32 ha,.int .u16 hp,.int .u8 kp,.int .u32 a,.int .u32 b,.int .u8 p,.int .u16 s,.int .u16 d,.bool rep,.bool clo,.int .u64 (u:Int),.int .u64 (nn:Int)])->zOp W0 (w3.setCell ⟨T,3,none⟩ (.slice (some ⟨gg,0,none⟩) (n+1) cap')) T mb v room births n gg cap' f e w.heap.size/\w3.cell? ⟨T,3,none⟩=some (.slice pp n cc)/\w3.frozen? ⟨T,3,none⟩=false):=fun u' w3 gg cap' q1 q2 q3 q4 q5 q6 q7=>by
  rw[<-HV.out] at q5 q6;have hb:w3.heap[T]? =W0.heap[T]? :=by
   rw[q5.block T (by rw[q1];simp;omega) (fun q=>(HC0.out.tr T q.symm).1 rfl),q1];exact Below.heap_alloc _ _ _ HC0.out.blk.lt
  exact⟨zSD HC0.out HBX.out (by omega) HVB.out q1 q2 q3 q4 q5 q6 (by rw[HEE.out];exact q7),(World.cell?_of_block (a:=⟨T,3,none⟩) hb).trans k3,(World.frozen?_of_block (a:=⟨T,3,none⟩) hb).trans fT⟩
 have hTW:T<W0.heap.size:=by omega
 have hTn:T≠W0.heap.size:=by omega
 have hgn:w.heap.size≠W0.heap.size:=by omega
 have hgl:w.heap.size<W0.heap.size:=by omega
 have HZ:=hid hz0';clear HW0 hz0';go_cut [19] from 10 to 18 (fun _ w'=>∃gg cap',zOp W0 w' T mb v room births n gg cap' f e w.heap.size)
 case first=>
  go_region_law (refine step_append_lies _ (by rfl) _ _ _ (by rfl) 0 265 i0 _ 14 56 Tryz.underlying261 hi0 hz0 hz1 hz2 rfl (by decide) _ n (zBV f n) (by rfl) (HOWA.out _ (by rfl)) ⟨W0.heap.size,0,none⟩ 1 1 [.int .u32 la,.int .u16 lp,.int .u32 ha,.int .u16 hp,.int .u8 kp,.int .u32 a,.int .u32 b,.int .u8 p,.int .u16 s,.int .u16 d,.bool rep,.bool clo,.int .u64 (u:Int),.int .u64 (nn:Int)] (by rfl) (by rfl) (HNW.out _ (by rfl)) (by simp[Value.oneCell']) (by decide) (by unfold maxLen;omega) (by omega) (by omega) (W0.heap.size+1) (by simp) ?_;intro gg cap' w3 hown3 hgrow hat hlt3;have HA3:=hid (HAD.out _ _ _ _ (by rfl) (by rfl) (by rfl) (by rfl) hgrow hat hown3);clear hgrow hat hown3;have m0:=HA3.out.2.1;have g0:=HA3.out.2.2)
  all_goals
   go_wp2_with fail;go_meet;exact⟨_,_,HA3.out.1⟩
 obtain⟨gg,cap',hA⟩:=hcut;have HA:=hid hA;have hT2:=hA.blk.cell 2 _ rfl;have b0:∀i x,([.int .u32 la,.int .u16 lp,.int .u32 ha,.int .u16 hp,.int .u8 kp,.int .u32 a,.int .u32 b,.int .u8 p,.int .u16 s,.int .u16 d,.bool rep,.bool clo,.int .u64 (u:Int),.int .u64 (nn:Int)]:List Value)[i]? =some x->wc.cell? ⟨w.heap.size,i,none⟩=some x:=fun i x hx=>HA.out.box.cell i x (by rw[HEE.out];exact hx)
 have d0:=b0 0 _ rfl;have d1:=b0 1 _ rfl;have d2:=b0 2 _ rfl;have d3:=b0 3 _ rfl;have d4:=b0 4 _ rfl;have hwf:Ky.Wf ⟨la,lp,ha,hp,kp⟩:=by have q:=HEW.out.1;rw[HEE.out] at q;exact q
 obtain⟨W1,hr1,hP1,hg1⟩:=Plc.store (W:=wc.drew) (HA.out.map.same rfl) hwf n;dsimp only[Ky.cells] at hr1;have HTB:=hid (zNI HC0.out HA.out HEW.out.1 HEW.out.2.1 HEW.out.2.2.1 HEW.out.2.2.2 hg1 (hP1.congr (by rw[HEE.out];exact fun _ _=>Iff.rfl)));clear hA b0 hP1 hg1 c0 c1 c2 c3 c4 c5 c6 c7 c8 c9 c10 c11 c12 c13 k3 fT HAD HNW HOWA HOW;go_upto_region 3 with fail
 go_cut [26] from 20 to 25 (fun _ w'=>w'=W1)
 case first=>
  go_big_region;go_wp2_with fail;go_meet;rfl
 subst hcut;have HRI:=hid (zKE wc HTB.out.1 n n (Nat.le_refl _) (by omega));clear hr1 hT2 d0 d1 d2 d3 d4;go_wp2_with (go_at_call 208;refine HRI.out.mono ?_;rintro e' w5 ⟨rfl,h5,t5⟩);go_end0;have hz:=HZ.out;refine⟨rfl,.slice (some ⟨gg,0,none⟩) (n+1) cap',(by rw[<-HEE.out];exact h5),((Trn.below HB0.out).trans HTB.out.2 (fun _ _ q=>q)).trans t5 (fun m hm q=> ?_),fun x q=> ?_⟩
 ·rcases q with q|q|q
  ·exact .inl q
  ·exact .inr (.inl q)
  ·have q:gg=m:=Option.some.inj q
   subst q;rcases HA.out.at' with z|z
   ·exact .inr (.inr z)
   ·omega
 ·rcases q with q|q|q
  ·exact .inl (.inl q)
  ·exact .inl (.inr (.inl q))
  ·have q:gg=x:=Option.some.inj q
   subst q;rcases HA.out.at' with z|z
   ·exact .inl (.inr (.inr z))
   ·exact .inr (by omega)
theorem zAR.flow {W:World} {g n cap:Nat} {f:Nat->En} (h:zAR W g n cap f) {i:Nat} (hi:i<n) {a b p s d:Int} {rep clo:Bool} {u:Nat} (hk:(f i).v=⟨a,b,p,s,d,rep,clo,u⟩):W.cell? ⟨g,i*14+5,none⟩=some (.int .u32 a)/\W.cell? ⟨g,i*14+6,none⟩=some (.int .u32 b)/\W.cell? ⟨g,i*14+7,none⟩=some (.int .u8 p)/\W.cell? ⟨g,i*14+8,none⟩=some (.int .u16 s)/\W.cell? ⟨g,i*14+9,none⟩=some (.int .u16 d)/\W.cell? ⟨g,i*14+10,none⟩=some (.bool rep)/\W.cell? ⟨g,i*14+11,none⟩=some (.bool clo)/\W.cell? ⟨g,i*14+12,none⟩=some (.int .u64 (u:Int)):=by
 have e:(f i).l=(En.mk (f i).k ⟨a,b,p,s,d,rep,clo,u⟩ (f i).n).l:=by rw[<-hk]
 exact⟨h.cell hi 5 _ (by rw[e];rfl),h.cell hi 6 _ (by rw[e];rfl),h.cell hi 7 _ (by rw[e];rfl),h.cell hi 8 _ (by rw[e];rfl),h.cell hi 9 _ (by rw[e];rfl),h.cell hi 10 _ (by rw[e];rfl),h.cell hi 11 _ (by rw[e];rfl),h.cell hi 12 _ (by rw[e];rfl)⟩
theorem Plc.alloc {W:World} {b:Nat} {R:Ky->Nat->Prop} (h:Plc W b R) (o:Obj):Plc (W.alloc o) b R:=h.same (Below.heap_alloc _ _ _ h.lt)
theorem Plc.drew {W:World} {b:Nat} {R:Ky->Nat->Prop} (h:Plc W b R):Plc W.drew b R:=h
theorem zNJ {T mb room births n g cap:Nat} {f:Nat->En} (w:World) (h:zAK w T mb (.slice (some ⟨g,0,none⟩) n cap) room births n f) (k:Ky) (hk:k.Wf) (i:Nat) (hi:i<n) (he:(f i).k=k):
 Calls Tryz.prog 148 #[.pointer (some ⟨T,0,none⟩),.agg k.cells] w fun e w'=>e= .returned (.tuple #[.agg (f i).v.cells,.bool true])/\Below w.heap.size w w':=by
 have hT2:=h.blk.cell 2 _ rfl;have hT3:=h.blk.cell 3 _ rfl;have hTw:=h.blk.lt;have hgw:=h.ents.lt;obtain⟨⟨a,b,p,s,d,rep,clo,u⟩,hfl⟩:∃x,(f i).v=x:=⟨_,rfl⟩;obtain⟨e5,e6,e7,e8,e9,e10,e11,e12⟩:=h.ents.flow hi hfl;have i1:(0:Int)<=(i:Int):=by omega
 have i2:(i:Int)<(n:Int):=by omega
 have HL:=hid fun(o:Obj)(o':Obj)=>Plc.look_some (((h.map.alloc o).alloc o').drew) hk ⟨hi,he⟩
 rw[hfl];obtain⟨la,lp,ha,hp,kp⟩:=k;have hL:=HL.out (.cells #[.int .u32 la,.int .u16 lp,.int .u32 ha,.int .u16 hp,.int .u8 kp] 240) (.cells #[.int .u32 0,.int .u32 0,.int .u8 0,.int .u16 0,.int .u16 0,.bool false,.bool false,.int .u64 0] 241);dsimp only[Ky.cells,Fl.cells] at hL ⊢;clear h hk he hfl HL;go_enter Tryz.func148,Tryz.ntmps148;go_upto_region 1 with fail
 go_big_region;go_wp2_with fail;refine bodyPost_ret (v:= .tuple #[.agg #[.int .u32 a,.int .u32 b,.int .u8 p,.int .u16 s,.int .u16 d,.bool rep,.bool clo,.int .u64 (u:Int)],.bool true]) (by simp[results,Tryz.results148,go_sem]) rfl ⟨rfl,?_⟩
 repeat (with_reducible first|exact Below.refl _ _|refine Below.drew ?_|refine Below.setCell ?_ (by first|(simp;done)|(simp;omega)) _|refine Below.alloc ?_ (by first|(simp;done)|(simp;omega)) _)
theorem zNK {T mb room births n:Nat} {v:Value} {f:Nat->En} (w:World) (h:zAK w T mb v room births n f) (k:Ky) (hk:k.Wf) (he:∀i,i<n->(f i).k≠k):
 Calls Tryz.prog 148 #[.pointer (some ⟨T,0,none⟩),.agg k.cells] w fun e w'=>e= .returned (.tuple #[.agg fl0.cells,.bool false])/\Below w.heap.size w w':=by
 have hT2:=h.blk.cell 2 _ rfl;have hTw:=h.blk.lt;have HL:=hid fun(o:Obj)(o':Obj)=>Plc.look_none (((h.map.alloc o).alloc o').drew) hk (fun i q=>he i q.1 q.2)
 obtain⟨la,lp,ha,hp,kp⟩:=k;have hL:=HL.out (.cells #[.int .u32 la,.int .u16 lp,.int .u32 ha,.int .u16 hp,.int .u8 kp] 240) (.cells #[.int .u32 0,.int .u32 0,.int .u8 0,.int .u16 0,.int .u16 0,.bool false,.bool false,.int .u64 0] 241);dsimp only[Ky.cells,Fl.cells] at hL ⊢;clear h hk he HL;go_enter Tryz.func148,Tryz.ntmps148;go_upto_region 1 with fail
 go_big_region;go_wp2_with fail;refine bodyPost_ret (v:= .tuple #[.agg #[.int .u32 0,.int .u32 0,.int .u8 0,.int .u16 0,.int .u16 0,.bool false,.bool false,.int .u64 0],.bool false]) (by simp[results,Tryz.results148,go_sem]) rfl ⟨rfl,?_⟩
 repeat (with_reducible first|exact Below.refl _ _|refine Below.drew ?_|refine Below.setCell ?_ (by first|(simp;done)|(simp;omega)) _|refine Below.alloc ?_ (by first|(simp;done)|(simp;omega)) _)
theorem zQa (y:En) (x:Fl):(En.mk y.k x y.n).l=y.l.take 5++x.l++y.l.drop (5+x.l.length):=by
 obtain⟨⟨_,_,_,_,_⟩,⟨_,_,_,_,_,_,_,_⟩,_⟩:=y;rfl
theorem zAK.turned0 {T mb g n cap room births i:Nat} {f:Nat->En} {W W1:World} (h:zAK W T mb (.slice (some ⟨g,0,none⟩) n cap) room births n f) (hi:i<n) (x:Fl) (hE:zAR W1 g n cap (Hp.put f i ⟨(f i).k,x,(f i).n⟩)) (t:Trn (fun y=>y=g) W W1):
 zAK W1 T mb (.slice (some ⟨g,0,none⟩) n cap) room births n (Hp.put f i ⟨(f i).k,x,(f i).n⟩)/\Trn (Ows T mb (.slice (some ⟨g,0,none⟩) n cap)) W W1:=by
 obtain⟨gT,gm⟩:=h.tr g rfl;have hT:=t.block T h.blk.lt (fun q=>gT q.symm);have hM:=t.block mb h.map.lt (fun q=>gm q.symm);have hk:∀y,(Hp.put f i ⟨(f i).k,x,(f i).n⟩ y).k=(f y).k/\(Hp.put f i ⟨(f i).k,x,(f i).n⟩ y).n=(f y).n:=fun y=>by
  by_cases q:y=i
  ·subst q;rw[Hp.put_same];exact⟨rfl,rfl⟩
  ·rw[Hp.put_other _ _ _ _ q];exact⟨rfl,rfl⟩
 exact⟨⟨⟨hT.trans h.blk.1,h.blk.2⟩,.inr ⟨g,cap,rfl,hE⟩,(h.map.same hM).congr (fun k y=>by rw[(hk y).1]),fun y hy=>by rw[(hk y).1];exact h.wf y hy,fun y hy=>by rw[(hk y).2];exact h.ns y hy,h.tm,h.tr,h.le,h.big⟩,t.mono (fun m _ q=>by subst q;exact .inr (.inr rfl))⟩
theorem zAK.turned {T mb g n cap room births i:Nat} {f:Nat->En} {W:World} (h:zAK W T mb (.slice (some ⟨g,0,none⟩) n cap) room births n f) (hi:i<n) (x:Fl):
 zAK (W.setCells g (i*14+5) x.l).drew T mb (.slice (some ⟨g,0,none⟩) n cap) room births n (Hp.put f i ⟨(f i).k,x,(f i).n⟩)/\Trn (Ows T mb (.slice (some ⟨g,0,none⟩) n cap)) W (W.setCells g (i*14+5) x.l).drew:=by
 have hl:x.l.length=8:=rfl;have q:=zAK.turned0 h hi x (h.ents.part hi 5 x.l ⟨(f i).k,x,(f i).n⟩ (zQa _ _) (by rw[hl];omega)) (Trn.setCells (S:=fun y=>y=g) g rfl _ _ _);generalize W.setCells g (i*14+5) x.l=W1 at q ⊢;exact⟨q.1.below (Below.drew (Below.refl _ _)),q.2.trans (Trn.drew _ _) (fun _ _ q=>q)⟩
theorem zAK.births {T mb n room births:Nat} {v:Value} {f:Nat->En} {W:World} (h:zAK W T mb v room births n f) (b:Nat):zAK (W.setCell ⟨T,1,none⟩ (.int .u64 (b:Int))) T mb v room b n f/\Trn (Ows T mb v) W (W.setCell ⟨T,1,none⟩ (.int .u64 (b:Int))):=by
 have oth:∀m,m≠T->(W.setCell ⟨T,1,none⟩ (.int .u64 (b:Int))).heap[m]? =W.heap[m]? :=fun m hm=>by
  simp only[World.setCell,Array.getElem?_modify];rw[if_neg (fun q=>hm q.symm)]
 refine⟨⟨h.blk.set 1 _,?_,h.map.same (oth mb (fun q=>h.tm q.symm)),h.wf,h.ns,h.tm,h.tr,h.le,h.big⟩,Trn.setCell _ _ _ _ (.inl rfl)⟩;rcases h.row with q|⟨g,cap,rfl,q⟩
 ·exact .inl q
 ·exact .inr ⟨g,cap,rfl,q.same (oth g (h.tr g rfl).1)⟩
theorem zQb {T mb room births n g cap:Nat} {f:Nat->En} (w:World) (h:zAK w T mb (.slice (some ⟨g,0,none⟩) n cap) room births n f) (k:Ky) (hk:k.Wf) (x:Fl) (i:Nat) (hi:i<n) (he:(f i).k=k):
 Calls Tryz.prog 156 #[.pointer (some ⟨T,0,none⟩),.agg k.cells,.agg x.cells] w fun e w'=>e= .returned (.bool false)/\zAK w' T mb (.slice (some ⟨g,0,none⟩) n cap) room births n (Hp.settle rkE n (Hp.put f i ⟨(f i).k,x,(f i).n⟩) i)/\Trn (Ows T mb (.slice (some ⟨g,0,none⟩) n cap)) w w':=by
 have i1:(0:Int)<=(i:Int):=by omega
 have i2:(i:Int)<(n:Int):=by omega
 obtain⟨fi,hfi⟩:∃fi,Hp.put f i ⟨(f i).k,x,(f i).n⟩=fi:=⟨_,rfl⟩;have HFI:=hid hfi;have HX:Hid (x=x):=rfl;obtain⟨x',hx'⟩:∃x',x=x':=⟨_,rfl⟩;have HXX:Hid (x=x'):=hx';obtain⟨W0,hW0⟩:∃W0,(w.alloc (.cells k.cells 240)).alloc (.cells x.cells 241)=W0:=⟨_,rfl⟩;have HB0:Hid (Below w.heap.size w W0):=by rw[<-hW0];exact(bal _ _).alloc (by simp) _
 have HC0:=hid (h.below HB0.out);have HBK:Hid (∀j y,k.cells[j]? =some y->W0.cell? ⟨w.heap.size,j,none⟩=some y):=fun j y hy=>by rw[<-hW0,World.cell?_alloc_lt _ _ _ (by simp),World.cell?_alloc_at _ _ _ _ rfl];exact hy
 have HBX:Hid (∀j y,x.cells[j]? =some y->W0.cell? ⟨w.heap.size+1,j,none⟩=some y):=fun j y hy=>by rw[<-hW0,World.cell?_alloc_at _ _ _ _ (by simp)];exact hy
 have HL:=hid (Plc.look_some HC0.out.map.drew hk ⟨hi,he⟩);obtain⟨W1,hW1⟩:∃W1,W0.drew=W1:=⟨_,rfl⟩;have HW1:=hid hW1;have HC1:Hid (zAK W1 T mb (.slice (some ⟨g,0,none⟩) n cap) room births n f):=by rw[<-hW1];exact HC0.out.below (W':=W0.drew) (Below.drew (Below.refl _ _))
 have HTU:Hid (zAK (W1.setCells g (i*14+5) x.l).drew T mb (.slice (some ⟨g,0,none⟩) n cap) room births n fi/\Trn (Ows T mb (.slice (some ⟨g,0,none⟩) n cap)) W1 (W1.setCells g (i*14+5) x.l).drew):=by
  have q:=HC1.out.turned hi x;rw[hfi] at q;exact q
 have HWB:=hid hW0;have hT2:=HC0.out.blk.cell 2 _ rfl;obtain⟨⟨a,b,p,s,d,rep,clo,u⟩,hfl⟩:∃y,(f i).v=y:=⟨_,rfl⟩;have HFL:=hid hfl;have HX1:Hid (∀j y,x.cells[j]? =some y->W1.cell? ⟨w.heap.size+1,j,none⟩=some y):=by rw[<-hW1];exact HBX.out
 rw[hfi];clear h hk he hfl hfi hW0 hW1;rw[hx'] at HX1 HTU HWB ⊢;clear hx';obtain⟨la,lp,ha,hp,kp⟩:=k;obtain⟨xa,xb,xp,xs,xd,xrep,xclo,xu⟩:=x';have hL:=HL.out;have b0:=HBK.out 0 _ rfl;have b1:=HBK.out 1 _ rfl;have b2:=HBK.out 2 _ rfl;have b3:=HBK.out 3 _ rfl;have b4:=HBK.out 4 _ rfl;dsimp only[Ky.cells,Fl.cells] at hL HWB ⊢;clear HBK HBX HL HX;go_enter Tryz.func156,Tryz.ntmps156;go_upto_region 1 with fail
 rw[HWB.out];go_big_region;go_upto_region 3 with fail
 rw[HW1.out];clear hL b0 b1 b2 b3 b4 hT2;have hT3:=HC1.out.blk.cell 3 _ rfl;have hfz:=HC1.out.ents.frozen;obtain⟨e5,e6,e7,e8,e9,e10,e11,e12⟩:=HC1.out.ents.flow hi HFL.out;have x0:=HX1.out 0 _ rfl;have x1:=HX1.out 1 _ rfl;have x2:=HX1.out 2 _ rfl;have x3:=HX1.out 3 _ rfl;have x4:=HX1.out 4 _ rfl;have x5:=HX1.out 5 _ rfl;have x6:=HX1.out 6 _ rfl;have x7:=HX1.out 7 _ rfl;go_cut [27] from 20 to 26 (fun _ w'=>zAK w' T mb (.slice (some ⟨g,0,none⟩) n cap) room births n fi/\Trn (Ows T mb (.slice (some ⟨g,0,none⟩) n cap)) W1 w')
 case first=>
  go_big_region;go_wp2_with fail;go_meet;exact HTU.out
 have HST:=hid (zKy wc hcut.1 i hi);have HCU:=hid hcut;clear hcut x0 x1 x2 x3 x4 x5 x6 x7 e5 e6 e7 e8 e9 e10 e11 e12 hT3 hfz HTU;go_wp2_with (go_at_call 180;refine HST.out.mono ?_;rintro e' w5 ⟨rfl,h5,t5⟩;have H5:=hid h5;have T5:=hid t5;clear h5 t5);go_ret;exact⟨rfl,H5.out,((Trn.below HB0.out).trans ((by have q:=Trn.drew (Ows T mb (.slice (some ⟨g,0,none⟩) n cap)) W0;rw[HW1.out] at q;exact q.trans HCU.out.2 (fun _ _ q=>q)):Trn _ W0 wc) (fun _ _ q=>q)).trans T5.out (fun _ _ q=>q)⟩
end Go.Proofs.YtclpnafiiobfhaaGreatDoor

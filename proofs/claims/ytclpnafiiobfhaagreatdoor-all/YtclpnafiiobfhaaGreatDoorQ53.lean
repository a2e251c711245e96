import Derived.Test.YtclpnafiiobfhaaGreatDoorQ52
import Derived.Test.YtclpnafiiobfhaaGreatDoorQ46
import Derived.Test.YtclpnafiiobfhaaGreatDoorQ47
import Derived.Deep.Slices
import Derived.WideShapes
import Derived.OpenShut
set_option linter.unusedVariables false
set_option linter.unusedSimpArgs false
set_option maxRecDepth 100000
set_option maxHeartbeats 6400000
namespace Go.Proofs.YtclpnafiiobfhaaGreatDoor
open Go.RowKit
theorem Gates.at {W:World} {B V N:Nat} {gv:Value} {L:List (Nat×Nat)} (h:Gates W B V gv L N) (a:Int) (hl:0<L.length):∃(i:Nat) (q:Nat×Nat) (g c:Nat),lpk a L.length=(i:Int)/\(i:Int)<(L.length:Int)/\L[i]? =some q/\gv= .slice (some ⟨g,0,none⟩) L.length c/\g<W.heap.size/\W.cell? ⟨g,i*3,none⟩=some (.pointer (some ⟨q.1,0,none⟩))/\W.cell? ⟨g,i*3+1,none⟩=some (.pointer (some ⟨q.2,0,none⟩))/\W.cell? ⟨g,i*3+2,none⟩=some (.pointer none):=by
 obtain⟨h1,h2⟩:=lpk_bd a L.length (by omega)
 obtain⟨i,hi⟩:∃i:Nat,lpk a L.length=(i:Int):=⟨(lpk a L.length).toNat,by omega⟩
 have hil:i<L.length:=by omega
 obtain⟨q,hq⟩:∃q,L[i]? =some q:=⟨_,List.getElem?_eq_getElem hil⟩
 have hr:=h.row
 rcases hr.2 with⟨_,e⟩|⟨g,c,cur,rfl,_,e3,_⟩
 ·omega
 ·obtain⟨a1,a2,a3⟩:=gatL_at L i q hq
  exact⟨i,q,g,c,hi,by omega,hq,rfl,(Array.getElem?_eq_some_iff.1 e3).1,(hr.cellAt _ (by omega)).trans a1,(hr.cellAt _ (by omega)).trans a2,(hr.cellAt _ (by omega)).trans a3⟩
theorem gat_made {X1:World} {n:Nat} {t:TypeId} (hn:X1.heap.size=n) (x0 x1 x2:Value) (hx:∀v ∈ [x0,x1,x2],v.oneCell'=true):∃gb,Value.pointer (some ⟨n,0,none⟩)= .pointer (some ⟨gb,0,none⟩)/\Blk t (X1.alloc (.cells #[x0,x1,x2] t)).drew gb [x0,x1,x2]/\Below X1.heap.size X1 (X1.alloc (.cells #[x0,x1,x2] t)).drew/\X1.heap.size<=gb:=by
 subst hn
 exact⟨_,rfl,Blk.made X1 t [x0,x1,x2] hx,((Below.refl _ _).alloc (Nat.le_refl _) _).drew,Nat.le_refl _⟩
section
variable {W : World} {B V N : Nat} {gv : Value} {L : List (Nat × Nat)}
theorem step_none (h:Gates W B V gv L N) (hl:L.length=0) (k a b c:Int) (s:ByteArray) (hk:k≠1):
 Calls Tryz.prog 37 #[.pointer (some ⟨V,0,none⟩),.agg #[.int .i64 k,.int .i64 a,.int .i64 b,.int .i64 c,.string s]] W fun e w'=>e= .returned (.bool true)/\Gates w' B V gv L N/\Below B W w':=by
 obtain⟨p0,c0,hgv⟩:=owns_form h.row
 rw[hl] at hgv
 have HG:Hid (Gates W B V gv L N):=h
 have c0':W.cell? ⟨V,0,none⟩=some (.slice p0 0 c0):=by rw[<-hgv];exact h.blk.cell 0 _ rfl
 have hV:=h.blk.lt
 have hVn:V≠W.heap.size:=Nat.ne_of_lt hV
 have q1:(k == 1)=false:=by simpa using hk
 clear h hgv hl hk
 go_enter Tryz.func37,Tryz.ntmps37
 go_wp2_with fail
 go_ret
 exact⟨rfl,HG.out.below ((Below.refl _ _).alloc (Nat.le_refl _) _),((Below.refl _ _).alloc (Nat.le_refl _) _).mono (Nat.le_trans HG.out.base (Nat.le_of_lt hV))⟩
theorem step_rest (h:Gates W B V gv L N) (hl:0<L.length) (hl2:L.length<=1000000) (hL:Laid W) (hm:MaxL W) (hN:N<18446744073709551614) (k:Int) (k1n:k≠1) (a b c:Int) (ha: -9223372036854775808<=a/\a<=9223372036854775807) (s:ByteArray) (hs:s.size<=262144):
 Calls Tryz.prog 37 #[.pointer (some ⟨V,0,none⟩),.agg #[.int .i64 k,.int .i64 a,.int .i64 b,.int .i64 c,.string s]] W fun e w'=>e= .returned (.bool true)/\Gates w' B V gv L (N+1)/\Below B W w':=by
 obtain⟨i,q,g,cc,hi,hi2,hq,hgv,hg,e0,e1,e2⟩:=h.at a hl
 have HP:Hid (∀U:World,Calls Tryz.prog 13 #[.int .i64 a,.int .i64 (L.length:Int)] U fun e w'=>e= .returned (.int .i64 (i:Int))/\w'=U):=fun U=>by rw[<-hi];exact lpick_any a L.length U ha (by omega)
 have HT2:Hid (∀U:World,Below W.heap.size W U->Calls _ _ _ U _):=fun U hb=>gates_load h hq hb hL hm s (by unfold maxLen;omega)
 have HT3:Hid (∀U:World,Below W.heap.size W U->Calls _ _ _ U _):=fun U hb=>framed_any h hq hb hL hN s hs b
 have HT4:Hid (∀(m:Nat) (U:World),m<=topT->Below W.heap.size W U->Calls _ _ _ U _):=fun m U hm hb=>gates_tick h hq hb m hm
 have HQ:Hid (L[i]? =some q):=hq
 generalize ((readT s).1:Int)=k1 at HT2
 generalize ((readT s).2.1:Int)=k2 at HT2
 obtain⟨m0,hm0⟩:∃m0:Nat,IntKind.u64.wrap b=(m0:Int):=⟨(IntKind.u64.wrap b).toNat,by rw[IntKind.wrap_u64];omega⟩
 have hm0t:m0<=topT:=by unfold topT;rw[IntKind.wrap_u64] at hm0;omega
 obtain⟨m1,hm1⟩:∃m1:Nat,IntKind.u64.wrap (-(m0:Int))=(m1:Int):=⟨(IntKind.u64.wrap (-(m0:Int))).toNat,by rw[IntKind.wrap_u64];omega⟩
 have hm1t:m1<=topT:=by unfold topT;rw[IntKind.wrap_u64] at hm1;omega
 have t1:(k == 1)=false:=by simpa using k1n
 have HG:Hid (Gates W B V gv L N):=h
 have c0':W.cell? ⟨V,0,none⟩=some (.slice (some ⟨g,0,none⟩) L.length cc):=by rw[<-hgv];exact h.blk.cell 0 _ rfl
 have c1':=h.blk.cell 1 _ rfl
 have hV:=h.blk.lt
 have hBV:=h.base
 have hVn:V≠W.heap.size:=Nat.ne_of_lt hV
 have hgn:g≠W.heap.size:=Nat.ne_of_lt hg
 have l1:((L.length:Int) == 0)=false:=by rw[beq_eq_false_iff_ne];omega
 have i0:(0:Int)<=(i:Int):=by omega
 obtain⟨Q,D⟩:=q
 dsimp only at e0 e1 e2
 clear h hgv hi hq ha hL hm hN hs k1n
 go_enter Tryz.func37,Tryz.ntmps37
 go_upto_region 5 with fail
 obtain⟨X1,hX1⟩:∃X1,W.alloc (.cells #[.int .i64 k,.int .i64 a,.int .i64 b,.int .i64 c,.string s] 85)=X1:=⟨_,rfl⟩
 rw[hX1]
 have B1:Hid (Below W.heap.size W X1):=by rw[<-hX1];exact(Below.refl _ _).alloc (Nat.le_refl _) _
 have R1:Hid (Blk 85 X1 W.heap.size [.int .i64 k,.int .i64 a,.int .i64 b,.int .i64 c,.string s]):=by rw[<-hX1];exact Blk.made W _ [.int .i64 k,.int .i64 a,.int .i64 b,.int .i64 c,.string s] (list_one rfl)
 have z1:X1.heap.size=W.heap.size+1:=by rw[<-hX1];simp
 clear hX1
 have SOF:Hid (∀w':World,Below X1.heap.size X1 w'->(Below X1.heap.size X1 w'/\w'.cell? ⟨V,0,none⟩=some (.slice (some ⟨g,0,none⟩) L.length cc)/\w'.cell? ⟨W.heap.size,1,none⟩=some (.int .i64 a)/\w'.cell? ⟨g,i*3,none⟩=some (.pointer (some ⟨Q,0,none⟩))/\w'.cell? ⟨g,i*3+1,none⟩=some (.pointer (some ⟨D,0,none⟩))/\w'.cell? ⟨g,i*3+2,none⟩=some (.pointer none))):=fun w' hb=>⟨hb,(hb.cell (p:=⟨V,0,none⟩) (by show V<_;omega)).trans ((B1.out.cell (p:=⟨V,0,none⟩) hV).trans c0'),(hb.cell (p:=⟨W.heap.size,1,none⟩) R1.out.lt).trans (R1.out.cell 1 _ rfl),(hb.cell (p:=⟨g,i*3,none⟩) (by show g<_;omega)).trans ((B1.out.cell (p:=⟨g,i*3,none⟩) hg).trans e0),(hb.cell (p:=⟨g,i*3+1,none⟩) (by show g<_;omega)).trans ((B1.out.cell (p:=⟨g,i*3+1,none⟩) hg).trans e1),(hb.cell (p:=⟨g,i*3+2,none⟩) (by show g<_;omega)).trans ((B1.out.cell (p:=⟨g,i*3+2,none⟩) hg).trans e2)⟩
 have hVn1:V≠X1.heap.size:=by omega
 have hgn1:g≠X1.heap.size:=by omega
 have hWn1:W.heap.size≠X1.heap.size:=by omega
 obtain⟨y0,y1,y2,y3,y4,y5⟩:=SOF.out X1 (Below.refl _ _)
 clear y0 e0 e1 e2
 go_cut [5] from 25 to 38 (fun x w'=>∃gb,x= .pointer (some ⟨gb,0,none⟩)/\Blk 122 w' gb [.pointer (some ⟨Q,0,none⟩),.pointer (some ⟨D,0,none⟩),.pointer none]/\Below X1.heap.size X1 w'/\X1.heap.size<=gb)
 case first=>
  go_region_held3 (fun w'=>Below X1.heap.size X1 w'/\w'.cell? ⟨V,0,none⟩=some (.slice (some ⟨g,0,none⟩) L.length cc)/\w'.cell? ⟨W.heap.size,1,none⟩=some (.int .i64 a)/\w'.cell? ⟨g,i*3,none⟩=some (.pointer (some ⟨Q,0,none⟩))/\w'.cell? ⟨g,i*3+1,none⟩=some (.pointer (some ⟨D,0,none⟩))/\w'.cell? ⟨g,i*3+2,none⟩=some (.pointer none)) ((go_split_ands;refine SOF.out _ ?_;first|with_reducible assumption|with_reducible exact Below.drew (Below.refl _ _)|with_reducible exact Below.drew (by with_reducible assumption)|with_reducible exact Below.alloc (by with_reducible assumption) (Below.size (by with_reducible assumption)) _|with_reducible exact Below.drew (Below.alloc (Below.refl _ _) (Nat.le_refl _) _)|with_reducible exact Below.alloc (Below.drew (Below.refl _ _)) (Nat.le_refl _) _)) ((go_at_call 13;refine(HP.out _).mono ?_;rintro e w5 ⟨rfl,rfl⟩))
  all_goals
   go_wp2_with fail
   go_meet
   exact gat_made z1 _ _ _ (list_one rfl)
 dsimp only at HT2 HT3 HT4
 obtain⟨gb,rfl,hgb,hbc,hgz⟩:=hcut
 have HBc:Hid (Below W.heap.size W wc):=B1.out.trans (hbc.mono B1.out.size)
 have HOp:Hid (Blk 85 wc W.heap.size [.int .i64 k,.int .i64 a,.int .i64 b,.int .i64 c,.string s]):=R1.out.below hbc R1.out.lt
 have HGb:Hid (Blk 122 wc gb [.pointer (some ⟨Q,0,none⟩),.pointer (some ⟨D,0,none⟩),.pointer none]):=hgb
 have o0:=HOp.out.cell 0 _ rfl
 have o1:=HOp.out.cell 1 _ rfl
 have o2:=HOp.out.cell 2 _ rfl
 have o3:=HOp.out.cell 3 _ rfl
 have o4:=HOp.out.cell 4 _ rfl
 have u0:=hgb.cell 0 _ rfl
 have u1:=hgb.cell 1 _ rfl
 have u2:=hgb.cell 2 _ rfl
 clear hgb hbc y1 y2 y3 y4 y5 SOF
 have hgW:W.heap.size<=gb:=by omega
 by_cases k2:k=2
 ·subst k2
  go_wp2_with (first|(go_at_call 54;refine(HT2.out _ HBc.out).mono ?_;rintro e w6 ⟨rfl,hl6,hn6⟩;have HN6:Hid (∀w2,Below w6.heap.size w6 w2->_):=hn6;have u1':=hl6.cell (p:=⟨gb,1,none⟩) hgW u1;have o4':=hl6.cell (p:=⟨W.heap.size,4,none⟩) (Nat.le_refl _) o4;clear hl6 hn6)|(go_at_call 55;refine(HN6.out _ (Below.refl _ _)).mono ?_;rintro e w7 ⟨rfl,hg7⟩;have HG7:Hid (_):=hg7;clear hg7))
  go_ret
  exact⟨by simp,HG7.out.1.le (Nat.le_succ _),HG7.out.2⟩
 by_cases k3:k=3
 ·subst k3
  go_wp2_with (go_at_call 56;refine(HT3.out _ ?_).mono ?_;(first|exact HBc.out|exact HBc.out.drew);rintro e w7 ⟨rfl,hg7⟩;have HG7:Hid (_):=hg7;clear hg7)
  go_ret
  exact⟨rfl,HG7.out⟩
 by_cases k4:k=4
 ·subst k4
  cases hc2:(c.tmod 2 !=0)
  ·skip
   go_wp2_with (first|(go_at_call 57;refine(HT4.out m0 _ hm0t HBc.out).mono ?_;rintro e w6 ⟨rfl,hl6,hn6⟩;have HN6:Hid (∀w2,Below w6.heap.size w6 w2->_):=hn6;have u1':=hl6.cell (p:=⟨gb,1,none⟩) hgW u1;clear hl6 hn6)|(go_at_call 58;refine(HN6.out _ (Below.refl _ _)).mono ?_;rintro e w7 ⟨rfl,hg7⟩;have HG7:Hid (_):=hg7;clear hg7))
   go_ret
   exact⟨rfl,HG7.out.1.le (Nat.le_succ _),HG7.out.2⟩
  ·skip
   go_wp2_with (first|(go_at_call 57;refine(HT4.out m1 _ hm1t HBc.out).mono ?_;rintro e w6 ⟨rfl,hl6,hn6⟩;have HN6:Hid (∀w2,Below w6.heap.size w6 w2->_):=hn6;have u1':=hl6.cell (p:=⟨gb,1,none⟩) hgW u1;clear hl6 hn6)|(go_at_call 58;refine(HN6.out _ (Below.refl _ _)).mono ?_;rintro e w7 ⟨rfl,hg7⟩;have HG7:Hid (_):=hg7;clear hg7))
   go_ret
   exact⟨rfl,HG7.out.1.le (Nat.le_succ _),HG7.out.2⟩
 by_cases k5:k=5
 ·subst k5
  obtain⟨now,hcn,h4⟩:=gates_now HG.out HQ.out HBc.out
  have HCN:Hid (Calls _ _ _ wc _):=hcn
  dsimp only at HCN h4
  clear hcn
  go_wp2_with (go_at_call 59;refine HCN.out.mono ?_;rintro e w6 ⟨rfl,h6⟩;obtain rfl:wc=w6:=h6.symm;clear h6)
  go_ret
  exact⟨by simp,(HG.out.below HBc.out).le (Nat.le_succ _),HBc.out.mono (by omega)⟩
 by_cases k6:k=6
 ·subst k6
  obtain⟨S,hp⟩:=gates_pair HG.out HQ.out HBc.out
  have HLS:Hid (Calls _ _ _ wc _):=listed_any wc hp
  have y1':=(HBc.out.cell (p:=⟨V,1,none⟩) hV).trans c1'
  dsimp only at HLS
  clear hp
  go_wp2_with (go_at_call 60;refine HLS.out.mono ?_;rintro e w6 ⟨rfl,hb6⟩;have HB6:Hid (Below W.heap.size W w6):=HBc.out.trans (hb6.mono HBc.out.size);clear hb6)
  go_ret
  exact⟨rfl,(HG.out.below HB6.out).le (Nat.le_succ _),HB6.out.mono (by omega)⟩
 by_cases k7:k=7
 ·subst k7
  obtain⟨cA,cD,cR,cM,hcn,h6,h7,h8,h9,hDl⟩:=gates_counts HG.out HQ.out HBc.out
  have HCN:Hid (Calls _ _ _ wc _):=hcn
  dsimp only at HCN h6 h7 h8 h9 hDl
  have hgl:=HGb.out.lt
  have ceq:=counts_eq (cA:Int) (cD:Int) (cR:Int) (cM:Int)
  clear hcn
  go_upto_region 28 with(go_at_call 62;refine HCN.out.mono ?_;rintro e w6 ⟨rfl,hb6⟩;have HB6:Hid (Below wc.heap.size wc w6):=hb6;clear hb6)
  obtain⟨X9,hX9⟩:∃X9,w6.alloc (.cells #[.int .u64 (cA:Int),.int .u64 (cD:Int),.int .u64 (cR:Int),.int .u64 (cM:Int)] 130)=X9:=⟨_,rfl⟩
  rw[hX9]
  have B9:Below wc.heap.size wc X9:=by rw[<-hX9];exact HB6.out.alloc HB6.out.size _
  have R9:Blk 130 X9 w6.heap.size [.int .u64 (cA:Int),.int .u64 (cD:Int),.int .u64 (cR:Int),.int .u64 (cM:Int)]:=by rw[<-hX9];exact Blk.made w6 _ [.int .u64 (cA:Int),.int .u64 (cD:Int),.int .u64 (cR:Int),.int .u64 (cM:Int)] (list_one rfl)
  have HB9:Hid (Below W.heap.size W X9):=HBc.out.trans (B9.mono HBc.out.size)
  have v1:=(B9.cell (p:=⟨gb,1,none⟩) hgl).trans u1
  have v6:=(B9.cell (p:=⟨D,6,none⟩) hDl).trans h6
  have v7:=(B9.cell (p:=⟨D,7,none⟩) hDl).trans h7
  have v8:=(B9.cell (p:=⟨D,8,none⟩) hDl).trans h8
  have v9:=(B9.cell (p:=⟨D,9,none⟩) hDl).trans h9
  have k0:=R9.cell 0 _ rfl
  have k1:=R9.cell 1 _ rfl
  have k2:=R9.cell 2 _ rfl
  have k3:=R9.cell 3 _ rfl
  clear hX9 B9 R9 o0 o1 o2 o3 o4 u0 u1 u2 h6 h7 h8 h9
  go_big_region
  go_wp2_with fail
  go_ret
  exact⟨rfl,(HG.out.below HB9.out.drew).le (Nat.le_succ _),HB9.out.drew.mono (by omega)⟩
 have t2:(k == 2)=false:=by simpa using k2
 have t3:(k == 3)=false:=by simpa using k3
 have t4:(k == 4)=false:=by simpa using k4
 have t5:(k == 5)=false:=by simpa using k5
 have t6:(k == 6)=false:=by simpa using k6
 have t7:(k == 7)=false:=by simpa using k7
 go_wp2_with fail
 go_ret
 exact⟨rfl,(HG.out.below HBc.out).le (Nat.le_succ _),HBc.out.mono (by omega)⟩
end
theorem opn_one {V0 w1:World} {L:List Value} (hb:Below (V0.alloc (.cells L.toArray 85)).heap.size (V0.alloc (.cells L.toArray 85)) w1) (h1:∀v ∈ L,v.oneCell'=true:=by exact list_one rfl):Below V0.heap.size V0 w1/\Blk 85 w1 V0.heap.size L/\V0.heap.size+1<=w1.heap.size:=by
 have z:(V0.alloc (.cells L.toArray 85)).heap.size=V0.heap.size+1:=by simp
 have s:=hb.size
 exact⟨((Below.refl _ _).alloc (Nat.le_refl _) _).trans (hb.mono (by omega)),(Blk.made V0 _ L h1).below hb (by omega),by omega⟩
theorem opn_two {V0 w1 w2:World} {L:List Value} (h:Below V0.heap.size V0 w1) (hb:Below (w1.alloc (.cells L.toArray 122)).heap.size (w1.alloc (.cells L.toArray 122)) w2) (h1:∀v ∈ L,v.oneCell'=true:=by exact list_one rfl):Below V0.heap.size V0 w2/\Blk 122 w2 w1.heap.size L:=by
 have z:(w1.alloc (.cells L.toArray 122)).heap.size=w1.heap.size+1:=by simp
 have s:=h.size
 exact⟨(h.alloc s _).trans (hb.mono (by omega)),(Blk.made w1 _ L h1).below hb (by omega)⟩
theorem opn_three {w1 w2:World} {L:List Value} {P:Prop} {Q:Nat} {O:Nat->Prop} (h:P) (hb:Below (w1.alloc (.cells L.toArray 122)).heap.size (w1.alloc (.cells L.toArray 122)) w2) (ho:∀x,(x=Q\/O x)->(w1.alloc (.cells L.toArray 122)).heap.size<=x):P/\(∀x,(x=Q\/O x)->w1.heap.size<x)/\Below w1.heap.size w1 w2:=by
 have z:(w1.alloc (.cells L.toArray 122)).heap.size=w1.heap.size+1:=by simp
 exact⟨h,fun x q=>by have:=ho x q;omega,((Below.refl _ _).alloc (Nat.le_refl _) _).trans (hb.mono (by omega))⟩
section
variable {W : World} {B V N : Nat} {gv : Value} {L : List (Nat × Nat)}
theorem opened_bad (h:Gates W B V gv L N) (hL:Laid W) (V0:World) (hb:Below W.heap.size W V0) (k a b c:Int) (s:ByteArray) (ha: -9223372036854775808<=a/\a<=9223372036854775807) (hb0: -9223372036854775808<=b/\b<=9223372036854775807) (hr:a<1\/64<a):
 Calls Tryz.prog 53 #[.pointer (some ⟨V,0,none⟩),.agg #[.int .i64 k,.int .i64 a,.int .i64 b,.int .i64 c,.string s]] V0 fun e w'=>e= .returned (.bool true)/\Below V0.heap.size V0 w':=by
 have HP:Hid (∀U:World,Calls Tryz.prog 13 #[.int .i64 b,.int .i64 3] U fun e w'=>e= .returned (.int .i64 (lpk b 3))/\w'=U):=fun U=>lpick_any b 3 U hb0 (by omega)
 have HN:Hid (∀U:World,Calls _ _ _ U _):=fun U=>dnew_any a U ha
 have HW:Hid (∀U:World,Below W.heap.size W U->Calls _ _ _ U _):=fun U hU=>plNew_bad a hr U (hL.below hU)
 have hd:(decide (1<=a)&&decide (a<=64))=false:=by simp;omega
 rw[hd] at HN
 have HG:Hid (Gates W B V gv L N):=h
 have HB:Hid (Below W.heap.size W V0):=hb
 have hV:=h.blk.lt
 have hz:=hb.size
 have c1:=(hb.cell (p:=⟨V,1,none⟩) hV).trans (h.blk.cell 1 _ rfl)
 have hVn:V≠V0.heap.size:=by omega
 have hVl:V<V0.heap.size:=by omega
 generalize lpk b 3=pk at HP
 clear h hL hb ha hb0 hr hd
 go_enter Tryz.func53,Tryz.ntmps53
 go_wp2_with (first|(go_at_call 13;refine(HP.out _).mono ?_;rintro e w1 ⟨rfl,h1⟩;subst h1)|(go_at_call 79;refine(HN.out _).mono ?_;rintro e w1 ⟨rfl,hb1,_⟩;have HB1:Hid (Below V0.heap.size V0 w1/\Blk 85 w1 V0.heap.size [.int .i64 k,.int .i64 a,.int .i64 b,.int .i64 c,.string s]/\V0.heap.size+1<=w1.heap.size):=opn_one hb1;have o1:=HB1.out.2.1.cell 1 _ rfl;have hz1:=HB1.out.2.2;have hn1:V0.heap.size≠w1.heap.size:=(by omega);have hl1:V0.heap.size<w1.heap.size:=(by omega);clear hb1)|(go_at_call 80;refine(HW.out _ ?_).mono ?_;(exact(HB.out.trans (HB1.out.1.mono hz)).alloc (by omega) _);rintro e w2 ⟨rfl,hb2⟩;have HB2:Hid (Below V0.heap.size V0 w2/\Blk 122 w2 w1.heap.size [.pointer none,.pointer (some ⟨V0.heap.size+1,0,none⟩),.pointer none]):=opn_two HB1.out.1 hb2;have n0:=HB2.out.2.cell 0 _ rfl;have nf:=HB2.out.2.frozen 0;clear hb2))
 go_ret
 exact⟨rfl,HB2.out.1.setCell (p:=⟨w1.heap.size,0,none⟩) (by show V0.heap.size<=w1.heap.size;omega) _⟩
theorem Tryz.infoGt:(Tryz.prog.info? 122).map (fun i=>(i.zero,i.size,i.bytes))=some (some (.agg #[.pointer none,.pointer none,.pointer none]),3,24):=by kernel_rfl
theorem opened_ok (h:Gates W B V gv L N) (hl2:L.length<=1000000) (V0:World) (hb:Below W.heap.size W V0) (k b c:Int) (s:ByteArray) (hb0: -9223372036854775808<=b/\b<=9223372036854775807) (room:Nat) (hr1:1<=room) (hr2:room<=64):
 Calls Tryz.prog 53 #[.pointer (some ⟨V,0,none⟩),.agg #[.int .i64 k,.int .i64 (room:Int),.int .i64 b,.int .i64 c,.string s]] V0 fun e w'=>e= .returned (.bool true)/\∃gv' L',Gates w' B V gv' L' (N+1)/\Below B W w':=by
 obtain⟨gp,gc,rfl⟩:=owns_form h.row
 have HP:Hid (∀U:World,Calls Tryz.prog 13 #[.int .i64 b,.int .i64 3] U fun e w'=>e= .returned (.int .i64 (lpk b 3))/\w'=U):=fun U=>lpick_any b 3 U hb0 (by omega)
 have HN:Hid (∀U:World,Calls _ _ _ U _):=fun U=>dnew_any (room:Int) U (by omega)
 have HW:Hid (∀U:World,Calls _ _ _ U _):=fun U=>plNew_any room hr1 hr2 U
 have hd:(decide (1<=(room:Int))&&decide ((room:Int)<=64))=true:=by simp;omega
 rw[hd] at HN
 have HG:Hid (Gates W B V (.slice gp L.length gc) L N):=h
 have HB:Hid (Below W.heap.size W V0):=hb
 have hV:=h.blk.lt
 have hz:=hb.size
 have c1:=(hb.cell (p:=⟨V,1,none⟩) hV).trans (h.blk.cell 1 _ rfl)
 have hVn:V≠V0.heap.size:=by omega
 have hVl:V<V0.heap.size:=by omega
 generalize lpk b 3=pk at HP
 clear h hb hb0 hd
 go_enter Tryz.func53,Tryz.ntmps53
 go_upto_region 19 with(first|(go_at_call 13;refine(HP.out _).mono ?_;rintro e w1 ⟨rfl,h1⟩;subst h1)|(go_at_call 79;refine(HN.out _).mono ?_;rintro e w1 ⟨rfl,hb1,hk1⟩;have HB1:Hid (Below V0.heap.size V0 w1/\Blk 85 w1 V0.heap.size [.int .i64 k,.int .i64 (room:Int),.int .i64 b,.int .i64 c,.string s]/\V0.heap.size+1<=w1.heap.size):=opn_one hb1;have HK1:Hid (Blk 132 w1 (V0.heap.size+1) [.int .i64 (room:Int),.bool false,.int .i64 0,.slice none 0 0,.int .u64 0,.slice none 0 0,.int .u64 0,.int .u64 0,.int .u64 0,.int .u64 0]):=(by have q:=hk1;rw[show(V0.alloc (.cells #[.int .i64 k,.int .i64 (room:Int),.int .i64 b,.int .i64 c,.string s] 85)).heap.size=V0.heap.size+1 from by simp] at q;exact q);have o1:=HB1.out.2.1.cell 1 _ rfl;have hz1:=HB1.out.2.2;have hn1:V0.heap.size≠w1.heap.size:=(by omega);have hl1:V0.heap.size<w1.heap.size:=(by omega);clear hb1 hk1)|(go_at_call 80;refine(HW.out _).mono ?_;rintro e w2 ⟨Q,K,O,rfl,hg2,hb2,ho2⟩;have HB2:Hid (Below V0.heap.size V0 w2/\Blk 122 w2 w1.heap.size [.pointer none,.pointer (some ⟨V0.heap.size+1,0,none⟩),.pointer none]):=opn_two HB1.out.1 hb2;have HG2:Hid (GateAt w2 Q K O .nilFunc (.slice none 0 0) none room 0 0 [] 0 0 0 0/\(∀x,(x=Q\/O x)->w1.heap.size<x)/\Below w1.heap.size w1 w2):=opn_three hg2 hb2 ho2;have n0:=HB2.out.2.cell 0 _ rfl;have nf:=HB2.out.2.frozen 0;clear hb2 hg2 ho2))
 obtain⟨X4,hX4⟩:∃X4,w2.setCell ⟨w1.heap.size,0,none⟩ (.pointer (some ⟨Q,0,none⟩))=X4:=⟨_,rfl⟩
 rw[hX4]
 have tX:Trn (fun x=>x=w1.heap.size) w2 X4:=by rw[<-hX4];exact Trn.setCell (S:=fun x=>x=w1.heap.size) w2 w1.heap.size 0 _ rfl
 have bX:Below W.heap.size W X4:=(HB.out.trans (HB2.out.1.mono hz)).trans (tX.to_below (by have:=HB2.out.1.size;omega) (fun m hm q=>by omega))
 have BX:Hid (Below W.heap.size W X4):=bX
 have RX:Hid (Blk 122 X4 w1.heap.size [.pointer (some ⟨Q,0,none⟩),.pointer (some ⟨V0.heap.size+1,0,none⟩),.pointer none]):=by rw[<-hX4];exact HB2.out.2.set 0 (.pointer (some ⟨Q,0,none⟩))
 have hDl:=HK1.out.lt
 have PX:Hid (Pair X4 (PairS Q (V0.heap.size+1) O (.slice none 0 0) (.slice none 0 0) (.slice none 0 0)) Q (V0.heap.size+1) .nilFunc N):=by
  refine⟨K,O,.slice none 0 0,.slice none 0 0,.slice none 0 0,none,room,0,0,[],0,0,0,0,⟨HG2.out.1.trn tX (fun x q e=> ?_),⟨(HK1.out.below HG2.out.2.2 hDl).trn tX (fun e=>by omega),.inl ⟨rfl,rfl⟩,World.ownsRow_nil _ _ _ _⟩,⟨Nat.zero_le _,Nat.zero_le _,Nat.zero_le _,Nat.zero_le _,Nat.zero_le _⟩,fun x q r=> ?_⟩,rfl⟩
  ·rcases q with q|q|q
   ·have:=HG2.out.2.1 x (.inl q);omega
   ·have:=HG2.out.2.1 x (.inr q);omega
   ·cases q
  ·have hx:w1.heap.size<x:=by
    rcases q with q|q|q
    ·exact HG2.out.2.1 x (.inl q)
    ·exact HG2.out.2.1 x (.inr q)
    ·cases q
   rcases r with r|r|r
   ·omega
   ·cases r
   ·cases r
 have HSX:Hid (∀x,(PairS Q (V0.heap.size+1) O (.slice none 0 0) (.slice none 0 0) (.slice none 0 0)) x->W.heap.size<=x):=fun x q=>by
  rcases q with(q|q|q)|(q|q|q)
  ·have:=HG2.out.2.1 x (.inl q);omega
  ·have:=HG2.out.2.1 x (.inr q);omega
  ·cases q
  ·omega
  ·cases q
  ·cases q
 have HGX:Hid (Gates X4 B V (.slice gp L.length gc) L N):=HG.out.below bX
 have zX:w1.heap.size<X4.heap.size:=RX.out.lt
 have hVX:V<X4.heap.size:=by omega
 have hVX2:V≠X4.heap.size:=by omega
 have hnX2:w1.heap.size≠X4.heap.size:=by omega
 have k0:=HGX.out.blk.cell 0 _ rfl
 have fz0:=HGX.out.blk.frozen 0
 have r0:=RX.out.cell 0 _ rfl
 have r1:=RX.out.cell 1 _ rfl
 have r2:=RX.out.cell 2 _ rfl
 obtain⟨i0,hi0,hz0,hzz,hz2⟩:=infos Tryz.infoGt
 have hbase:B<=X4.heap.size:=by have:=HG.out.base;omega
 have HOWA:Hid (∀u':World,u'.heap=(X4.alloc (.cells #[.pointer (some ⟨Q,0,none⟩),.pointer (some ⟨V0.heap.size+1,0,none⟩),.pointer none] 122)).heap->u'.ownsRow B 122 3 (.slice gp L.length gc) L.length (gatL L)):=fun u' hu=>owns_keep (HGX.out.row.alloc (.cells #[.pointer (some ⟨Q,0,none⟩),.pointer (some ⟨V0.heap.size+1,0,none⟩),.pointer none] 122)) (fun g _=>by rw[hu])
 have HNW:Hid (∀u':World,u'.heap=(X4.alloc (.cells #[.pointer (some ⟨Q,0,none⟩),.pointer (some ⟨V0.heap.size+1,0,none⟩),.pointer none] 122)).heap->∀(j:Nat) (y:Value),([.pointer (some ⟨Q,0,none⟩),.pointer (some ⟨V0.heap.size+1,0,none⟩),.pointer none]:List Value)[j]? =some y->u'.cell? ((⟨X4.heap.size,0,none⟩:Addr).add j)=some y):=fun u' hu=>World.news_of_block (w:=u') (cs:= #[.pointer (some ⟨Q,0,none⟩),.pointer (some ⟨V0.heap.size+1,0,none⟩),.pointer none]) (t:=122) (fr:=(0,0)) (by rw[hu];exact heap_alloc_new X4 _)
 have HAD:Hid (∀(u' w3:World) (gg cap':Nat),u'.heap=(X4.alloc (.cells #[.pointer (some ⟨Q,0,none⟩),.pointer (some ⟨V0.heap.size+1,0,none⟩),.pointer none] 122)).heap->u'.os=X4.os->u'.tape=X4.tape->u'.output=X4.output->u'.grownBy w3 (Value.slice gp L.length gc).ownBlock->((Value.slice gp L.length gc).ownBlock=some gg\/gg=X4.heap.size+1)->w3.ownsRow B 122 3 (.slice (some ⟨gg,0,none⟩) (L.length+1) cap') (L.length+1) (gatL L++[.pointer (some ⟨Q,0,none⟩),.pointer (some ⟨V0.heap.size+1,0,none⟩),.pointer none])->Below W.heap.size W u'/\Pair u' (PairS Q (V0.heap.size+1) O (.slice none 0 0) (.slice none 0 0) (.slice none 0 0)) Q (V0.heap.size+1) .nilFunc N/\u'.grownBy w3 (Value.slice gp L.length gc).ownBlock/\((Value.slice gp L.length gc).ownBlock=some gg\/u'.heap.size<=gg)/\w3.ownsRow B 122 3 (.slice (some ⟨gg,0,none⟩) (L.length+1) cap') (L.length+1) (gatL (L++[(Q,V0.heap.size+1)]))/\w3.cell? ⟨V,0,none⟩=some (.slice gp L.length gc)/\w3.frozen? ⟨V,0,none⟩=false):=fun u' w3 gg cap' q1 q2 q3 q4 q5 q6 q7=>by
  have zu:u'.heap.size=X4.heap.size+1:=by rw[q1];simp
  have bu:Below X4.heap.size X4 u':=⟨q2,q3,q4,by omega,fun m hm=>by rw[q1];exact Below.heap_alloc _ _ _ hm⟩
  have hV3:w3.heap[V]? =X4.heap[V]? :=(q5.block V (by omega) (fun q=>owns_ne HGX.out.row HGX.out.blk (by decide) q.symm)).trans (bu.block V hVX)
  refine⟨BX.out.trans (bu.mono BX.out.size),PX.out.below bu,q5,?_,by rw[gatL_app];exact q7,(World.cell?_of_block (a:=⟨V,0,none⟩) hV3).trans k0,(World.frozen?_of_block (a:=⟨V,0,none⟩) hV3).trans fz0⟩
  rcases q6 with q|q
  ·exact .inl q
  ·exact .inr (by omega)
 clear hX4 tX bX n0 nf o1
 go_cut [15] from 72 to 78 (fun x w'=>∃gg cap' u',x= .slice (some ⟨gg,0,none⟩) (L.length+1) cap'/\Below W.heap.size W u'/\Pair u' (PairS Q (V0.heap.size+1) O (.slice none 0 0) (.slice none 0 0) (.slice none 0 0)) Q (V0.heap.size+1) .nilFunc N/\u'.grownBy w' (Value.slice gp L.length gc).ownBlock/\((Value.slice gp L.length gc).ownBlock=some gg\/u'.heap.size<=gg)/\w'.ownsRow B 122 3 (.slice (some ⟨gg,0,none⟩) (L.length+1) cap') (L.length+1) (gatL (L++[(Q,V0.heap.size+1)]))/\w'.cell? ⟨V,0,none⟩=some (.slice gp L.length gc)/\w'.frozen? ⟨V,0,none⟩=false)
 case first=>
  go_region_law (refine step_append_lies _ (by rfl) _ _ _ (by rfl) B 122 i0 _ 3 24 Tryz.underlying87 hi0 hz0 hzz hz2 rfl (by decide) _ L.length (gatL L) (by rfl) (HOWA.out _ (by rfl)) ⟨X4.heap.size,0,none⟩ 1 1 [.pointer (some ⟨Q,0,none⟩),.pointer (some ⟨V0.heap.size+1,0,none⟩),.pointer none] (by rfl) (by rfl) (HNW.out _ (by rfl)) (by simp[Value.oneCell']) (by decide) (by unfold maxLen;omega) (by omega) (by first|exact Nat.le_trans hbase (Nat.le_succ _)|(simp;omega)) (X4.heap.size+1) (by simp) ?_;intro gg cap' w3 hown3 hgrow hat hlt3;have HA3:Hid (∃u',Below W.heap.size W u'/\Pair u' (PairS Q (V0.heap.size+1) O (.slice none 0 0) (.slice none 0 0) (.slice none 0 0)) Q (V0.heap.size+1) .nilFunc N/\u'.grownBy w3 (Value.slice gp L.length gc).ownBlock/\((Value.slice gp L.length gc).ownBlock=some gg\/u'.heap.size<=gg)/\w3.ownsRow B 122 3 (.slice (some ⟨gg,0,none⟩) (L.length+1) cap') (L.length+1) (gatL (L++[(Q,V0.heap.size+1)]))/\w3.cell? ⟨V,0,none⟩=some (.slice gp L.length gc)/\w3.frozen? ⟨V,0,none⟩=false):=⟨_,HAD.out _ _ _ _ (by rfl) (by rfl) (by rfl) (by rfl) hgrow hat hown3⟩;clear hgrow hat hown3)
  all_goals
   go_wp2_with fail
   go_meet
   obtain⟨u',hu'⟩:=HA3.out
   exact⟨_,_,u',rfl,hu'⟩
 obtain⟨gg,cap',u',rfl,hu1,hu2,hu3,hu4,hu5,hu6,hu7⟩:=hcut
 have HMO:Hid (_/\_):=HG.out.more hu1 hu2 HSX.out hu3 hu5 hu4
 clear hu1 hu2 hu3 hu4 hu5 HAD HNW HOWA k0 fz0 r0 r1 r2
 go_wp2_with fail
 go_ret
 exact⟨rfl,_,_,HMO.out.1,HMO.out.2⟩
end
structure Opn where
 k:Int
 a:Int
 b:Int
 c:Int
 s:ByteArray
abbrev Opn.cells (o:Opn):Array Value:= #[.int .i64 o.k,.int .i64 o.a,.int .i64 o.b,.int .i64 o.c,.string o.s]
abbrev Opn.l (o:Opn):List Value:=[.int .i64 o.k,.int .i64 o.a,.int .i64 o.b,.int .i64 o.c,.string o.s]
structure Opn.Ok (o:Opn):Prop where
 a: -9223372036854775808<=o.a/\o.a<=9223372036854775807
 b: -9223372036854775808<=o.b/\o.b<=9223372036854775807
 s:o.s.size<=140737488351232
section
variable {W : World} {B V N : Nat} {gv : Value} {L : List (Nat × Nat)}
theorem step_open (h:Gates W B V gv L N) (hL:Laid W) (hl2:L.length<=1000000) (a b c:Int) (ha: -9223372036854775808<=a/\a<=9223372036854775807) (hb0: -9223372036854775808<=b/\b<=9223372036854775807) (s:ByteArray):
 Calls Tryz.prog 37 #[.pointer (some ⟨V,0,none⟩),.agg #[.int .i64 1,.int .i64 a,.int .i64 b,.int .i64 c,.string s]] W fun e w'=>e= .returned (.bool true)/\∃gv' L',Gates w' B V gv' L' (N+1)/\Below B W w':=by
 have HO:Hid (∀U:World,Below W.heap.size W U->Calls Tryz.prog 53 #[.pointer (some ⟨V,0,none⟩),.agg #[.int .i64 1,.int .i64 a,.int .i64 b,.int .i64 c,.string s]] U fun e w'=>e= .returned (.bool true)/\∃gv' L',Gates w' B V gv' L' (N+1)/\Below B W w'):=fun U hU=>by
  by_cases hr:a<1\/64<a
  ·refine(opened_bad h hL U hU 1 a b c s ha hb0 hr).mono fun e w' z=>⟨z.1,gv,L,?_⟩
   have bb:=hU.trans (z.2.mono hU.size)
   exact⟨(h.below bb).le (Nat.le_succ _),bb.mono (Nat.le_trans h.base (Nat.le_of_lt h.blk.lt))⟩
  ·obtain⟨room,rfl⟩:∃room:Nat,a=(room:Int):=⟨a.toNat,by omega⟩
   exact opened_ok h hl2 U hU 1 b c s hb0 room (by omega) (by omega)
 clear h hL hl2 ha hb0
 go_enter Tryz.func37,Tryz.ntmps37
 go_wp2_with (go_at_call 53;refine(HO.out _ ((Below.refl _ _).alloc (Nat.le_refl _) _)).mono ?_;rintro e w6 ⟨rfl,hg6⟩;have HG6:Hid (_):=hg6;clear hg6)
 go_ret
 exact⟨rfl,HG6.out⟩
theorem step_any (h:Gates W B V gv L N) (hL:Laid W) (hm:MaxL W) (hN:N<=1000000) (o:Opn) (ho:o.Ok) (hs:o.s.size<=262144):
 Calls Tryz.prog 37 #[.pointer (some ⟨V,0,none⟩),.agg o.cells] W fun e w'=>e= .returned (.bool true)/\∃gv' L',Gates w' B V gv' L' (N+1)/\Below B W w':=by
 obtain⟨k,a,b,c,s⟩:=o
 have hl2:L.length<=1000000:=Nat.le_trans h.len hN
 have ha:=ho.a
 have hb:=ho.b
 dsimp only at ha hb hs ⊢
 by_cases k1:k=1
 ·subst k1;exact step_open h hL hl2 a b c ha hb s
 by_cases hl:L.length=0
 ·exact(step_none h hl k a b c s k1).mono fun e w' z=>⟨z.1,gv,L,z.2.1.le (Nat.le_succ _),z.2.2⟩
 have hl0:0<L.length:=Nat.pos_of_ne_zero hl
 exact(step_rest h hl0 hl2 hL hm (by omega) k k1 a b c ha s hs).mono fun e w' z=>⟨z.1,gv,L,z.2⟩
end
def ScrAt (W:World) (p:Option Addr) (ops:List Opn):Prop:=∀i o,ops[i]? =some o->∃sb so,p=some ⟨sb,so,none⟩/\sb<W.heap.size/\∀k v,o.l[k]? =some v->W.cell? ⟨sb,so+(i*5+k),none⟩=some v
def SmallOut (ops:List Opn) (e:Ending):Prop:=∃q:Bool,e= .returned (.bool q)/\(q=true->ops.length<=262144/\∀o ∈ ops,o.s.size<=262144)
theorem small_any (W:World) (p:Option Addr) (c:Nat) (ops:List Opn) (hp:ScrAt W p ops) (hok:∀o ∈ ops,o.Ok) (hn:ops.length<=maxLen):
 Calls Tryz.prog 16 #[.slice p ops.length c] W fun e w'=>SmallOut ops e/\Below W.heap.size W w':=by
 unfold maxLen at hn
 by_cases hbig:262144<ops.length
 ·have d1:decide ((262144:Int)<(ops.length:Int))=true:=by simp;omega
  clear hp hok hn
  go_enter Tryz.func16,Tryz.ntmps16
  go_wp2_with fail
  go_ret
  exact⟨⟨false,rfl,fun q=>by cases q⟩,Below.refl _ _⟩
 ·have d1:decide ((262144:Int)<(ops.length:Int))=false:=by simp;omega
  have hle:ops.length<=262144:=by omega
  have HP:Hid (ScrAt W p ops):=hp
  have HO:Hid (∀o ∈ ops,o.Ok):=hok
  clear hp hok hn hbig
  go_enter Tryz.func16,Tryz.ntmps16
  go_wp2_with fail
  go_loopw [3,4] (fun nv iv wr=>∃j tot:Nat,j<=ops.length/\iv= .int .i64 j/\nv= .int .i64 tot/\tot<=262144/\(∀o ∈ ops.take j,o.s.size<=262144)/\Below W.heap.size W wr) (fun _ iv _=>ops.length-(intOf iv).toNat)
  case atStart=>exact⟨0,ops.length,Nat.zero_le _,rfl,rfl,hle,fun o ho=>by simp at ho,Below.refl _ _⟩
  case round=>
   obtain⟨j,tot,hj,rfl,rfl,ht,hall,hbr⟩:=hrel
   have HA:Hid (∀o ∈ ops.take j,o.s.size<=262144):=hall
   have HB:Hid (Below W.heap.size W wr):=hbr
   clear hall
   by_cases hlt:j<ops.length
   ·obtain⟨o,ho⟩:∃o,ops[j]? =some o:=⟨_,List.getElem?_eq_getElem hlt⟩
    have HS:Hid (ops.take (j+1)=ops.take j++[o]):=show _=_ by rw[List.take_add_one,ho];rfl
    have hsz:=(HO.out o (List.mem_of_getElem? ho)).s
    obtain⟨sb,so,hpp,hsb,hcs⟩:=HP.out j o ho
    subst hpp
    have s4:=(hbr.cell (p:=⟨sb,so+(j*5+4),none⟩) hsb).trans (hcs 4 _ rfl)
    rw[<-Nat.add_assoc] at s4
    obtain⟨s,hss⟩:∃s,o.s=s:=⟨_,rfl⟩
    have HSS:Hid (o.s=s):=hss
    rw[hss] at s4 hsz
    clear hss
    have i1:(0:Int)<=(j:Int):=by omega
    have i2:(j:Int)<(ops.length:Int):=by omega
    have i3:IntKind.i64.wrap ((j:Int)+1)=(j:Int)+1:=by rw[IntKind.wrap_i64];omega
    have i4:IntKind.i64.wrap ((tot:Int)+(s.size:Int))=((tot+s.size:Nat):Int):=by rw[IntKind.wrap_i64];omega
    clear hcs hbr
    by_cases hb2:262144<tot+s.size
    ·have d2:decide ((262144:Int)<((tot+s.size:Nat):Int))=true:=by simp;omega
     go_wp2_with fail
     go_ret
     exact⟨⟨false,rfl,fun q=>by cases q⟩,HB.out⟩
    ·have d2:decide ((262144:Int)<((tot+s.size:Nat):Int))=false:=by simp;omega
     go_wp2_with fail
     go_roundw
     case measure=>simp[intOf];omega
     case rel=>
      refine⟨j+1,tot+s.size,by omega,by simp,rfl,by omega,fun x hx=> ?_,HB.out⟩
      rw[HS.out] at hx
      rcases List.mem_append.1 hx with q|q
      ·exact HA.out x q
      ·obtain rfl:x=o:=by simpa using q
       rw[HSS.out];omega
   ·obtain rfl:j=ops.length:=by omega
    have i2:¬(ops.length:Int)<(ops.length:Int):=by omega
    clear hbr
    go_wp2_with fail
    go_ret
    exact⟨⟨true,rfl,fun _=>⟨hle,by have:=HA.out;rw[List.take_length] at this;exact this⟩⟩,HB.out⟩
theorem gates_start (W:World):Gates (W.alloc (.cells #[.slice none 0 0,.bool true] 89)) W.heap.size W.heap.size (.slice none 0 0) [] 0:=
 ⟨Blk.made W _ [.slice none 0 0,.bool true] (list_one rfl),World.ownsRow_nil _ _ _ _,⟨fun _ _=>False,fun i q h=>by simp at h,fun i j hi=>absurd hi (by simp),fun i x hi=>absurd hi (by simp)⟩,Nat.le_refl _,Nat.le_refl _⟩
theorem upTo_any (W:World) (hL:Laid W) (hm:MaxL W) (p:Option Addr) (c:Nat) (ops:List Opn) (hp:ScrAt W p ops) (hok:∀o ∈ ops,o.Ok) (hle:ops.length<=262144) (hss:∀o ∈ ops,o.s.size<=262144):
 Calls Tryz.prog 17 #[.slice p ops.length c,.bool true] W fun e w'=>e= .returned (.int .i64 (-1))/\Below W.heap.size W w':=by
 have HP:Hid (ScrAt W p ops):=hp
 have HO:Hid (∀o ∈ ops,o.Ok/\o.s.size<=262144):=fun o ho=>⟨hok o ho,hss o ho⟩
 have HL:Hid (Laid W/\MaxL W):=⟨hL,hm⟩
 clear hp hok hss hL hm
 go_enter Tryz.func17,Tryz.ntmps17
 go_wp2_with fail
 have HG0:Hid (Gates (W.alloc (.cells #[.slice none 0 0,.bool true] 89)) W.heap.size W.heap.size (.slice none 0 0) [] 0):=gates_start W
 have HB0:Hid (Below W.heap.size W (W.alloc (.cells #[.slice none 0 0,.bool true] 89))):=(Below.refl _ _).alloc (Nat.le_refl _) _
 generalize W.alloc (.cells #[.slice none 0 0,.bool true] 89)=W1 at HG0 HB0 ⊢
 go_loopw [6] (fun iv wr=>∃(j:Nat) (gv:Value) (L:List (Nat×Nat)),j<=ops.length/\iv= .int .i64 j/\Gates wr W.heap.size W.heap.size gv L j/\Below W.heap.size W wr) (fun iv _=>ops.length-(intOf iv).toNat)
 case atStart=>exact⟨0,_,_,Nat.zero_le _,rfl,HG0.out,HB0.out⟩
 case round=>
  obtain⟨j,gv,L,hj,rfl,hg,hbr⟩:=hrel
  have HB:Hid (Below W.heap.size W wr):=hbr
  by_cases hlt:j<ops.length
  ·obtain⟨o,ho⟩:∃o,ops[j]? =some o:=⟨_,List.getElem?_eq_getElem hlt⟩
   obtain⟨hk,hs⟩:=HO.out o (List.mem_of_getElem? ho)
   have HST:Hid (Calls _ _ _ wr _):=step_any hg (HL.out.1.below hbr) (HL.out.2.below hbr) (by omega) o hk hs
   obtain⟨sb,so,hpp,hsb,hcs⟩:=HP.out j o ho
   subst hpp
   have s0:=(hbr.cell (p:=⟨sb,so+(j*5+0),none⟩) hsb).trans (hcs 0 _ rfl)
   have s1:=(hbr.cell (p:=⟨sb,so+(j*5+1),none⟩) hsb).trans (hcs 1 _ rfl)
   have s2:=(hbr.cell (p:=⟨sb,so+(j*5+2),none⟩) hsb).trans (hcs 2 _ rfl)
   have s3:=(hbr.cell (p:=⟨sb,so+(j*5+3),none⟩) hsb).trans (hcs 3 _ rfl)
   have s4:=(hbr.cell (p:=⟨sb,so+(j*5+4),none⟩) hsb).trans (hcs 4 _ rfl)
   rw[Nat.add_zero] at s0
   rw[<-Nat.add_assoc] at s1 s2 s3 s4
   obtain⟨k,a,b,c',s⟩:=o
   dsimp only[Opn.cells] at s0 s1 s2 s3 s4 HST
   have i1:(0:Int)<=(j:Int):=by omega
   have i2:(j:Int)<(ops.length:Int):=by omega
   have i3:IntKind.i64.wrap ((j:Int)+1)=(j:Int)+1:=by rw[IntKind.wrap_i64];omega
   clear hcs hbr hg hk hs ho
   go_wp2_with (go_at_call 37;refine HST.out.mono ?_;rintro e w6 ⟨rfl,hg6⟩;have HG6:Hid (_):=hg6;clear hg6)
   go_roundw
   case measure=>simp[intOf];omega
   case rel=>
    obtain⟨gv',L',q1,q2⟩:=HG6.out
    exact⟨j+1,gv',L',by omega,by simp,q1,HB.out.trans q2⟩
  ·obtain rfl:j=ops.length:=by omega
   have i2:¬(ops.length:Int)<(ops.length:Int):=by omega
   clear hbr hg
   go_wp2_with fail
   go_ret
   exact⟨rfl,HB.out⟩
theorem all_any (W:World) (hL:Laid W) (hm:MaxL W) (p:Option Addr) (c:Nat) (ops:List Opn) (hp:ScrAt W p ops) (hok:∀o ∈ ops,o.Ok) (hn:ops.length<=maxLen):
 Calls Tryz.prog 7 #[.slice p ops.length c] W fun e w'=>e= .returned (.bool true)/\Below W.heap.size W w':=by
 have HS:Hid (Calls _ _ _ W _):=small_any W p c ops hp hok hn
 have HU:Hid (∀U:World,Below W.heap.size W U->ops.length<=262144/\(∀o ∈ ops,o.s.size<=262144)->Calls Tryz.prog 17 #[.slice p ops.length c,.bool true] U fun e w'=>e= .returned (.int .i64 (-1))/\Below W.heap.size W w'):=fun U hU hq=>(upTo_any U (hL.below hU) (hm.below hU) p c ops (fun i o ho=>by
  obtain⟨sb,so,h1,h2,h3⟩:=hp i o ho
  exact⟨sb,so,h1,Nat.lt_of_lt_of_le h2 hU.size,fun k v hv=>(hU.cell (p:=⟨sb,so+(i*5+k),none⟩) h2).trans (h3 k v hv)⟩) hok hq.1 hq.2).mono fun e w' z=>⟨z.1,hU.trans (z.2.mono hU.size)⟩
 clear hL hm hp hok hn
 go_enter Tryz.func7,Tryz.ntmps7
 go_upto_region 2 with(go_at_call 16;refine HS.out.mono ?_;rintro e w1 ⟨⟨q,rfl,hq⟩,hb1⟩;have HQ:Hid (q=true->ops.length<=262144/\∀o ∈ ops,o.s.size<=262144):=hq;have HB1:Hid (Below W.heap.size W w1):=hb1;clear hq hb1)
 cases q with
 |false=>
  go_wp2_with fail
  go_ret
  exact⟨rfl,HB1.out⟩
 |true=>
  have HUX:Hid (Calls _ _ _ w1 _):=HU.out w1 HB1.out (HQ.out rfl)
  go_wp2_with (go_at_call 17;refine HUX.out.mono ?_;rintro e w2 ⟨rfl,hb2⟩;have HB2:Hid (Below W.heap.size W w2):=hb2;clear hb2)
  go_ret
  exact⟨rfl,HB2.out⟩
end Go.Proofs.YtclpnafiiobfhaaGreatDoor
namespace Go.Proofs.YtclpnafiiobfhaaGreatDoor
open Go.RowKit Go.ChangeShapes Go.WideShapes Go.Deep
section
variable {H : Type} {enc : TypeId × Value → H}
theorem Tryz.cellsOp:Tryz.prog.cellsOf 85=5:=by kernel_rfl
theorem mem_weightsAll {P:Program} {e:TypeId} {x:Nat}:∀(l:List (DataW H)) (d:DataW H),d ∈ l->x ∈ d.weights P e->x ∈ DataW.weightsAll P e l
 |[],_,h,_=>by cases h
 |y::l,d,h,hx=>by
  rw[DataW.weightsAll]
  rcases List.mem_cons.1 h with rfl|q
  ·exact List.mem_append_left _ hx
  ·exact List.mem_append_right _ (mem_weightsAll l d q hx)
theorem list5 {α:Type} {l:List α} (h:l.length=5):∃a b c d e,l=[a,b,c,d,e]:=by
 match l,h with
 |[a,b,c,d,e],_=>exact⟨a,b,c,d,e,rfl⟩
theorem open_op {W:World} {n:Nat} {cs:List Value} {x:DataW H×List MemPlace} (h:DataW.trod enc Tryz.prog W 0 (fun _=>true) true n 85 cs=some x):∃o:Opn,cs=o.l/\x.2=[]/\(-9223372036854775808<=o.a/\o.a<=9223372036854775807)/\(-9223372036854775808<=o.b/\o.b<=9223372036854775807)/\o.s.size ∈ x.1.weights Tryz.prog 85:=by
 have hu:=Tryz.underlying85
 obtain⟨xs,m,_,hx,hl,hlen,hf⟩:=DataW.trod_struct hu h
 rw[Tryz.cellsOp] at hl
 obtain⟨c0,c1,c2,c3,c4,rfl⟩:=list5 hl
 obtain⟨y0,y1,y2,y3,y4,rfl⟩:=list5 (hlen.trans (by rfl))
 have f0:DataW.trod enc Tryz.prog W 0 (fun _=>true) true m 3 (([c0,c1,c2,c3,c4].drop 0).take (Tryz.prog.cellsOf 3))=some y0:=hf 0 _ rfl
 have f1:DataW.trod enc Tryz.prog W 0 (fun _=>true) true m 3 (([c0,c1,c2,c3,c4].drop 1).take (Tryz.prog.cellsOf 3))=some y1:=hf 1 _ rfl
 have f2:DataW.trod enc Tryz.prog W 0 (fun _=>true) true m 3 (([c0,c1,c2,c3,c4].drop 2).take (Tryz.prog.cellsOf 3))=some y2:=hf 2 _ rfl
 have f3:DataW.trod enc Tryz.prog W 0 (fun _=>true) true m 3 (([c0,c1,c2,c3,c4].drop 3).take (Tryz.prog.cellsOf 3))=some y3:=hf 3 _ rfl
 have f4:DataW.trod enc Tryz.prog W 0 (fun _=>true) true m 9 (([c0,c1,c2,c3,c4].drop 4).take (Tryz.prog.cellsOf 9))=some y4:=hf 4 _ rfl
 have ci:Tryz.prog.cellsOf 3=1:=by kernel_rfl
 have cstr:Tryz.prog.cellsOf 9=1:=by kernel_rfl
 rw[ci] at f0 f1 f2 f3
 rw[cstr] at f4
 obtain⟨n0,e0,z0,_⟩:=DataW.trod_int Tryz.underlying3 f0
 obtain⟨n1,e1,z1,w1⟩:=DataW.trod_int Tryz.underlying3 f1
 obtain⟨n2,e2,z2,w2⟩:=DataW.trod_int Tryz.underlying3 f2
 obtain⟨n3,e3,z3,_⟩:=DataW.trod_int Tryz.underlying3 f3
 obtain⟨s,e4,z4,_⟩:=DataW.trod_string Tryz.underlying9 f4
 simp only[List.drop,List.take,List.cons.injEq,and_true] at e0 e1 e2 e3 e4
 subst e0 e1 e2 e3 e4 z0 z1 z2 z3 z4
 refine⟨⟨n0,n1,n2,n3,s⟩,rfl,by rw[hx];rfl,bounds_i64 w1,bounds_i64 w2,?_⟩
 rw[hx]
 show s.size ∈ DataW.weights _ _ (.agg [_,_,_,_,_])
 rw[DataW.weights,hu]
 simp[DataW.weightsEach,DataW.weights]
theorem choose_list {α:Type} [Inhabited α] (n:Nat) (p:Nat->α->Prop) (h:∀i,i<n->∃x,p i x):∃l:List α,l.length=n/\∀i x,l[i]? =some x->p i x:=by
 induction n with
 |zero=>exact⟨[],rfl,fun i x hx=>by simp at hx⟩
 |succ n ih=>
  obtain⟨l,hl,hp⟩:=ih (fun i hi=>h i (by omega))
  obtain⟨x,hx⟩:=h n (by omega)
  refine⟨l++[x],by simp[hl],fun i y hy=> ?_⟩
  by_cases e:i<l.length
  ·rw[List.getElem?_append_left e] at hy
   exact hp i y hy
  ·have hi:i<l.length+1:=by have:=(List.getElem?_eq_some_iff.1 hy).1;simpa using this
   obtain rfl:i=l.length:=by omega
   simp at hy
   subst hy
   rw[hl];exact hx
theorem open_ops {W:World} {b0:Nat} {v:Value} {d:DataW H} {ps:List MemPlace} (hval:Value.okWide Tryz.prog W .any b0 48 v) (h:DataW.Trod enc Tryz.prog W 0 (fun _=>true) true 48 v d ps):∃(p:Option Addr) (ops:List Opn) (c:Nat),v= .slice p ops.length c/\ScrAt W p ops/\ops.length<=maxLen/\(∀x ∈ ps,x.block<W.heap.size)/\∀o ∈ ops,(-9223372036854775808<=o.a/\o.a<=9223372036854775807)/\(-9223372036854775808<=o.b/\o.b<=9223372036854775807)/\o.s.size ∈ d.weights Tryz.prog 48:=by
 obtain⟨a0,l0,c0,rfl⟩:=okWide_slice Tryz.underlying48 hval
 obtain⟨n,t0⟩:=h
 rcases open_slice Tryz.underlying48 t0 with⟨hc,hx⟩|⟨a,len,cap,m,k,D,Pl,hc,_,hl,hm,hmm,hx,hall⟩
 ·simp[Value.cells] at hc
  obtain⟨rfl,rfl,rfl⟩:=hc
  simp only[Prod.mk.injEq] at hx
  obtain⟨rfl,rfl⟩:=hx
  exact⟨none,[],0,rfl,(fun i o h=>by simp at h),Nat.zero_le _,(fun x h=>by cases h),(fun o h=>by cases h)⟩
 ·simp[Value.cells] at hc
  obtain⟨rfl,rfl,rfl⟩:=hc
  simp only[Prod.mk.injEq] at hx
  obtain⟨rfl,rfl⟩:=hx
  simp only[if_true] at hmm
  subst hmm
  rw[Tryz.cellsOp] at hall
  have each:∀i,i<m->∃o:Opn,(∀k v,o.l[k]? =some v->W.cell? ((a.add (i*5)).add k)=some v)/\Pl i=[]/\(-9223372036854775808<=o.a/\o.a<=9223372036854775807)/\(-9223372036854775808<=o.b/\o.b<=9223372036854775807)/\o.s.size ∈ (D i).weights Tryz.prog 85:=fun i hi=>by
   obtain⟨cs',h1,h2⟩:=hall i hi
   obtain⟨o,rfl,q2,q3,q4,q5⟩:=open_op h2
   obtain⟨_,hl5,hcell⟩:=World.cells?_some h1
   exact⟨o,fun k v hv=>(hcell k (by have:=(List.getElem?_eq_some_iff.1 hv).1;rw[hl5] at this;exact this)).trans hv,q2,q3,q4,q5⟩
  obtain⟨sb,so,spot⟩:=a
  have hspot:0<m->spot=none:=fun h=>by
   obtain⟨o,ho,_⟩:=each 0 h
   have:=ho 0 _ rfl
   simpa[Addr.add] using World.cell?_spot this
  have hlt:0<m->sb<W.heap.size:=fun h=>by
   obtain⟨o,ho,_⟩:=each 0 h
   have:=World.block_lt_of_cell? W _ (ho 0 _ rfl)
   simpa[Addr.add] using this
  haveI:Inhabited Opn:=⟨⟨0,0,0,0,ByteArray.empty⟩⟩
  obtain⟨ops,hlen,hops⟩:=choose_list l0 _ (fun i hi=>each i (by omega))
  refine⟨some ⟨sb,so,spot⟩,ops,m,by rw[hlen],fun i o ho=> ?_,by omega,fun x hx=> ?_,fun o ho=> ?_⟩
  ·have hi:i<l0:=by have:=(List.getElem?_eq_some_iff.1 ho).1;omega
   refine⟨sb,so,by rw[hspot (by omega)],hlt (by omega),fun k v hv=> ?_⟩
   have:=(hops i o ho).1 k v hv
   rw[hspot (by omega)] at this
   have e:((⟨sb,so,none⟩:Addr).add (i*5)).add k=⟨sb,so+(i*5+k),none⟩:=by
    by_cases q1:i*5=0<;>by_cases q2:k=0<;>simp[Addr.add,q1,q2]<;>omega
   rw[e] at this
   exact this
  ·rcases List.mem_append.1 hx with h1|h2
   ·simp only[MemPlace.row,List.mem_map,List.mem_range] at h1
    obtain⟨j,hj,rfl⟩:=h1
    exact hlt (by rw[Tryz.cellsOp] at hj;omega)
   ·obtain⟨j,hj,hxj⟩:=List.mem_flatMap.1 h2
    obtain⟨o,_,q,_⟩:=each j (List.mem_range.1 hj)
    rw[q] at hxj
    cases hxj
  ·obtain⟨i,hi,rfl⟩:=List.mem_iff_getElem.1 ho
   obtain⟨_,_,q3,q4,q5⟩:=hops i _ (List.getElem?_eq_getElem hi)
   refine⟨q3,q4,?_⟩
   rw[DataW.weights,Tryz.underlying48]
   refine List.mem_cons_of_mem _ (List.mem_append_left _ (mem_weightsAll _ (D i) (List.mem_map.2 ⟨i,List.mem_range.2 (by omega),rfl⟩) q5))
end
end Go.Proofs.YtclpnafiiobfhaaGreatDoor

import Derived.Test.YtclpnafiiobfhaaGreatDoorQ30
import Derived.Test.YtclpnafiiobfhaaGreatDoorQ31
set_option linter.unusedVariables false
set_option linter.unusedSimpArgs false
set_option maxHeartbeats 6400000
set_option maxRecDepth 20000
namespace Go.Proofs.YtclpnafiiobfhaaGreatDoor
open Go.RowKit
theorem zH3 {T mb g n cap room births:Nat} {f:Nat->En} (w:World) (h:zAK w T mb (.slice (some ⟨g,0,none⟩) n cap) room births n f) (i j:Nat) (hi:i<n) (hj:j<n):
 Calls Tryz.prog 182 #[.pointer (some ⟨T,0,none⟩),.int .i64 (i:Int),.int .i64 (j:Int)] w fun e w'=>e= .returned (.bool (decide (rkE (f i)<rkE (f j))))/\Below w.heap.size w w':=by
 have hT3:=h.blk.cell 3 _ rfl;have hE:=h.ents;have X:∀k v,(f i).l[k]? =some v->w.cell? ⟨g,i*14+k,none⟩=some v:=fun k v hv=>hE.cell hi k v hv
 have Y:∀k v,(f j).l[k]? =some v->w.cell? ⟨g,j*14+k,none⟩=some v:=fun k v hv=>hE.cell hj k v hv
 refine(zJH T g n cap i j _ _ _ _ _ _ _ _ _ _ _ _ _ _ _ _ _ _ _ _ _ _ _ _ _ _ _ _ w hT3 hi hj (X 0 _ rfl) (X 1 _ rfl) (X 2 _ rfl) (X 3 _ rfl) (X 4 _ rfl) (X 5 _ rfl) (X 6 _ rfl) (X 7 _ rfl) (X 8 _ rfl) (X 9 _ rfl) (X 10 _ rfl) (X 11 _ rfl) (X 12 _ rfl) (X 13 _ rfl) (Y 0 _ rfl) (Y 1 _ rfl) (Y 2 _ rfl) (Y 3 _ rfl) (Y 4 _ rfl) (Y 5 _ rfl) (Y 6 _ rfl) (Y 7 _ rfl) (Y 8 _ rfl) (Y 9 _ rfl) (Y 10 _ rfl) (Y 11 _ rfl) (Y 12 _ rfl) (Y 13 _ rfl)).mono ?_;rintro e w' ⟨he,hb⟩;refine⟨he.trans ?_,hb⟩
 congr 2
 have q:=zPk (x:=f i) (y:=f j) (h.ns i hi) (h.ns j hj)
 by_cases e1:((f i).v.u:Int)=((f j).v.u:Int)
 ·rw[if_pos e1]
  exact decide_eq_decide.2 (by rw[q];omega)
 ·rw[if_neg e1]
  exact decide_eq_decide.2 (by rw[q];omega)
theorem zKE {T mb g n cap room births:Nat} {f:Nat->En} (w:World) (h:zAK w T mb (.slice (some ⟨g,0,none⟩) n cap) room births n f) (k a:Nat) (hk:a<=k) (ha:a<n):
 Calls Tryz.prog 208 #[.pointer (some ⟨T,0,none⟩),.int .i64 (a:Int)] w fun e w'=>e= .returned (.tuple #[])/\zAK w' T mb (.slice (some ⟨g,0,none⟩) n cap) room births n (Hp.rise rkE k f a)/\Trn (Ows T mb (.slice (some ⟨g,0,none⟩) n cap)) w w':=by
 obtain⟨F,hF⟩:∃F,Hp.rise rkE k f a=F:=⟨_,rfl⟩;rw[hF];have hn:n<=64:=Nat.le_trans h.le h.big;have HT:=hid h;have HF:=hid hF;clear h hF;go_enter Tryz.func208,Tryz.ntmps208;go_wp2_with fail;go_loopg [1] k (fun r s1 wx=>∃(x:Nat) (f':Nat->En),x<=r/\x<n/\s1= .int .i64 (x:Int)/\Hid (zAK wx T mb (.slice (some ⟨g,0,none⟩) n cap) room births n f')/\Hid (Hp.rise rkE r f' x=F)/\Hid (Trn (Ows T mb (.slice (some ⟨g,0,none⟩) n cap)) w wx))
 case atStart=>exact⟨a,f,hk,ha,rfl,HT,HF,Trn.refl _ _⟩
 case round=>
  obtain⟨x,f',hxr,hxn,rfl,H1,H2,H3⟩:=hrel;cases x with
  |zero=>
   go_wp2_with fail;go_end0;refine⟨rfl,H1.out.congr ?_,H3.out⟩;rw[<-H2.out];cases gk<;>simp[Hp.rise]
  |succ x=>
   obtain⟨r,rfl⟩:∃r,gk=r+1:=⟨gk-1,by omega⟩;have HC:Hid (∀X P:Int,X=((x+1:Nat):Int)->P=((x / 2:Nat):Int)->Calls Tryz.prog 182 #[.pointer (some ⟨T,0,none⟩),.int .i64 X,.int .i64 P] wr fun e w'=>e= .returned (.bool (decide (rkE (f' (x+1))<rkE (f' (x / 2)))))/\zAK w' T mb (.slice (some ⟨g,0,none⟩) n cap) room births n f'/\Below wr.heap.size wr w'):=fun X P hX hP=>by
    subst hX hP;exact(zH3 wr H1.out (x+1) (x / 2) hxn (by omega)).mono (fun e w' q=>⟨q.1,H1.out.below q.2,q.2⟩)
   have hrise:Hp.rise rkE (r+1) f' (x+1)=if rkE (f' (x+1))<rkE (f' (x / 2)) then Hp.rise rkE r (Hp.swp f' (x+1) (x / 2)) (x / 2) else f':=by
    rw[Hp.rise,if_neg (by omega),Nat.add_sub_cancel]
   have H4:Hid (F=if rkE (f' (x+1))<rkE (f' (x / 2)) then Hp.rise rkE r (Hp.swp f' (x+1) (x / 2)) (x / 2) else f'):=H2.out.symm.trans hrise;clear H2 hrise
   by_cases ht:rkE (f' (x+1))<rkE (f' (x / 2))
   ·rw[if_pos ht] at H4
    rw[decide_eq_true ht] at HC;clear ht;go_wp2_with (first|(go_at_call 182;refine(HC.out _ _ (by omega) (by omega)).mono ?_;rintro e w2 ⟨rfl,h2,hb2⟩;have HC2:Hid (∀X P:Int,X=((x+1:Nat):Int)->P=((x / 2:Nat):Int)->Calls Tryz.prog 157 #[.pointer (some ⟨T,0,none⟩),.int .i64 X,.int .i64 P] w2 fun e w'=>e= .returned (.tuple #[])/\zAK w' T mb (.slice (some ⟨g,0,none⟩) n cap) room births n (Hp.swp f' (x+1) (x / 2))/\Trn (Ows T mb (.slice (some ⟨g,0,none⟩) n cap)) w2 w'):=(fun X P hX hP=>(by subst hX hP;exact zEv w2 h2 (x+1) (x / 2) hxn (by omega)));have HB2:=hid hb2;clear h2 hb2)|(go_at_call 157;refine(HC2.out _ _ (by omega) (by omega)).mono ?_;rintro e w3 ⟨rfl,h3,ht3⟩;have HT3:=hid h3;have HR3:=hid ht3;clear h3 ht3));go_roundg r
    case measure=>omega
    case rel=>exact⟨x / 2,_,by omega,by omega,by first|rfl|(congr 1;omega),HT3,H4.out.symm,(H3.out.trans (Trn.below HB2.out) (fun _ _ q=>q)).trans HR3.out (fun _ _ q=>q)⟩
   ·rw[if_neg ht] at H4
    rw[decide_eq_false ht] at HC;clear ht;go_wp2_with (go_at_call 182;refine(HC.out _ _ (by omega) (by omega)).mono ?_;rintro e w2 ⟨rfl,h2,hb2⟩;have HT2:=hid h2;have HB2:=hid hb2;clear h2 hb2);refine bodyPost_ret (v:= .tuple #[]) (results_none rfl _ _ _) rfl ?_;exact⟨rfl,HT2.out.congr H4.out.symm,H3.out.trans (Trn.below HB2.out) (fun _ _ q=>q)⟩
def lst (n:Nat) (f:Nat->En) (a:Nat):Nat->Nat
 |0=>a
 |d+1=>if 2*a+1+d<n/\rkE (f (2*a+1+d))<rkE (f (lst n f a d)) then 2*a+1+d else lst n f a d
theorem zQY (n:Nat) (f:Nat->En) (a:Nat):lst n f a 2=Hp.least rkE n f a:=rfl
theorem zPl {n:Nat} {f:Nat->En} {a:Nat} (ha:a<n):∀d,lst n f a d<n
 |0=>ha
 |d+1=>by unfold lst;split
          ·rename_i q;exact q.1
          ·exact zPl ha d
theorem zQZ {n:Nat} {f:Nat->En} {a d:Nat} (hd:d<=2) (h:n<=2*a+1+d):lst n f a d=Hp.least rkE n f a:=by
 rw[<-zQY];have s:∀e,n<=2*a+1+e->lst n f a (e+1)=lst n f a e:=fun e he=>by rw[lst,if_neg (by omega)]
 have:d=0\/d=1\/d=2:=by omega
 rcases this with rfl|rfl|rfl
 ·rw[s 1 (by omega),s 0 (by omega)]
 ·rw[s 1 (by omega)]
 ·rfl
theorem zKF {T mb g n cap room births:Nat} {f:Nat->En} (w:World) (h:zAK w T mb (.slice (some ⟨g,0,none⟩) n cap) room births n f) (k a:Nat) (hk:n<=k+a) (ha:a<n):
 Calls Tryz.prog 158 #[.pointer (some ⟨T,0,none⟩),.int .i64 (a:Int)] w fun e w'=>e= .returned (.tuple #[])/\zAK w' T mb (.slice (some ⟨g,0,none⟩) n cap) room births n (Hp.sink rkE n k f a)/\Trn (Ows T mb (.slice (some ⟨g,0,none⟩) n cap)) w w':=by
 obtain⟨F,hF⟩:∃F,Hp.sink rkE n k f a=F:=⟨_,rfl⟩;rw[hF];have hn:n<=64:=Nat.le_trans h.le h.big;have HT:=hid h;have HF:=hid hF;clear h hF;go_enter Tryz.func158,Tryz.ntmps158;go_wp2_with fail;go_loopg [1] k (fun r s1 wx=>∃(x:Nat) (f':Nat->En),n<=r+x/\x<n/\s1= .int .i64 (x:Int)/\Hid (zAK wx T mb (.slice (some ⟨g,0,none⟩) n cap) room births n f')/\Hid (Hp.sink rkE n r f' x=F)/\Hid (Trn (Ows T mb (.slice (some ⟨g,0,none⟩) n cap)) w wx))
 case atStart=>exact⟨a,f,hk,ha,rfl,HT,HF,Trn.refl _ _⟩
 case round=>
  obtain⟨x,f',hxr,hxn,rfl,H1,H2,H3⟩:=hrel;obtain⟨r,rfl⟩:∃r,gk=r+1:=⟨gk-1,by omega⟩;have H4:Hid (F=if Hp.least rkE n f' x=x then f' else Hp.sink rkE n r (Hp.swp f' x (Hp.least rkE n f' x)) (Hp.least rkE n f' x)):=H2.out.symm.trans rfl;have HL:=Hp.least_cases rkE n f' x;have HLl:Hp.least rkE n f' x<n:=by omega
  clear H2;go_wp2_with fail;go_loopg [4,5] 2 (fun q s4 s5 wx=>∃d:Nat,d+q=2/\s5= .int .i64 ((2*x+1+d:Nat):Int)/\s4= .int .i64 ((lst n f' x d:Nat):Int)/\Hid (zAK wx T mb (.slice (some ⟨g,0,none⟩) n cap) room births n f')/\Hid (Trn (Ows T mb (.slice (some ⟨g,0,none⟩) n cap)) w wx))
  case atStart=>exact⟨0,rfl,by first|rfl|(congr 1;omega),by first|rfl|(congr 1;omega),H1,H3⟩
  case round=>
   obtain⟨d,hdq,rfl,rfl,G1,G3⟩:=hrel;have hT3:=G1.out.blk.cell 3 _ rfl;obtain⟨l,hl⟩:∃l,lst n f' x d=l:=⟨_,rfl⟩;obtain⟨c,hc⟩:∃c,2*x+1+d=c:=⟨_,rfl⟩;have hln:l<n:=by rw[<-hl];exact zPl hxn d
   have HLD:=hid hl;have HCD:Hid (2*x+1+d=c):=hc;rw[hl,hc]
   by_cases hout:gk=0\/n<=c
   ·have HLE:Hid (l=Hp.least rkE n f' x):=by
     rcases hout with q|q
     ·have:d=2:=by omega
      subst this;exact hl.symm
     ·exact hl.symm.trans (zQZ (by omega) (by omega))
    by_cases hz:gk=0
    ·have t1:¬((c:Int)<=2*(x:Int)+2):=by omega
     clear hl hc hout
     by_cases hq:Hp.least rkE n f' x=x
     ·rw[if_pos hq] at H4
      have HQ:=hid hq;have hqb:((l:Int) == (x:Int))=true:=by rw[HLE.out,hq];simp
      clear hq HL HLl;go_wp2_with fail;refine bodyPost_ret (v:= .tuple #[]) (results_none rfl _ _ _) rfl ?_;exact⟨rfl,G1.out.congr H4.out.symm,G3.out⟩
     ·rw[if_neg hq] at H4
      have hqb:((l:Int) == (x:Int))=false:=by rw[HLE.out];simp;omega
      have HC2:Hid (∀X P:Int,X=((x:Nat):Int)->P=((l:Nat):Int)->Calls Tryz.prog 157 #[.pointer (some ⟨T,0,none⟩),.int .i64 X,.int .i64 P] wr fun e w'=>e= .returned (.tuple #[])/\zAK w' T mb (.slice (some ⟨g,0,none⟩) n cap) room births n (Hp.swp f' x l)/\Trn (Ows T mb (.slice (some ⟨g,0,none⟩) n cap)) wr w'):=fun X P hX hP=>by subst hX hP;exact zEv wr G1.out x l hxn hln
      have hll:n<=r+l:=by rw[HLE.out];omega
      clear hq HL HLl;go_wp2_with (go_at_call 157;refine(HC2.out _ _ (by omega) (by omega)).mono ?_;rintro e w3 ⟨rfl,h3,ht3⟩;have HT3:=hid h3;have HR3:=hid ht3;clear h3 ht3);go_roundg r
      case measure=>omega
      case rel=>exact⟨l,_,hll,hln,by first|rfl|(congr 1;omega),HT3,(by rw[HLE.out];exact H4.out.symm),G3.out.trans HR3.out (fun _ _ q=>q)⟩
    ·have t1:(c:Int)<=2*(x:Int)+2:=by omega
     have t2:¬((c:Int)<(n:Int)):=by omega
     clear hl hc hout
     by_cases hq:Hp.least rkE n f' x=x
     ·rw[if_pos hq] at H4
      have HQ:=hid hq;have hqb:((l:Int) == (x:Int))=true:=by rw[HLE.out,hq];simp
      clear hq HL HLl;go_wp2_with fail;refine bodyPost_ret (v:= .tuple #[]) (results_none rfl _ _ _) rfl ?_;exact⟨rfl,G1.out.congr H4.out.symm,G3.out⟩
     ·rw[if_neg hq] at H4
      have hqb:((l:Int) == (x:Int))=false:=by rw[HLE.out];simp;omega
      have HC2:Hid (∀X P:Int,X=((x:Nat):Int)->P=((l:Nat):Int)->Calls Tryz.prog 157 #[.pointer (some ⟨T,0,none⟩),.int .i64 X,.int .i64 P] wr fun e w'=>e= .returned (.tuple #[])/\zAK w' T mb (.slice (some ⟨g,0,none⟩) n cap) room births n (Hp.swp f' x l)/\Trn (Ows T mb (.slice (some ⟨g,0,none⟩) n cap)) wr w'):=fun X P hX hP=>by subst hX hP;exact zEv wr G1.out x l hxn hln
      have hll:n<=r+l:=by rw[HLE.out];omega
      clear hq HL HLl;go_wp2_with (go_at_call 157;refine(HC2.out _ _ (by omega) (by omega)).mono ?_;rintro e w3 ⟨rfl,h3,ht3⟩;have HT3:=hid h3;have HR3:=hid ht3;clear h3 ht3);go_roundg r
      case measure=>omega
      case rel=>exact⟨l,_,hll,hln,by first|rfl|(congr 1;omega),HT3,(by rw[HLE.out];exact H4.out.symm),G3.out.trans HR3.out (fun _ _ q=>q)⟩
   ·obtain⟨q,rfl⟩:∃q,gk=q+1:=⟨gk-1,by omega⟩
    have t1:(c:Int)<=2*(x:Int)+2:=by omega
    have t2:(c:Int)<(n:Int):=by omega
    have hcn:c<n:=by omega
    have HNX:Hid (lst n f' x (d+1)=if rkE (f' c)<rkE (f' l) then c else l):=by
     show lst n f' x (d+1)=_
     rw[lst,hl,hc]
     by_cases q:rkE (f' c)<rkE (f' l)
     ·rw[if_pos ⟨hcn,q⟩,if_pos q]
     ·rw[if_neg (fun z=>q z.2),if_neg q]
    have HC:Hid (∀X P:Int,X=((c:Nat):Int)->P=((l:Nat):Int)->Calls Tryz.prog 182 #[.pointer (some ⟨T,0,none⟩),.int .i64 X,.int .i64 P] wr fun e w'=>e= .returned (.bool (decide (rkE (f' c)<rkE (f' l))))/\zAK w' T mb (.slice (some ⟨g,0,none⟩) n cap) room births n f'/\Below wr.heap.size wr w'):=fun X P hX hP=>by
     subst hX hP;exact(zH3 wr G1.out c l hcn hln).mono (fun e w' q=>⟨q.1,G1.out.below q.2,q.2⟩)
    have hc1:2*x+1+(d+1)=c+1:=by omega
    have HC1:=hid hc1;have hcs:c<200:=by omega
    clear hl hc hout hc1 HL HLl
    by_cases ht:rkE (f' c)<rkE (f' l)
    ·rw[if_pos ht] at HNX
     rw[decide_eq_true ht] at HC;clear ht;go_wp2_with (go_at_call 182;refine(HC.out _ _ (by omega) (by omega)).mono ?_;rintro e w2 ⟨rfl,h2,hb2⟩;have HT2:=hid h2;have HB2:=hid hb2;clear h2 hb2);go_roundg q
     case measure=>omega
     case rel=>exact⟨d+1,by omega,(by rw[HC1.out];rfl),(by rw[HNX.out]),HT2,G3.out.trans (Trn.below HB2.out) (fun _ _ q=>q)⟩
    ·rw[if_neg ht] at HNX
     rw[decide_eq_false ht] at HC;clear ht;go_wp2_with (go_at_call 182;refine(HC.out _ _ (by omega) (by omega)).mono ?_;rintro e w2 ⟨rfl,h2,hb2⟩;have HT2:=hid h2;have HB2:=hid hb2;clear h2 hb2);go_roundg q
     case measure=>omega
     case rel=>exact⟨d+1,by omega,(by rw[HC1.out];rfl),(by rw[HNX.out]),HT2,G3.out.trans (Trn.below HB2.out) (fun _ _ q=>q)⟩
theorem zKx {T mb g cap room births:Nat} {f:Nat->En} (w:World) (h:zAK w T mb (.slice (some ⟨g,0,none⟩) 0 cap) room births 0 f):
 Calls Tryz.prog 158 #[.pointer (some ⟨T,0,none⟩),.int .i64 0] w fun e w'=>e= .returned (.tuple #[])/\w'=w:=by
 have hT3:=h.blk.cell 3 _ rfl;clear h;go_enter Tryz.func158,Tryz.ntmps158;go_wp2_with fail;go_loopg [1] 1 (fun r s1 wx=>s1= .int .i64 0/\w=wx)
 case atStart=>exact⟨rfl,rfl⟩
 case round=>
  obtain⟨rfl,rfl⟩:=hrel;go_wp2_with fail;go_loopg [4,5] 1 (fun q s4 s5 wx=>s4= .int .i64 0/\s5= .int .i64 1/\w=wx)
  case atStart=>exact⟨rfl,rfl,rfl⟩
  case round=>
   obtain⟨rfl,rfl,rfl⟩:=hrel;go_wp2_with fail;refine bodyPost_ret (v:= .tuple #[]) (results_none rfl _ _ _) rfl ?_;exact⟨rfl,rfl⟩
theorem zKy {T mb g n cap room births:Nat} {f:Nat->En} (w:World) (h:zAK w T mb (.slice (some ⟨g,0,none⟩) n cap) room births n f) (a:Nat) (ha:a<n):
 Calls Tryz.prog 180 #[.pointer (some ⟨T,0,none⟩),.int .i64 (a:Int)] w fun e w'=>e= .returned (.tuple #[])/\zAK w' T mb (.slice (some ⟨g,0,none⟩) n cap) room births n (Hp.settle rkE n f a)/\Trn (Ows T mb (.slice (some ⟨g,0,none⟩) n cap)) w w':=by
 have HR:=hid (zKE w h n a (by omega) ha);clear h;go_enter Tryz.func180,Tryz.ntmps180;go_wp2_with (first|(go_at_call 208;refine HR.out.mono ?_;rintro e w2 ⟨rfl,h2,t2⟩;have HS:=hid (zKF w2 h2 n a (by omega) ha);have T2:=hid t2;clear h2 t2)|(go_at_call 158;refine HS.out.mono ?_;rintro e w3 ⟨rfl,h3,t3⟩;have HT3:=hid h3;have T3:=hid t3;clear h3 t3));go_end0;exact⟨rfl,HT3.out,T2.out.trans T3.out (fun _ _ q=>q)⟩
theorem zAR.less {W:World} {g n m cap:Nat} {f:Nat->En} (h:zAR W g n cap f) (hm:m<=n):zAR W g m cap f:=by
 obtain⟨cur,hh,a,b,c,d⟩:=h;exact⟨cur,hh,a,by omega,c,fun i hi k v hv=>d i (by omega) k v hv⟩
theorem zAK.less {T mb g n cap room births:Nat} {f:Nat->En} {W1 W2:World} (h:zAK W1 T mb (.slice (some ⟨g,0,none⟩) (n+1) cap) room births (n+1) f) (hg:W1.drew.grownBy W2 (some mb)) (hp:Plc W2 mb (fun x y=>x≠(f n).k/\(y<n+1/\(f y).k=x))):
 zAK (W2.setCell ⟨T,3,none⟩ (.slice (some ⟨g,0,none⟩) n cap)) T mb (.slice (some ⟨g,0,none⟩) n cap) room births n f/\Trn (Ows T mb (.slice (some ⟨g,0,none⟩) n cap)) W1 (W2.setCell ⟨T,3,none⟩ (.slice (some ⟨g,0,none⟩) n cap)):=by
 obtain⟨gT,gm⟩:=h.tr g rfl;have hT2:W2.heap[T]? =W1.heap[T]? :=hg.block T h.blk.lt (fun q=>h.tm (by cases q;rfl));have hg2:W2.heap[g]? =W1.heap[g]? :=hg.block g h.ents.lt (fun q=>gm (by cases q;rfl));have apart:∀a b,a<n+1->b<n+1->(f a).k=(f b).k->a=b:=fun a b ha hb e=>h.map.fn ⟨ha,e⟩ ⟨hb,rfl⟩
 have hB:Blk 263 W2 T [.int .i64 (room:Int),.int .u64 (births:Int),.map (some mb),.slice (some ⟨g,0,none⟩) (n+1) cap]:=⟨hT2.trans h.blk.1,h.blk.2⟩;have oth:∀m,m≠T->(W2.setCell ⟨T,3,none⟩ (.slice (some ⟨g,0,none⟩) n cap)).heap[m]? =W2.heap[m]? :=fun m hm=>by
  simp only[World.setCell,Array.getElem?_modify];rw[if_neg (fun q=>hm q.symm)]
 refine⟨⟨hB.set 3 _,.inr ⟨g,cap,rfl,((h.ents.same hg2).less (by omega)).same (oth g gT)⟩,(hp.same (oth mb (fun q=>h.tm q.symm))).congr (fun x y=> ?_),fun i hi=>h.wf i (by omega),fun i hi=>h.ns i (by omega),h.tm,fun x hx=>h.tr x hx,by have:=h.le;omega,h.big⟩,?_⟩
 ·constructor
  ·rintro⟨q,hy,rfl⟩
   refine⟨?_,rfl⟩
   by_cases e:y=n
   ·subst e;exact absurd rfl q
   ·omega
  ·rintro⟨hy,rfl⟩
   exact⟨fun q=>absurd (apart y n (by omega) (by omega) q) (by omega),by omega,rfl⟩
 ·exact((Trn.drew _ _).trans (Trn.grown hg (.inr (.inl rfl))) (fun _ _ q=>q)).trans (Trn.setCell _ _ _ _ (.inl rfl)) (fun _ _ q=>q)
theorem zKz {T mb g n cap room births:Nat} {f:Nat->En} (w:World) (h:zAK w T mb (.slice (some ⟨g,0,none⟩) n cap) room births n f):
 Calls Tryz.prog 158 #[.pointer (some ⟨T,0,none⟩),.int .i64 0] w fun e w'=>e= .returned (.tuple #[])/\zAK w' T mb (.slice (some ⟨g,0,none⟩) n cap) room births n (Hp.sink rkE n n f 0)/\Trn (Ows T mb (.slice (some ⟨g,0,none⟩) n cap)) w w':=by
 cases n with
 |zero=>exact(zKx w h).mono (fun e w' q=>⟨q.1,by rw[q.2];exact h,by rw[q.2];exact Trn.refl _ _⟩)
 |succ n=>exact zKF w h (n+1) 0 (by omega) (by omega)
theorem zAR.key {W:World} {g n cap:Nat} {f:Nat->En} (h:zAR W g n cap f) {i:Nat} (hi:i<n) {la lp ha hp p:Int} (hk:(f i).k=⟨la,lp,ha,hp,p⟩):W.cell? ⟨g,i*14,none⟩=some (.int .u32 la)/\W.cell? ⟨g,i*14+1,none⟩=some (.int .u16 lp)/\W.cell? ⟨g,i*14+2,none⟩=some (.int .u32 ha)/\W.cell? ⟨g,i*14+3,none⟩=some (.int .u16 hp)/\W.cell? ⟨g,i*14+4,none⟩=some (.int .u8 p):=by
 have e:(f i).l=(En.mk ⟨la,lp,ha,hp,p⟩ (f i).v (f i).n).l:=by rw[<-hk]
 exact⟨h.cell hi 0 _ (by rw[e];rfl),h.cell hi 1 _ (by rw[e];rfl),h.cell hi 2 _ (by rw[e];rfl),h.cell hi 3 _ (by rw[e];rfl),h.cell hi 4 _ (by rw[e];rfl)⟩
theorem zDz {T mb g n cap room births:Nat} {f:Nat->En} (w:World) (h:zAK w T mb (.slice (some ⟨g,0,none⟩) (n+1) cap) room births (n+1) f):
 Calls Tryz.prog 134 #[.pointer (some ⟨T,0,none⟩)] w fun e w'=>e= .returned (.tuple #[])/\zAK w' T mb (.slice (some ⟨g,0,none⟩) n cap) room births n (Hp.dropFirst rkE n f)/\Trn (Ows T mb (.slice (some ⟨g,0,none⟩) n cap)) w w':=by
 have hT3:=h.blk.cell 3 _ rfl;have hnn:n+1<=64:=Nat.le_trans h.le h.big;obtain⟨gT,gm⟩:=h.tr g rfl;have hcap:n+1<=cap:=by obtain⟨_,_,_,q,_⟩:=h.ents;exact q
 have HS:Hid (∀X P:Int,X=((0:Nat):Int)->P=((n:Nat):Int)->Calls Tryz.prog 157 #[.pointer (some ⟨T,0,none⟩),.int .i64 X,.int .i64 P] w fun e w'=>e= .returned (.tuple #[])/\zAK w' T mb (.slice (some ⟨g,0,none⟩) (n+1) cap) room births (n+1) (Hp.swp f 0 n)/\Trn (Ows T mb (.slice (some ⟨g,0,none⟩) n cap)) w w'):=fun X P hX hP=>by subst hX hP;exact zEv w h 0 n (by omega) (by omega)
 clear h;obtain⟨F,hF⟩:∃F,Hp.swp f 0 n=F:=⟨_,rfl⟩;have HD:Hid (Hp.dropFirst rkE n f=Hp.sink rkE n n F 0):=by show Hp.dropFirst rkE n f=_;rw[<-hF];rfl
 rw[hF] at HS;clear hF;go_enter Tryz.func134,Tryz.ntmps134;go_upto_region 2 with(go_at_call 157;refine(HS.out _ _ (by omega) (by omega)).mono ?_;rintro e w2 ⟨rfl,h2,t2⟩;have H2:=hid h2;have T2:=hid t2;clear h2 t2)
 obtain⟨⟨la,lp,ha,hp,kp⟩,hky⟩:∃ky,(F n).k=ky:=⟨_,rfl⟩;obtain⟨k0,k1,k2,k3,k4⟩:=H2.out.ents.key (Nat.lt_succ_self n) hky;have hwf:Ky.Wf ⟨la,lp,ha,hp,kp⟩:=by rw[<-hky];exact H2.out.wf n (by omega)
 obtain⟨W3,hr3,hP3,hg3⟩:=Plc.drop (W:=w2.drew) (H2.out.map.same rfl) hwf 0;dsimp only[Ky.cells] at hr3;have HP3:Hid (Plc W3 mb (fun x y=>x≠(F n).k/\(y<n+1/\(F y).k=x))):=by rw[hky];exact hP3
 have HG3:=hid hg3;have hT2:=H2.out.blk.cell 2 _ rfl;have hT3':=H2.out.blk.cell 3 _ rfl;have i1:(0:Int)<=(n:Int):=by omega
 have i2:(n:Int)<((n+1:Nat):Int):=by omega
 clear hT3 hky hP3 hg3;go_cut [23] from 12 to 22 (fun _ w'=>w'=W3)
 case first=>
  go_big_region;go_wp2_with fail;go_meet;rfl
 subst hcut;clear hr3 hT2 hT3' k0 k1 k2 k3 k4;have HL:Hid (_/\_):=H2.out.less HG3.out HP3.out;have hB3:wc.heap[T]? =w2.heap[T]? :=HG3.out.block T H2.out.blk.lt (fun q=>H2.out.tm (by cases q;rfl));have hT3:wc.cell? ⟨T,3,none⟩=some (.slice (some ⟨g,0,none⟩) (n+1) cap):=(World.cell?_of_block (a:=⟨T,3,none⟩) hB3).trans (H2.out.blk.cell 3 _ rfl);have fT3:wc.frozen? ⟨T,3,none⟩=false:=(World.frozen?_of_block (a:=⟨T,3,none⟩) hB3).trans (H2.out.blk.frozen 3);clear hB3;go_upto_region 4 with fail
 generalize wc.setCell ⟨T,3,none⟩ (.slice (some ⟨g,0,none⟩) n cap)=W4 at HL ⊢;have HK:=hid (zKz W4 HL.out.1);clear hT3 fT3;go_wp2_with (go_at_call 158;refine HK.out.mono ?_;rintro e w5 ⟨rfl,h5,t5⟩);go_end0;exact⟨rfl,h5.congr HD.out.symm,(T2.out.trans HL.out.2 (fun _ _ q=>q)).trans t5 (fun _ _ q=>q)⟩
end Go.Proofs.YtclpnafiiobfhaaGreatDoor

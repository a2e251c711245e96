import Derived.WalkSpells
set_option linter.unusedVariables false
set_option linter.unusedSimpArgs false
namespace Go.Proofs.YtclpnafiiobfhaaGreatDoor.Hp
def swp {α:Type} (f:Nat->α) (a b:Nat):Nat->α:=fun i=>if i=a then f b else if i=b then f a else f i
theorem swp_left {α:Type} (f:Nat->α) (a b:Nat):swp f a b a=f b:=by simp[swp]
theorem swp_right {α:Type} (f:Nat->α) (a b:Nat):swp f a b b=f a:=by
 unfold swp;split<;>simp_all
theorem swp_other {α:Type} (f:Nat->α) (a b i:Nat) (h1:i≠a) (h2:i≠b):swp f a b i=f i:=by simp[swp,h1,h2]
def Heapy (n:Nat) (r:Nat->Nat):Prop:=∀i,0<i->i<n->r ((i-1) / 2)<=r i
def Up (n at':Nat) (r:Nat->Nat):Prop:=(∀i,0<i->i<n->i≠at'->r ((i-1) / 2)<=r i)/\(0<at'->∀i,0<i->i<n->(i-1) / 2=at'->r ((at'-1) / 2)<=r i)
def Down (n at':Nat) (r:Nat->Nat):Prop:=(∀i,0<i->i<n->(i-1) / 2≠at'->r ((i-1) / 2)<=r i)/\(0<at'->∀i,0<i->i<n->(i-1) / 2=at'->r ((at'-1) / 2)<=r i)
theorem Heapy.first {n:Nat} {r:Nat->Nat} (h:Heapy n r):∀i,i<n->r 0<=r i:=by
 intro i
 induction i using Nat.strongRecOn with
 |_ i ih=>
  intro hi
  by_cases h0:i=0
  ·subst h0;exact Nat.le_refl _
  ·exact Nat.le_trans (ih ((i-1) / 2) (by omega) (by omega)) (h i (by omega) hi)
theorem Heapy.less {n m:Nat} {r:Nat->Nat} (h:Heapy n r) (hm:m<=n):Heapy m r:=fun i h0 hi=>h i h0 (by omega)
theorem Heapy.same {n:Nat} {r s:Nat->Nat} (h:Heapy n r) (e:∀i,i<n->r i=s i):Heapy n s:=fun i h0 hi=>by
 rw[<-e i hi,<-e _ (by omega)];exact h i h0 hi
theorem Up.top {n:Nat} {r:Nat->Nat} (h:Up n 0 r):Heapy n r:=fun i h0 hi=>h.1 i h0 hi (by omega)
theorem Up.stop {n a:Nat} {r:Nat->Nat} (h:Up n a r) (hs:r ((a-1) / 2)<=r a):Heapy n r:=fun i h0 hi=>by
 by_cases e:i=a
 ·subst e;exact hs
 ·exact h.1 i h0 hi e
theorem Up.swap {n a:Nat} {r:Nat->Nat} (h:Up n a r) (h0:0<a) (ha:a<n) (hs:r a<r ((a-1) / 2)):Up n ((a-1) / 2) (swp r a ((a-1) / 2)):=by
 have hp:(a-1) / 2<a:=by omega
 constructor
 ·intro i i0 hi hne
  by_cases e:i=a
  ·subst e
   rw[swp_left,swp_right];omega
  ·rw[swp_other r _ _ i e hne]
   by_cases e2:(i-1) / 2=a
   ·rw[e2,swp_left];exact h.2 h0 i i0 hi e2
   ·by_cases e3:(i-1) / 2=(a-1) / 2
    ·rw[e3,swp_right]
     have:=h.1 i i0 hi e;rw[e3] at this;omega
    ·rw[swp_other r _ _ _ e2 e3];exact h.1 i i0 hi e
 ·intro hp0 i i0 hi hip
  have q:(((a-1) / 2)-1) / 2≠a/\(((a-1) / 2)-1) / 2≠(a-1) / 2:=by omega
  rw[swp_other r _ _ _ q.1 q.2];have hpp:=h.1 ((a-1) / 2) hp0 (by omega) (by omega)
  by_cases e:i=a
  ·subst e;rw[swp_left];exact hpp
  ·rw[swp_other r _ _ i e (by omega)]
   have:=h.1 i i0 hi e;rw[hip] at this;omega
theorem Down.stop {n a:Nat} {r:Nat->Nat} (h:Down n a r) (hs:∀c,0<c->c<n->(c-1) / 2=a->r a<=r c):Heapy n r:=fun i h0 hi=>by
 by_cases e:(i-1) / 2=a
 ·rw[e];exact hs i h0 hi e
 ·exact h.1 i h0 hi e
theorem Down.swap {n a c:Nat} {r:Nat->Nat} (h:Down n a r) (hc0:0<c) (hc:c<n) (hp:(c-1) / 2=a) (hl:r c<r a) (hm:∀d,0<d->d<n->(d-1) / 2=a->r c<=r d):Down n c (swp r a c):=by
 have hac:a<c:=by omega
 constructor
 ·intro i i0 hi hne
  by_cases e:i=a
  ·subst e
   rw[swp_left,swp_other r _ _ _ (by omega) (by omega)];have:=h.2 i0 c hc0 hc hp;exact this
  ·by_cases e1:i=c
   ·subst e1
    rw[hp,swp_left,swp_right];omega
   ·rw[swp_other r _ _ i e e1]
    by_cases e2:(i-1) / 2=a
    ·rw[e2,swp_left];exact hm i i0 hi e2
    ·rw[swp_other r _ _ _ e2 hne];exact h.1 i i0 hi e2
 ·intro _ i i0 hi hip
  rw[hp,swp_left,swp_other r _ _ i (by omega) (by omega)];have:=h.1 i i0 hi (by omega);rw[hip] at this;exact this
theorem Heapy.down {n a:Nat} {r:Nat->Nat} (h:Heapy n r):Down n a r:=⟨fun i h0 hi _=>h i h0 hi,fun h0 i i0 hi e=>by
 have h1:=h i i0 hi;rw[e] at h1;exact Nat.le_trans (h a h0 (by omega)) h1⟩
theorem Heapy.last {n:Nat} {r:Nat->Nat} (h:Heapy (n+1) r):Down n 0 (swp r 0 n):=by
 constructor
 ·intro i i0 hi hne
  rw[swp_other r _ _ i (by omega) (by omega),swp_other r _ _ _ hne (by omega)];exact h i i0 (by omega)
 ·intro h0;omega
theorem Heapy.more {n:Nat} {r:Nat->Nat} (h:Heapy n r):Up (n+1) n r:=⟨fun i i0 hi hne=>h i i0 (by omega),fun _ i i0 hi e=>by omega⟩
theorem Heapy.turn {n a:Nat} {r s:Nat->Nat} (h:Heapy n r) (e:∀i,i≠a->s i=r i) (hl:s a<=r a):Up n a s:=by
 constructor
 ·intro i i0 hi hne
  rw[e i hne]
  by_cases q:(i-1) / 2=a
  ·rw[q];have:=h i i0 hi;rw[q] at this;omega
  ·rw[e _ q];exact h i i0 hi
 ·intro h0 i i0 hi q
  rw[e i (by omega),e _ (by omega)];have h1:=h i i0 hi;rw[q] at h1;exact Nat.le_trans (h a h0 (by omega)) h1
theorem Heapy.turnDown {n a:Nat} {r s:Nat->Nat} (h:Heapy n r) (e:∀i,i≠a->s i=r i) (hl:r a<=s a):Down n a s:=by
 constructor
 ·intro i i0 hi hne
  rw[e _ hne]
  by_cases q:i=a
  ·subst q;exact Nat.le_trans (h i i0 hi) hl
  ·rw[e i q];exact h i i0 hi
 ·intro h0 i i0 hi q
  rw[e i (by omega),e _ (by omega)];have h1:=h i i0 hi;rw[q] at h1;exact Nat.le_trans (h a h0 (by omega)) h1
def rise {α:Type} (rk:α->Nat):Nat->(Nat->α)->Nat->(Nat->α)
 |0,f,_=>f
 |k+1,f,a=>if a=0 then f else if rk (f a)<rk (f ((a-1) / 2)) then rise rk k (swp f a ((a-1) / 2)) ((a-1) / 2) else f
def least {α:Type} (rk:α->Nat) (n:Nat) (f:Nat->α) (a:Nat):Nat:=
 let b:=if 2*a+1<n/\rk (f (2*a+1))<rk (f a) then 2*a+1 else a
 if 2*a+2<n/\rk (f (2*a+2))<rk (f b) then 2*a+2 else b
def sink {α:Type} (rk:α->Nat) (n:Nat):Nat->(Nat->α)->Nat->(Nat->α)
 |0,f,_=>f
 |k+1,f,a=>if least rk n f a=a then f else sink rk n k (swp f a (least rk n f a)) (least rk n f a)
theorem rk_swp {α:Type} (rk:α->Nat) (f:Nat->α) (a b:Nat):(fun i=>rk (swp f a b i))=swp (fun i=>rk (f i)) a b:=by
 funext i;simp only[swp];split
 ·rfl
 ·split<;>rfl
theorem rise_heapy {α:Type} (rk:α->Nat) (n:Nat):∀(k:Nat) (f:Nat->α) (a:Nat),a<=k->a<n->Up n a (fun i=>rk (f i))->Heapy n (fun i=>rk (rise rk k f a i)):=by
 intro k
 induction k with
 |zero=>intro f a hk _ h;obtain rfl:a=0:=by omega
        exact h.top
 |succ k ih=>
  intro f a hk ha h;unfold rise
  split
  ·rename_i e;subst e;exact h.top
  ·split
   ·rename_i e q
    refine ih _ _ (by omega) (by omega) ?_;rw[rk_swp];exact h.swap (by omega) ha q
   ·rename_i e q
    exact h.stop (by simp at q ⊢;exact q)
theorem least_cases {α:Type} (rk:α->Nat) (n:Nat) (f:Nat->α) (a:Nat):least rk n f a=a\/(least rk n f a=2*a+1/\2*a+1<n)\/(least rk n f a=2*a+2/\2*a+2<n):=by
 unfold least;simp only
 by_cases h1:2*a+1<n/\rk (f (2*a+1))<rk (f a)
 ·rw[if_pos h1]
  split
  ·rename_i h;exact .inr (.inr ⟨rfl,h.1⟩)
  ·exact .inr (.inl ⟨rfl,h1.1⟩)
 ·rw[if_neg h1]
  split
  ·rename_i h;exact .inr (.inr ⟨rfl,h.1⟩)
  ·exact .inl rfl
theorem least_le {α:Type} (rk:α->Nat) (n:Nat) (f:Nat->α) (a:Nat):rk (f (least rk n f a))<=rk (f a)/\(2*a+1<n->rk (f (least rk n f a))<=rk (f (2*a+1)))/\(2*a+2<n->rk (f (least rk n f a))<=rk (f (2*a+2)))/\(least rk n f a≠a->rk (f (least rk n f a))<rk (f a)):=by
 unfold least;simp only
 by_cases h1:2*a+1<n/\rk (f (2*a+1))<rk (f a)
 ·rw[if_pos h1]
  by_cases h2:2*a+2<n/\rk (f (2*a+2))<rk (f (2*a+1))
  ·rw[if_pos h2];refine⟨by omega,by omega,by omega,by omega⟩
  ·rw[if_neg h2];refine⟨by omega,by omega,by omega,by omega⟩
 ·rw[if_neg h1]
  by_cases h2:2*a+2<n/\rk (f (2*a+2))<rk (f a)
  ·rw[if_pos h2];refine⟨by omega,by omega,by omega,by omega⟩
  ·rw[if_neg h2];refine⟨by omega,by omega,by omega,by omega⟩
theorem sink_heapy {α:Type} (rk:α->Nat) (n:Nat):∀(k:Nat) (f:Nat->α) (a:Nat),n<=k+a->Down n a (fun i=>rk (f i))->Heapy n (fun i=>rk (sink rk n k f a i)):=by
 intro k
 induction k with
 |zero=>
  intro f a hk h;exact h.stop (fun c c0 hc e=>by omega)
 |succ k ih=>
  intro f a hk h;have hc:=least_cases rk n f a;have hl:=least_le rk n f a;unfold sink
  split
  ·rename_i e
   rw[e] at hl;refine h.stop (fun c c0 hcn hp=> ?_);have:c=2*a+1\/c=2*a+2:=by omega
   rcases this with rfl|rfl
   ·exact hl.2.1 hcn
   ·exact hl.2.2.1 hcn
  ·rename_i e
   have hL:0<least rk n f a/\least rk n f a<n/\(least rk n f a-1) / 2=a/\a<least rk n f a:=by omega
   refine ih _ _ (by omega) ?_;rw[rk_swp];refine h.swap hL.1 hL.2.1 hL.2.2.1 (hl.2.2.2 e) (fun d d0 hd hp=> ?_);have:d=2*a+1\/d=2*a+2:=by omega
   rcases this with rfl|rfl
   ·exact hl.2.1 hd
   ·exact hl.2.2.1 hd
theorem sink_still {α:Type} (rk:α->Nat) (n k:Nat) (f:Nat->α) (a:Nat) (h:Heapy n (fun i=>rk (f i))):sink rk n k f a=f:=by
 cases k with
 |zero=>rfl
 |succ k=>
  unfold sink;have hl:=least_le rk n f a;have hc:=least_cases rk n f a
  split
  ·rfl
  ·rename_i e
   have h1:=h (least rk n f a) (by omega) (by omega);have h2:=hl.2.2.2 e;have h3:(least rk n f a-1) / 2=a:=by omega
   simp only[h3] at h1;omega
def Has {α:Type} (n:Nat) (f:Nat->α) (e:α):Prop:=∃i,i<n/\f i=e
def Apart {α β:Type} (n:Nat) (f:Nat->α) (k:α->β):Prop:=∀i j,i<n->j<n->k (f i)=k (f j)->i=j
theorem has_swp {α:Type} (f:Nat->α) (n a b:Nat) (ha:a<n) (hb:b<n) (e:α):Has n (swp f a b) e↔Has n f e:=by
 constructor
 ·rintro⟨i,hi,rfl⟩
  by_cases h1:i=a
  ·subst h1;exact⟨b,hb,(swp_left _ _ _).symm⟩
  ·by_cases h2:i=b
   ·subst h2;exact⟨a,ha,(swp_right _ _ _).symm⟩
   ·exact⟨i,hi,(swp_other _ _ _ _ h1 h2).symm⟩
 ·rintro⟨i,hi,rfl⟩
  by_cases h1:i=a
  ·subst h1;exact⟨b,hb,swp_right _ _ _⟩
  ·by_cases h2:i=b
   ·subst h2;exact⟨a,ha,swp_left _ _ _⟩
   ·exact⟨i,hi,swp_other _ _ _ _ h1 h2⟩
theorem apart_swp {α β:Type} (f:Nat->α) (k:α->β) (n a b:Nat) (ha:a<n) (hb:b<n) (h:Apart n f k):Apart n (swp f a b) k:=by
 intro i j hi hj e;have q:∀x,x<n->∃y,y<n/\swp f a b x=f y/\(x=a->y=b)/\(x≠a->x=b->y=a)/\(x≠a->x≠b->y=x):=by
  intro x hx
  by_cases h1:x=a
  ·exact⟨b,hb,by rw[h1,swp_left],fun _=>rfl,fun h=>absurd h1 h,fun h=>absurd h1 h⟩
  ·by_cases h2:x=b
   ·exact⟨a,ha,by rw[h2,swp_right],fun h=>absurd h h1,fun _ _=>rfl,fun _ h=>absurd h2 h⟩
   ·exact⟨x,hx,swp_other _ _ _ _ h1 h2,fun h=>absurd h h1,fun _ h=>absurd h h2,fun _ _=>rfl⟩
 obtain⟨y,hy,ey,y1,y2,y3⟩:=q i hi;obtain⟨z,hz,ez,z1,z2,z3⟩:=q j hj;rw[ey,ez] at e;have:=h y z hy hz e;omega
theorem rise_has {α:Type} (rk:α->Nat) (n:Nat):∀(k:Nat) (f:Nat->α) (a:Nat),a<n->∀e,Has n (rise rk k f a) e↔Has n f e:=by
 intro k
 induction k with
 |zero=>intro f a _ e;exact Iff.rfl
 |succ k ih=>
  intro f a ha e;unfold rise
  split
  ·exact Iff.rfl
  ·split
   ·rw[ih _ _ (by omega) e];exact has_swp f n _ _ ha (by omega) e
   ·exact Iff.rfl
theorem rise_apart {α β:Type} (rk:α->Nat) (kf:α->β) (n:Nat):∀(k:Nat) (f:Nat->α) (a:Nat),a<n->Apart n f kf->Apart n (rise rk k f a) kf:=by
 intro k
 induction k with
 |zero=>intro f a _ h;exact h
 |succ k ih=>
  intro f a ha h;unfold rise
  split
  ·exact h
  ·split
   ·exact ih _ _ (by omega) (apart_swp f kf n _ _ ha (by omega) h)
   ·exact h
theorem sink_has {α:Type} (rk:α->Nat) (n:Nat):∀(k:Nat) (f:Nat->α) (a:Nat),a<n->∀e,Has n (sink rk n k f a) e↔Has n f e:=by
 intro k
 induction k with
 |zero=>intro f a _ e;exact Iff.rfl
 |succ k ih=>
  intro f a ha e;have hc:=least_cases rk n f a;unfold sink
  split
  ·exact Iff.rfl
  ·rw[ih _ _ (by omega) e];exact has_swp f n _ _ ha (by omega) e
theorem sink_apart {α β:Type} (rk:α->Nat) (kf:α->β) (n:Nat):∀(k:Nat) (f:Nat->α) (a:Nat),a<n->Apart n f kf->Apart n (sink rk n k f a) kf:=by
 intro k
 induction k with
 |zero=>intro f a _ h;exact h
 |succ k ih=>
  intro f a ha h;have hc:=least_cases rk n f a;unfold sink
  split
  ·exact h
  ·exact ih _ _ (by omega) (apart_swp f kf n _ _ ha (by omega) h)
theorem rise_still {α:Type} (rk:α->Nat) (k:Nat) (f:Nat->α) (a:Nat) (h:∀p,p=(a-1) / 2->0<a->rk (f p)<=rk (f a)):rise rk k f a=f:=by
 cases k with
 |zero=>rfl
 |succ k=>
  unfold rise
  split
  ·rfl
  ·rename_i e
   rw[if_neg (by have:=h _ rfl (by omega);omega)]
def settle {α:Type} (rk:α->Nat) (n:Nat) (f:Nat->α) (a:Nat):Nat->α:=sink rk n n (rise rk n f a) a
theorem settle_heapy {α:Type} (rk:α->Nat) (n:Nat) (f g:Nat->α) (a:Nat) (ha:a<n) (h:Heapy n (fun i=>rk (f i))) (e:∀i,i≠a->g i=f i):Heapy n (fun i=>rk (settle rk n g a i)):=by
 unfold settle
 by_cases hl:rk (g a)<=rk (f a)
 ·have h1:=rise_heapy rk n n g a (by omega) ha (h.turn (s:=fun i=>rk (g i)) (fun i hi=>by simp only[e i hi]) hl)
  rw[sink_still rk n n _ a h1];exact h1
 ·have h2:rise rk n g a=g:=rise_still rk n g a (fun p hp h0=>by
   subst hp;rw[e _ (by omega)];have:=h a h0 ha;simp only at this;omega)
  rw[h2];exact sink_heapy rk n n g a (by omega) (h.turnDown (s:=fun i=>rk (g i)) (fun i hi=>by simp only[e i hi]) (by omega))
theorem settle_has {α:Type} (rk:α->Nat) (n:Nat) (f:Nat->α) (a:Nat) (ha:a<n) (e:α):Has n (settle rk n f a) e↔Has n f e:=by
 unfold settle;rw[sink_has rk n n _ a ha e,rise_has rk n n f a ha e]
theorem settle_apart {α β:Type} (rk:α->Nat) (kf:α->β) (n:Nat) (f:Nat->α) (a:Nat) (ha:a<n) (h:Apart n f kf):Apart n (settle rk n f a) kf:=
 sink_apart rk kf n n _ a ha (rise_apart rk kf n n f a ha h)
def dropFirst {α:Type} (rk:α->Nat) (n:Nat) (f:Nat->α):Nat->α:=sink rk n n (swp f 0 n) 0
theorem dropFirst_heapy {α:Type} (rk:α->Nat) (n:Nat) (f:Nat->α) (h:Heapy (n+1) (fun i=>rk (f i))):Heapy n (fun i=>rk (dropFirst rk n f i)):=by
 unfold dropFirst;refine sink_heapy rk n n _ 0 (by omega) ?_;rw[rk_swp];exact h.last
theorem dropFirst_has {α:Type} (rk:α->Nat) (n:Nat) (f:Nat->α) (hA:Apart (n+1) f id) (e:α):Has n (dropFirst rk n f) e↔(Has (n+1) f e/\e≠f 0):=by
 by_cases hn:n=0
 ·subst hn
  constructor
  ·rintro⟨i,hi,_⟩;omega
  ·rintro⟨⟨i,hi,rfl⟩,hne⟩
   obtain rfl:i=0:=by omega
   exact absurd rfl hne
 ·unfold dropFirst
  rw[sink_has rk n n _ 0 (by omega) e]
  constructor
  ·rintro⟨i,hi,rfl⟩
   by_cases h0:i=0
   ·subst h0
    rw[swp_left];refine⟨⟨n,by omega,rfl⟩,fun q=> ?_⟩;have:=hA n 0 (by omega) (by omega) q;omega
   ·rw[swp_other _ _ _ _ h0 (by omega)]
    refine⟨⟨i,by omega,rfl⟩,fun q=> ?_⟩;have:=hA i 0 (by omega) (by omega) q;omega
  ·rintro⟨⟨i,hi,rfl⟩,hne⟩
   have h0:i≠0:=fun q=>hne (by rw[q])
   by_cases h1:i=n
   ·exact⟨0,by omega,by rw[swp_left,h1]⟩
   ·exact⟨i,by omega,swp_other _ _ _ _ h0 h1⟩
theorem Apart.less {α β:Type} {n m:Nat} {f:Nat->α} {k:α->β} (h:Apart n f k) (hm:m<=n):Apart m f k:=fun i j hi hj e=>h i j (by omega) (by omega) e
theorem dropFirst_apart {α β:Type} (rk:α->Nat) (kf:α->β) (n:Nat) (f:Nat->α) (h:Apart (n+1) f kf):Apart n (dropFirst rk n f) kf:=by
 by_cases hn:n=0
 ·subst hn;intro i j hi;omega
 ·exact sink_apart rk kf n n _ 0 (by omega) ((apart_swp f kf (n+1) 0 n (by omega) (by omega) h).less (by omega))
def put {α:Type} (f:Nat->α) (n:Nat) (e:α):Nat->α:=fun i=>if i=n then e else f i
theorem put_same {α:Type} (f:Nat->α) (n:Nat) (e:α):put f n e n=e:=by simp[put]
theorem put_other {α:Type} (f:Nat->α) (n i:Nat) (e:α) (h:i≠n):put f n e i=f i:=by simp[put,h]
def add {α:Type} (rk:α->Nat) (n:Nat) (f:Nat->α) (e:α):Nat->α:=rise rk n (put f n e) n
theorem add_heapy {α:Type} (rk:α->Nat) (n:Nat) (f:Nat->α) (e:α) (h:Heapy n (fun i=>rk (f i))):Heapy (n+1) (fun i=>rk (add rk n f e i)):=by
 unfold add;refine rise_heapy rk (n+1) n _ n (Nat.le_refl _) (by omega) ?_;exact(h.same (s:=fun i=>rk (put f n e i)) (fun i hi=>by simp only[put_other f n i e (by omega)])).more
theorem add_has {α:Type} (rk:α->Nat) (n:Nat) (f:Nat->α) (e x:α):Has (n+1) (add rk n f e) x↔(Has n f x\/x=e):=by
 unfold add;rw[rise_has rk (n+1) n _ n (by omega) x]
 constructor
 ·rintro⟨i,hi,rfl⟩
  by_cases q:i=n
  ·subst q;exact .inr (put_same f i e)
  ·exact .inl ⟨i,by omega,(put_other f n i e q).symm⟩
 ·rintro(⟨i,hi,rfl⟩|rfl)
  ·exact⟨i,by omega,put_other f n i e (by omega)⟩
  ·exact⟨n,by omega,put_same f n x⟩
theorem add_apart {α β:Type} (rk:α->Nat) (kf:α->β) (n:Nat) (f:Nat->α) (e:α) (h:Apart n f kf) (hn:∀i,i<n->kf (f i)≠kf e):Apart (n+1) (add rk n f e) kf:=by
 unfold add;refine rise_apart rk kf (n+1) n _ n (by omega) ?_;intro i j hi hj q
 by_cases e1:i=n
 ·by_cases e2:j=n
  ·omega
  ·rw[e1,put_same,put_other f n j e e2] at q
   exact absurd q.symm (hn j (by omega))
 ·by_cases e2:j=n
  ·rw[e2,put_same,put_other f n i e e1] at q
   exact absurd q (hn i (by omega))
  ·rw[put_other f n i e e1,put_other f n j e e2] at q
   exact h i j (by omega) (by omega) q
theorem rising_eq {α:Type} (b:α->Nat):∀(l m:List α),l.Pairwise (fun x y=>b x<b y)->m.Pairwise (fun x y=>b x<b y)->(∀e,e ∈ l↔e ∈ m)->l=m:=by
 intro l
 induction l with
 |nil=>
  intro m _ _ h;cases m with
  |nil=>rfl
  |cons y m=>have:=(h y).2 (by simp);simp at this
 |cons x l ih=>
  intro m hl hm h;cases m with
  |nil=>have:=(h x).1 (by simp);simp at this
  |cons y m=>
   have hl':=List.pairwise_cons.1 hl;have hm':=List.pairwise_cons.1 hm;have exy:x=y:=by
    have h1:=(h x).1 (by simp);have h2:=(h y).2 (by simp);rcases List.mem_cons.1 h1 with q|q
    ·exact q
    ·rcases List.mem_cons.1 h2 with r|r
     ·exact r.symm
     ·have a:=hm'.1 x q
      have c:=hl'.1 y r;omega
   subst exy
   congr 1
   refine ih m hl'.2 hm'.2 (fun e=> ?_)
   constructor
   ·intro he
    rcases List.mem_cons.1 ((h e).1 (List.mem_cons_of_mem _ he)) with q|q
    ·subst q;have:=hl'.1 e he;omega
    ·exact q
   ·intro he
    rcases List.mem_cons.1 ((h e).2 (List.mem_cons_of_mem _ he)) with q|q
    ·subst q;have:=hm'.1 e he;omega
    ·exact q
end Go.Proofs.YtclpnafiiobfhaaGreatDoor.Hp
namespace Go.Proofs.YtclpnafiiobfhaaGreatDoor
structure Hd where
 a:Int
 b:Int
 p:Int
 s:Int
 d:Int
 f:Int
structure Fl where
 a:Int
 b:Int
 p:Int
 s:Int
 d:Int
 rep:Bool
 clo:Bool
 u:Nat
structure Ky where
 la:Int
 lp:Int
 ha:Int
 hp:Int
 p:Int
structure En where
 k:Ky
 v:Fl
 n:Nat
def zDO (a s b d:Int):Bool:=if a=b then decide (s<d) else decide (a<b)
def zOh (a s b d p:Int):Ky:=if zDO b d a s=true then⟨b,d,a,s,p⟩ else⟨a,s,b,d,p⟩
def Hd.key (h:Hd):Ky:=zOh h.a h.s h.b h.d h.p
def Fl.key (f:Fl):Ky:=zOh f.a f.s f.b f.d f.p
def zBo (f:Fl) (h:Hd):Nat:=
 if f.p≠h.p then 0
 else if f.a=h.a/\f.s=h.s/\f.b=h.b/\f.d=h.d then 1
 else if f.a=h.b/\f.s=h.d/\f.b=h.a/\f.d=h.s then 2 else 0
def zC7 (f:Fl) (h:Hd):Bool:=decide (h.a=f.b/\h.s=f.d)&& !decide (h.a=f.a/\h.s=f.s)
theorem zKu {a s b d:Int} (h:zDO a s b d=true):zDO b d a s=false:=by
 unfold zDO at*
 by_cases e:a=b
 ·rw[if_pos e] at h;rw[if_pos e.symm];simp at*;omega
 ·rw[if_neg e] at h;rw[if_neg (fun q=>e q.symm)];simp at*;omega
theorem zJF {a s b d:Int} (h:zDO a s b d=false) (g:zDO b d a s=false):a=b/\s=d:=by
 unfold zDO at*
 by_cases e:a=b
 ·rw[if_pos e] at h;rw[if_pos e.symm] at g;simp at*;omega
 ·rw[if_neg e] at h;rw[if_neg (fun q=>e q.symm)] at g;simp at*;omega
theorem zM7 (a s b d p:Int):zOh a s b d p=zOh b d a s p:=by
 unfold zOh;cases h:zDO b d a s with
 |true=>rw[if_pos rfl,if_neg (by rw[zKu h];decide)]
 |false=>
  cases g:zDO a s b d with
  |true=>simp
  |false=>obtain⟨rfl,rfl⟩:=zJF g h;simp
theorem zQU {a s b d p a' s' b' d' p':Int} (h:zOh a s b d p=zOh a' s' b' d' p'):p=p'/\((a=a'/\s=s'/\b=b'/\d=d')\/(a=b'/\s=d'/\b=a'/\d=s')):=by
 unfold zOh at h
 split at h<;>split at h<;>(simp only[Ky.mk.injEq] at h;obtain⟨rfl,rfl,rfl,rfl,rfl⟩:=h;simp)
theorem zGy (f:Fl) (h:Hd):zBo f h≠0↔f.key=h.key:=by
 unfold zBo Fl.key Hd.key
 constructor
 ·intro q
  split at q
  ·exact absurd rfl q
  ·rename_i hp
   have hp:f.p=h.p:=by simpa using hp
   split at q
   ·rename_i e;obtain⟨e1,e2,e3,e4⟩:=e;rw[e1,e2,e3,e4,hp]
   ·split at q
    ·rename_i e;obtain⟨e1,e2,e3,e4⟩:=e;rw[e1,e2,e3,e4,hp];exact zM7 _ _ _ _ _
    ·exact absurd rfl q
 ·intro q
  obtain⟨hp,e⟩:=zQU q;rw[if_neg (by simp[hp])]
  by_cases e1:f.a=h.a/\f.s=h.s/\f.b=h.b/\f.d=h.d
  ·rw[if_pos e1];decide
  ·rw[if_neg e1]
   rcases e with e|e
   ·exact absurd e e1
   ·rw[if_pos e];decide
theorem zHv {f:Fl} {h:Hd} (q:zBo f h≠0):zC7 f h=decide (zBo f h=2):=by
 unfold zBo at q ⊢;unfold zC7
 split at q
 ·exact absurd rfl q
 ·rename_i hp
  rw[if_neg hp]
  split at q
  ·rename_i e;rw[if_pos e];simp;omega
  ·rename_i e
   rw[if_neg e]
   split at q
   ·rename_i e2;rw[if_pos e2];simp;omega
   ·exact absurd rfl q
def zCV (f:Fl):Nat:=
 if f.p=6 then(if f.clo=true then 10 else if f.rep=true then 300 else 30)
 else if f.p=17 then(if f.rep=true then 120 else 60) else if f.p=1 then 20 else 60
def zCr:Nat:=18446744073709551615
def zBO (a b:Nat):Nat:=if zCr<a+b then zCr else a+b
def zDw (h:Hd):Bool:= !(decide (h.p=6)&& !decide (h.f.toNat&&& 23=2))
def zDx (h:Hd):Bool:=decide (h.p=6)&& !decide (h.f.toNat&&& 5=0)
def zGH (f:Fl) (h:Hd) (now:Nat):Fl:=
 let g:Fl:={f with rep:=f.rep||zC7 f h,clo:=f.clo||zDx h}
 {g with u:=zBO now (zCV g)}
def zEc (h:Hd) (now:Nat):Fl:=
 let g:Fl:=⟨h.a,h.b,h.p,h.s,h.d,false,false,0⟩
 {g with u:=zBO now (zCV g)}
def zBR (o:Option Fl) (h:Hd):Nat:=match o with
 |some f=>if(f.rep||zC7 f h)=true then 1 else 0
 |none=>if zDw h=true then 0 else 2
def zBS (F:List Fl) (h:Hd):Option Nat:=F.findIdx? fun f=>decide (zBo f h≠0)
def zKv:List Fl->Nat
 |[]=>0
 |f::r=>if ∃g ∈ r,g.u<f.u then zKv r+1 else 0
def rkE (e:En):Nat:=e.v.u*18446744073709551616+e.n
theorem zPk {x y:En} (hx:x.n<18446744073709551616) (hy:y.n<18446744073709551616):rkE x<rkE y↔(x.v.u<y.v.u\/(x.v.u=y.v.u/\x.n<y.n)):=by
 unfold rkE;omega
structure Rel (n:Nat) (g:Nat->En) (births:Nat) (F:List Fl) (G:List En):Prop where
 len:G.length=n
 vals:G.map (·.v)=F
 rises:G.Pairwise (fun x y=>x.n<y.n)
 has:∀e,e ∈ G↔Hp.Has n g e
 below:∀e ∈ G,e.n<births
 keys:∀e ∈ G,e.k=e.v.key
 one:Hp.Apart n g (fun e=>e.k)
 heap:Hp.Heapy n (fun i=>rkE (g i))
 small:births<18446744073709551616
theorem Rel.flen {n:Nat} {g:Nat->En} {b:Nat} {F:List Fl} {G:List En} (h:Rel n g b F G):F.length=n:=by rw[<-h.vals,List.length_map,h.len]
theorem Rel.start (g:Nat->En):Rel 0 g 0 [] [] where
 len:=rfl
 vals:=rfl
 rises:=List.Pairwise.nil
 has:=fun e=>⟨fun h=>(by cases h),fun⟨i,hi,_⟩=>absurd hi (by omega)⟩
 below:=fun e h=>(by cases h)
 keys:=fun e h=>(by cases h)
 one:=fun i j hi=>absurd hi (by omega)
 heap:=fun i _ hi=>absurd hi (by omega)
 small:=by decide
theorem Rel.births {n:Nat} {g:Nat->En} {b:Nat} {F:List Fl} {G:List En} (h:Rel n g b F G):Hp.Apart n g (fun e=>e.n):=by
 intro i j hi hj e;have mi:=(h.has _).2 ⟨i,hi,rfl⟩;have mj:=(h.has _).2 ⟨j,hj,rfl⟩;have:g i=g j:=by
  obtain⟨x,hx,ex⟩:=List.mem_iff_getElem.1 mi;obtain⟨y,hy,ey⟩:=List.mem_iff_getElem.1 mj;rcases Nat.lt_trichotomy x y with q|q|q
  ·have:=List.pairwise_iff_getElem.1 h.rises x y hx hy q;rw[ex,ey] at this;simp only at e;omega
  ·subst q;rw[<-ex,<-ey]
  ·have:=List.pairwise_iff_getElem.1 h.rises y x hy hx q;rw[ex,ey] at this;simp only at e;omega
 exact h.one i j hi hj (by simp only[this])
theorem Rel.apart {n:Nat} {g:Nat->En} {b:Nat} {F:List Fl} {G:List En} (h:Rel n g b F G):Hp.Apart n g id:=fun i j hi hj e=>h.one i j hi hj (by simp only[id] at e;simp only[e])
theorem Rel.atKey {n:Nat} {g:Nat->En} {b:Nat} {F:List Fl} {G:List En} (h:Rel n g b F G) {i:Nat} (hi:i<n):(g i).k=(g i).v.key:=h.keys _ ((h.has _).2 ⟨i,hi,rfl⟩)
theorem Rel.none {n:Nat} {g:Nat->En} {b:Nat} {F:List Fl} {G:List En} (h:Rel n g b F G) (hd:Hd):zBS F hd=Option.none↔∀i,i<n->(g i).k≠hd.key:=by
 unfold zBS;rw[List.findIdx?_eq_none_iff]
 constructor
 ·intro q i hi e
  have hm:=(h.has _).2 ⟨i,hi,rfl⟩;have:=q (g i).v (by rw[<-h.vals];exact List.mem_map_of_mem hm);rw[h.atKey hi] at e;simp only[decide_eq_false_iff_not] at this;exact this ((zGy _ _).2 e)
 ·intro q f hf
  rw[<-h.vals] at hf;obtain⟨e,he,rfl⟩:=List.mem_map.1 hf;obtain⟨i,hi,rfl⟩:=(h.has e).1 he;simp only[decide_eq_false_iff_not];intro r;exact q i hi ((h.atKey hi).trans ((zGy _ _).1 r))
theorem Rel.some {n:Nat} {g:Nat->En} {b:Nat} {F:List Fl} {G:List En} (h:Rel n g b F G) (hd:Hd) {j:Nat} (hj:j<n) (hk:(g j).k=hd.key):∃i:Nat,∃hi:i<F.length,zBS F hd=Option.some i/\F[i]=(g j).v/\G[i]? =Option.some (g j)/\zBo (g j).v hd≠0:=by
 cases hf:zBS F hd with
 |none=>exact absurd hk ((h.none hd).1 hf j hj)
 |some i=>
  have q:=hf;unfold zBS at q;rw[List.findIdx?_eq_some_iff_getElem] at q;obtain⟨hi,q1,_⟩:=q;simp only[decide_eq_true_eq] at q1;have hG:i<G.length:=by rw[h.len,<-h.flen];exact hi
  have e1:F[i]=(G[i]).v:=by have:=h.vals;subst this;simp
  have hm:G[i] ∈ G:=List.getElem_mem hG;obtain⟨x,hx,ex⟩:=(h.has _).1 hm;have e2:G[i].k=hd.key:=by
   rw[h.keys _ hm];rw[e1] at q1;exact(zGy _ _).1 q1
  have:x=j:=h.one x j hx hj (by simp only[ex,e2,hk]);subst this;refine⟨i,hi,rfl,by rw[e1,ex],by rw[List.getElem?_eq_getElem hG,ex],?_⟩;rw[e1,<-ex] at q1;exact q1
theorem Rel.nodup {n:Nat} {g:Nat->En} {b:Nat} {F:List Fl} {G:List En} (h:Rel n g b F G) {i j:Nat} (hi:i<G.length) (hj:j<G.length) (e:G[i]=G[j]):i=j:=by
 rcases Nat.lt_trichotomy i j with q|q|q
 ·have:=List.pairwise_iff_getElem.1 h.rises i j hi hj q;rw[e] at this;omega
 ·exact q
 ·have:=List.pairwise_iff_getElem.1 h.rises j i hj hi q;rw[e] at this;omega
theorem Rel.turn {n:Nat} {g:Nat->En} {b:Nat} {F:List Fl} {G:List En} (h:Rel n g b F G) {j i:Nat} (hj:j<n) (hG:G[i]? =Option.some (g j)) (f:Fl) (hf:f.key=(g j).v.key):
 Rel n (Hp.settle rkE n (Hp.put g j ⟨(g j).k,f,(g j).n⟩) j) b (F.set i f) (G.set i ⟨(g j).k,f,(g j).n⟩):=by
 obtain⟨hi,hGi⟩:=List.getElem?_eq_some_iff.1 hG;have hset:∀x,Hp.Has n (Hp.put g j ⟨(g j).k,f,(g j).n⟩) x↔(x=⟨(g j).k,f,(g j).n⟩\/∃y,y<n/\y≠j/\g y=x):=by
  intro x
  constructor
  ·rintro⟨y,hy,rfl⟩
   by_cases e:y=j
   ·subst e;exact .inl (Hp.put_same _ _ _)
   ·exact .inr ⟨y,hy,e,(Hp.put_other _ _ _ _ e).symm⟩
  ·rintro(rfl|⟨y,hy,hne,rfl⟩)
   ·exact⟨j,hj,Hp.put_same _ _ _⟩
   ·exact⟨y,hy,Hp.put_other _ _ _ _ hne⟩
 have hmem:∀x,x ∈ G.set i ⟨(g j).k,f,(g j).n⟩↔(x=⟨(g j).k,f,(g j).n⟩\/∃y,y<n/\y≠j/\g y=x):=by
  intro x;rw[List.mem_iff_getElem]
  constructor
  ·rintro⟨y,hy,rfl⟩
   rw[List.getElem_set]
   split
   ·exact .inl rfl
   ·rename_i hne
    have hy':y<G.length:=by rw[List.length_set] at hy;exact hy
    obtain⟨z,hz,ez⟩:=(h.has _).1 (List.getElem_mem hy');refine .inr ⟨z,hz,fun q=>hne ?_,ez⟩;rw[q] at ez;exact(h.nodup hi hy' (by rw[hGi,ez]))
  ·rintro(rfl|⟨y,hy,hne,rfl⟩)
   ·exact⟨i,by rw[List.length_set];exact hi,by simp⟩
   ·obtain⟨z,hz,ez⟩:=List.mem_iff_getElem.1 ((h.has _).2 ⟨y,hy,rfl⟩)
    refine⟨z,by rw[List.length_set];exact hz,?_⟩;rw[List.getElem_set]
    split
    ·rename_i q;subst q;exact absurd (h.apart y j hy hj (by simp only[id];rw[<-ez,hGi])) hne
    ·exact ez
 have hone:Hp.Apart n (Hp.put g j ⟨(g j).k,f,(g j).n⟩) (fun e=>e.k):=by
  intro x y hx hy e;have q:∀z,(Hp.put g j ⟨(g j).k,f,(g j).n⟩ z).k=(g z).k:=fun z=>by
   by_cases ez:z=j
   ·subst ez;rw[Hp.put_same]
   ·rw[Hp.put_other _ _ _ _ ez]
  simp only[q] at e;exact h.one x y hx hy e
 refine {len:=by rw[List.length_set,h.len],vals:=by rw[List.map_set,h.vals],rises:= ?_,has:=fun e=>by rw[hmem,Hp.settle_has rkE n _ j hj e,hset],below:= ?_,keys:= ?_,one:=Hp.settle_apart rkE _ n _ j hj hone,heap:= ?_,small:=h.small}
 ·rw[List.pairwise_iff_getElem]
  intro x y hx hy q;rw[List.length_set] at hx hy;have:=List.pairwise_iff_getElem.1 h.rises x y hx hy q;have key:∀z (hz:z<G.length),((G.set i ⟨(g j).k,f,(g j).n⟩)[z]'(by rw[List.length_set];exact hz)).n=G[z].n:=fun z hz=>by
   rw[List.getElem_set]
   split
   ·rename_i e;subst e;rw[hGi]
   ·rfl
  rw[key x hx,key y hy];exact this
 ·intro e he
  rcases(hmem e).1 he with rfl|⟨y,hy,_,rfl⟩
  ·exact h.below (g j) ((h.has _).2 ⟨j,hj,rfl⟩)
  ·exact h.below _ ((h.has _).2 ⟨y,hy,rfl⟩)
 ·intro e he
  rcases(hmem e).1 he with rfl|⟨y,hy,_,rfl⟩
  ·show(g j).k=f.key;rw[hf];exact h.atKey hj
  ·exact h.atKey hy
 ·exact Hp.settle_heapy rkE n g _ j hj h.heap (fun x hx=>Hp.put_other _ _ _ _ hx)
theorem Rel.drop {n:Nat} {g:Nat->En} {b:Nat} {F:List Fl} {G:List En} (h:Rel (n+1) g b F G) {i:Nat} (hG:G[i]? =Option.some (g 0)):Rel n (Hp.dropFirst rkE n g) b (F.eraseIdx i) (G.eraseIdx i):=by
 obtain⟨hi,hGi⟩:=List.getElem?_eq_some_iff.1 hG;have hmem:∀x,x ∈ G.eraseIdx i↔(x ∈ G/\x≠g 0):=by
  intro x;rw[List.mem_eraseIdx_iff_getElem]
  constructor
  ·rintro⟨k,hk,hne,rfl⟩
   refine⟨List.getElem_mem hk,fun q=>hne ?_⟩;exact h.nodup hk hi (by rw[q,hGi])
  ·rintro⟨hx,hne⟩
   obtain⟨k,hk,rfl⟩:=List.mem_iff_getElem.1 hx;exact⟨k,hk,fun q=>hne (by subst q;exact hGi),rfl⟩
 have hsub:(G.eraseIdx i).Sublist G:=List.eraseIdx_sublist G i;refine {len:=by rw[List.length_eraseIdx_of_lt hi,h.len];omega,vals:= ?_,rises:=h.rises.sublist hsub,has:=fun e=>by rw[hmem,Hp.dropFirst_has rkE n g h.apart e,h.has],below:=fun e he=>h.below e (hsub.subset he),keys:=fun e he=>h.keys e (hsub.subset he),one:=Hp.dropFirst_apart rkE _ n g h.one,heap:=Hp.dropFirst_heapy rkE n g h.heap,small:=h.small};rw[<-h.vals];rw[List.eraseIdx_eq_take_drop_succ,List.eraseIdx_eq_take_drop_succ,List.map_append,List.map_take,List.map_drop]
theorem Rel.add {n:Nat} {g:Nat->En} {b:Nat} {F:List Fl} {G:List En} (h:Rel n g b F G) (f:Fl) (hn:∀i,i<n->(g i).k≠f.key) (hb:b+1<18446744073709551616):Rel (n+1) (Hp.add rkE n g ⟨f.key,f,b⟩) (b+1) (F++[f]) (G++[⟨f.key,f,b⟩]):=by
 refine {len:=by simp[h.len],vals:=by simp[h.vals],rises:= ?_,has:=fun e=> ?_,below:= ?_,keys:= ?_,one:=Hp.add_apart rkE _ n g _ h.one hn,heap:=Hp.add_heapy rkE n g _ h.heap,small:=hb}
 ·rw[List.pairwise_append]
  refine⟨h.rises,by simp,fun x hx y hy=> ?_⟩;simp only[List.mem_singleton] at hy;subst hy;exact h.below x hx
 ·rw[Hp.add_has,List.mem_append,h.has,List.mem_singleton]
 ·intro e he
  rcases List.mem_append.1 he with q|q
  ·have:=h.below e q;omega
  ·simp only[List.mem_singleton] at q;subst q;show b<b+1;omega
 ·intro e he
  rcases List.mem_append.1 he with q|q
  ·exact h.keys e q
  ·simp only[List.mem_singleton] at q;subst q;rfl
structure zFX (F:List Fl) (i:Nat):Prop where
 lt:i<F.length
 le:∀j (hj:j<F.length),F[i].u<=F[j].u
 first:∀j (hj:j<i),F[i].u<(F[j]'(Nat.lt_trans hj lt)).u
theorem zFX.unique {F:List Fl} {i j:Nat} (h:zFX F i) (g:zFX F j):i=j:=by
 rcases Nat.lt_trichotomy i j with q|q|q
 ·have a:=g.first i q;have b:=h.le j g.lt;omega
 ·exact q
 ·have a:=h.first j q;have b:=g.le i h.lt;omega
theorem Rel.fget {n:Nat} {g:Nat->En} {b:Nat} {F:List Fl} {G:List En} (h:Rel n g b F G) {i:Nat} (hi:i<F.length) (hG:i<G.length):F[i]=G[i].v:=by have:=h.vals;subst this;simp
theorem Rel.min {n:Nat} {g:Nat->En} {b:Nat} {F:List Fl} {G:List En} (h:Rel (n+1) g b F G):∃i,G[i]? =Option.some (g 0)/\zFX F i:=by
 have h0:g 0 ∈ G:=(h.has _).2 ⟨0,by omega,rfl⟩;obtain⟨i,hi,e⟩:=List.mem_iff_getElem.1 h0;have hF:F.length=G.length:=by rw[h.flen,h.len]
 have hle:∀j (hj:j<G.length),G[i].v.u<G[j].v.u\/(G[i].v.u=G[j].v.u/\G[i].n<=G[j].n):=by
  intro j hj;obtain⟨x,hx,ex⟩:=(h.has _).1 (List.getElem_mem hj);have q:=h.heap.first x hx;rw[ex,<-e] at q;have b1:=h.below _ (List.getElem_mem hi);have b2:=h.below _ (List.getElem_mem hj);have:=h.small;have q2:=zPk (x:=G[j]) (y:=G[i]) (by omega) (by omega);have:¬rkE G[j]<rkE G[i]:=by omega
  rw[q2] at this;omega
 refine⟨i,by rw[List.getElem?_eq_getElem hi,e],by omega,fun j hj=> ?_,fun j hj=> ?_⟩
 ·rw[h.fget (by omega) hi,h.fget hj (by omega)]
  have:=hle j (by omega);omega
 ·rw[h.fget (by omega) hi,h.fget (by omega) (by omega)]
  have q:=hle j (by omega);have:=List.pairwise_iff_getElem.1 h.rises j i (by omega) hi hj;omega
def zA9 (now:Nat) (F:List Fl):List Fl:=F.filter fun f=>decide (now<f.u)
theorem zEd {α:Type} (p:α->Bool):∀(l:List α) (i:Nat) (x:α),l[i]? =Option.some x->p x=false->(l.eraseIdx i).filter p=l.filter p
 |[],i,x,h,_=>by simp at h
 |y::l,0,x,h,hp=>by
  simp only[List.getElem?_cons_zero,Option.some.injEq] at h;subst h;simp[hp]
 |y::l,i+1,x,h,hp=>by
  simp only[List.getElem?_cons_succ] at h;have:=zEd p l i x h hp;simp only[List.eraseIdx_cons_succ,List.filter_cons,this]
theorem Rel.ended {n:Nat} {g:Nat->En} {b:Nat} {F:List Fl} {G:List En} (h:Rel (n+1) g b F G) (now:Nat) (h0:(g 0).v.u<=now):∃F' G',Rel n (Hp.dropFirst rkE n g) b F' G'/\zA9 now F'=zA9 now F:=by
 obtain⟨i,hG,hm⟩:=h.min;refine⟨_,_,h.drop hG,?_⟩;unfold zA9;obtain⟨hi,e⟩:=List.getElem?_eq_some_iff.1 hG;refine zEd _ F i (F[i]'(hm.lt)) (List.getElem?_eq_getElem hm.lt) ?_;rw[h.fget hm.lt hi,e];simp;omega
theorem Rel.alive {n:Nat} {g:Nat->En} {b:Nat} {F:List Fl} {G:List En} (h:Rel n g b F G) (now:Nat) (h0:n=0\/now<(g 0).v.u):zA9 now F=F:=by
 unfold zA9;rw[List.filter_eq_self];intro f hf;rw[<-h.vals] at hf;obtain⟨e,he,rfl⟩:=List.mem_map.1 hf;obtain⟨x,hx,ex⟩:=(h.has _).1 he;rcases h0 with q|q
 ·omega
 ·have r:=h.heap.first x hx
  rw[ex] at r;have b1:=h.below _ he;have b2:=h.below _ ((h.has _).2 ⟨0,by omega,rfl⟩);have:=h.small;unfold rkE at r;simp only[decide_eq_true_eq];omega
theorem Rel.sorted {n:Nat} {g:Nat->En} {b:Nat} {F:List Fl} {G:List En} (h:Rel n g b F G) (L:List En) (hp:L.Pairwise (fun x y=>x.n<y.n)) (hm:∀e,e ∈ L↔Hp.Has n g e):L=G:=
 Hp.rising_eq (fun e=>e.n) L G hp h.rises (fun e=>by rw[hm,h.has])
theorem zJG:∀(F:List Fl),F≠[]->zFX F (zKv F)
 |[],h=>absurd rfl h
 |f::r,_=>by
  by_cases q:∃g ∈ r,g.u<f.u
  ·have hr:r≠[]:=fun e=>by subst e;obtain⟨g,hg,_⟩:=q;cases hg
   have ih:=zJG r hr;have e:zKv (f::r)=zKv r+1:=by rw[zKv,if_pos q]
   rw[e];obtain⟨g,hg,hlt⟩:=q;obtain⟨x,hx,rfl⟩:=List.mem_iff_getElem.1 hg;have hx':=ih.le x hx;refine⟨by simp only[List.length_cons];have:=ih.lt;omega,fun j hj=> ?_,fun j hj=> ?_⟩
   ·rcases j with _|j
    ·simp only[List.getElem_cons_succ,List.getElem_cons_zero];omega
    ·simp only[List.getElem_cons_succ];exact ih.le j (by simpa using hj)
   ·rcases j with _|j
    ·simp only[List.getElem_cons_succ,List.getElem_cons_zero];omega
    ·simp only[List.getElem_cons_succ];exact ih.first j (by omega)
  ·have e:zKv (f::r)=0:=by rw[zKv,if_neg q]
   rw[e];refine⟨by simp,fun j hj=> ?_,fun j hj=>by omega⟩;rcases j with _|j
   ·exact Nat.le_refl _
   ·simp only[List.getElem_cons_succ,List.getElem_cons_zero]
    have hj':j<r.length:=by simpa using hj
    apply Nat.le_of_not_lt
    intro hlt;exact q ⟨r[j],List.getElem_mem hj',hlt⟩
def fl0:Fl:=⟨0,0,0,0,0,false,false,0⟩
def zBX (cap now:Nat) (F:List Fl) (h:Hd):Bool×List Fl:=
 match zBS F h with
 |some i=>(false,F.set i (zGH (F.getD i fl0) h now))
 |none=>if zDw h=true then(decide (F.length=cap),(if F.length=cap then F.eraseIdx (zKv F) else F)++[zEc h now]) else(false,F)
end Go.Proofs.YtclpnafiiobfhaaGreatDoor

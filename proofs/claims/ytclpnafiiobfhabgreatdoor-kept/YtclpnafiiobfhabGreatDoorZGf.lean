import Derived.Test.YtclpnafiiobfhabGreatDoorShelf2
import Derived.Test.YtclpnafiiobfhabGreatDoorZGc
import Derived.Shelf.SlSortCmp.NoneTotal
import Derived.Test.YtclpnafiiobfhabGreatDoorZGa
import Derived.RangeFuncNested
import Derived.RangeFuncBound
import Derived.RangeFuncCalls
import Derived.RangeFuncLeaves
import Derived.Shelf.Abstract
import Derived.Shelf.RegionOpen
import Derived.WalkKit
import Derived.OwnWalkIn
import Derived.TacticsInMore
import Derived.LoopNIn
import Derived.LoopIn
import Derived.Test.YtclpnafiiobfhabGreatDoorZGd
import Derived.Test.YtclpnafiiobfhabGreatDoorZGe
namespace Go.Proofs.YtclpnafiiobfhabGreatDoor
open Go.RowKit
set_option linter.unusedVariables false
set_option linter.unusedSimpArgs false

set_option maxHeartbeats 800000 in
theorem nan_any (x : Nat) (w : World) :
    Calls Tryz.prog 144 #[.int .u64 (x : Int)] w fun e w' => e = .returned (.bool false) ∧ w' = w := by
  go_enter Tryz.func144, Tryz.ntmps144
  go_wp2_with fail
  go_ret
  simp
/-- how two ages compare -/
def cmpN (x y : Nat) : Int := if x < y then -1 else if y < x then 1 else 0
set_option maxHeartbeats 3200000 in
theorem cmp_any (x y : Nat) (w : World) :
    Calls Tryz.prog 133 #[.int .u64 (x : Int), .int .u64 (y : Int)] w fun e w' => e = .returned (.int .i64 (cmpN x y)) ∧ w' = w := by
  have hn := fun (z : Nat) => nan_any z w
  obtain ⟨r, hr⟩ : ∃ r, cmpN x y = r := ⟨_, rfl⟩
  rw [hr]
  unfold cmpN at hr
  by_cases h1 : x < y
  · have t1 : (x : Int) < (y : Int) := by omega
    rw [if_pos h1] at hr
    clear h1
    go_enter Tryz.func133, Tryz.ntmps133
    go_wp2_with (go_at_call 144; refine (hn _).mono ?_; rintro e w' ⟨rfl, rfl⟩)
    go_ret
    exact ⟨by rw [← hr]; rfl, rfl⟩
  · have t1 : ¬ ((x : Int) < (y : Int)) := by omega
    rw [if_neg h1] at hr
    by_cases h2 : y < x
    · have t2 : (y : Int) < (x : Int) := by omega
      rw [if_pos h2] at hr
      clear h1 h2
      go_enter Tryz.func133, Tryz.ntmps133
      go_wp2_with (go_at_call 144; refine (hn _).mono ?_; rintro e w' ⟨rfl, rfl⟩)
      go_ret
      exact ⟨by rw [← hr]; rfl, rfl⟩
    · have t2 : ¬ ((y : Int) < (x : Int)) := by omega
      rw [if_neg h2] at hr
      clear h1 h2
      go_enter Tryz.func133, Tryz.ntmps133
      go_wp2_with (go_at_call 144; refine (hn _).mono ?_; rintro e w' ⟨rfl, rfl⟩)
      go_ret
      exact ⟨by rw [← hr]; rfl, rfl⟩
set_option maxRecDepth 20000 in
set_option maxHeartbeats 3200000 in
theorem age_any (x y : En) (w : World) :
    Calls Tryz.prog 132 #[.agg x.l.toArray, .agg y.l.toArray] w fun e w' => e = .returned (.int .i64 (cmpN x.n y.n)) ∧ ∃ q os', w' = Go.Sort.grow (w.drewN q) os' := by
  obtain ⟨⟨x1, x2, x3, x4, x5⟩, ⟨x6, x7, x8, x9, x10, x11, x12, x13⟩, x14⟩ := x
  obtain ⟨⟨y1, y2, y3, y4, y5⟩, ⟨y6, y7, y8, y9, y10, y11, y12, y13⟩, y14⟩ := y
  have hc := fun W => cmp_any x14 y14 W
  obtain ⟨r, hr⟩ : ∃ r, cmpN x14 y14 = r := ⟨_, rfl⟩
  dsimp only [En.l]
  rw [hr]
  rw [hr] at hc
  clear hr
  go_enter Tryz.func132, Tryz.ntmps132
  go_wp2_with (go_at_call 133; refine (hc _).mono ?_; rintro e w' ⟨rfl, rfl⟩)
  go_ret
  exact ⟨rfl, 0, _, by rw [Go.Sort.alloc_eq_grow, Go.Sort.alloc_eq_grow, Go.Sort.grow_grow]; rfl⟩
/-- a row of entries, flat -/
def flatE (n : Nat) (f : Nat → En) : List Value := (List.range (n * 14)).map fun t => (f (t / 14)).l[t % 14]!
theorem flatE_len (n : Nat) (f : Nat → En) : (flatE n f).length = n * 14 := by simp [flatE]
theorem flatE_get (n : Nat) (f : Nat → En) (t : Nat) (h : t < n * 14) : (flatE n f)[t]? = some ((f (t / 14)).l[t % 14]!) := by simp [flatE, h]
theorem En.at (e : En) (k : Nat) (h : k < 14) : e.l[k]? = some e.l[k]! := by
  have : k < e.l.length := by rw [En.len]; exact h
  rw [getElem!_pos e.l k this, List.getElem?_eq_getElem this]
theorem flatE_cell {W : World} {g n cap : Nat} {f : Nat → En} (h : EntsAt W g n cap f) (j : Nat) (u : Value) (hu : (flatE n f)[j]? = some u) : W.cell? ⟨g, 0 + j, none⟩ = some u := by
  have hj : j < n * 14 := by have := (List.getElem?_eq_some_iff.1 hu).1; rwa [flatE_len] at this
  rw [flatE_get n f j hj] at hu
  rw [Nat.zero_add, show j = j / 14 * 14 + j % 14 by omega]
  refine h.cell (by omega) _ _ ?_
  rw [← hu]
  have e1 : (j / 14 * 14 + j % 14) / 14 = j / 14 := by omega
  have e2 : (j / 14 * 14 + j % 14) % 14 = j % 14 := by omega
  exact En.at _ _ (by omega)
theorem flatE_one (n : Nat) (f : Nat → En) (u : Value) (hu : u ∈ flatE n f) : u.oneCell' = true := by
  simp only [flatE, List.mem_map, List.mem_range] at hu
  obtain ⟨t, ht, rfl⟩ := hu
  refine En.one (f (t / 14)) _ ?_
  have : t % 14 < (f (t / 14)).l.length := by rw [En.len]; omega
  rw [getElem!_pos (f (t / 14)).l (t % 14) this]
  exact List.getElem_mem this
theorem flatE_holds {W : World} {b n cap : Nat} {f : Nat → En} {cur : Array Value} {t : TypeId} (hb : W.heap[b]? = some (.cells cur t (0, 0))) (hs : cur.size = cap * 14) (hn : n ≤ cap) (ht : cur.toList.take (n * 14) = flatE n f) : Go.Sort.HoldsK (fun i => (f i).l) 14 W b 0 (Array.range n) := by
  intro j hj
  rw [Go.Sort.size_flatK, Array.size_range] at hj
  rw [Go.Sort.get_flatK _ _ _ _ (by rw [Array.size_range]; exact hj)]
  have e : cur[j]? = some ((f (j / 14)).l[j % 14]!) := by
    rw [← flatE_get n f j hj, ← ht, List.getElem?_take_of_lt hj]; simp
  have e2 : (Array.range n)[j / 14]! = j / 14 := by
    rw [getElem!_pos _ _ (by rw [Array.size_range]; omega)]; simp
  refine ⟨?_, by simp [World.frozen?, hb]⟩
  simp only [World.cell?, hb, Nat.zero_add]
  rw [e, e2]; rfl
theorem ltOf_cmp (f : Nat → En) (i j : Nat) : ltOf (fun i j => cmpN (f i).n (f j).n) i j = decide ((f i).n < (f j).n) := by
  unfold ltOf cmpN
  by_cases h : (f i).n < (f j).n
  · simp [h]
  · by_cases h2 : (f j).n < (f i).n
    · simp [h, h2]
    · simp [h, h2]
theorem swo_cmp (f : Nat → En) : Go.Sort.SWO (ltOf (fun i j => cmpN (f i).n (f j).n)) where
  irrefl x := by rw [ltOf_cmp]; simp
  trans x y z h1 h2 := by rw [ltOf_cmp] at *; simp only [decide_eq_true_eq] at *; omega
  ntrans x y z h1 h2 := by rw [ltOf_cmp] at *; simp only [decide_eq_false_iff_not] at *; omega
theorem below_sort {B : Nat} (enc : Nat → List Value) (k : Nat) (w : World) (blk off m : Nat) (d : Array Nat) (os : Array Obj) (hB : B ≤ blk) (hw : B ≤ w.heap.size) : Below B w (Go.Proofs.sortWorldK enc k w blk off m d os) := by
  have e : (Go.Sort.putRowK enc k (Go.Sort.ahead w m) blk off d).heap.size = w.heap.size := by
    show (Array.modify _ _ _).size = _
    rw [Array.size_modify]; rfl
  refine ⟨rfl, rfl, rfl, ?_, fun x hx => ?_⟩
  · unfold Go.Proofs.sortWorldK
    rw [Go.Sort.size_grow, e]; omega
  · show (Array.append _ _)[x]? = _
    have hx2 : x < (Go.Sort.putRowK enc k (Go.Sort.ahead w m) blk off d).heap.size := by rw [e]; omega
    rw [Array.append_eq_append, Array.getElem?_append_left hx2]
    show (Array.modify _ _ _)[x]? = _
    rw [Array.getElem?_modify, if_neg (by omega)]; rfl
/-- what the sort leaves is the document's list -/
theorem sorted_list {n births : Nat} {f : Nat → En} {F : List Fl} {G : List En} (hr : Rel n f births F G) (d : Array Nat) (hp : Go.Sort.PermIn 0 n (Array.range n) d) (hs : Go.Sort.SortedIn (ltOf (fun i j => cmpN (f i).n (f j).n)) 0 n d) : (List.range n).map (fun i => f d[i]!) = G := by
  obtain ⟨p1, _, p3⟩ := hp
  have hz : d.size = n := by rw [p1, Array.size_range]
  have e1 : (d.extract 0 n) = d := by rw [← hz]; simp
  have e2 : ((Array.range n).extract 0 n) = Array.range n := by
    have := Array.extract_size (xs := Array.range n); rwa [Array.size_range] at this
  rw [e1, e2] at p3
  have p4 : d.toList.Perm (List.range n) := by simpa using p3
  have hg : ∀ i, i < n → d[i]! ∈ d.toList := fun i hi => by
    rw [getElem!_pos d i (by omega)]; exact Array.mem_toList_iff.2 (Array.getElem_mem _)
  have hlt : ∀ i, i < n → d[i]! < n := fun i hi => List.mem_range.1 (p4.mem_iff.1 (hg i hi))
  have hnd : d.toList.Nodup := p4.nodup_iff.2 List.nodup_range
  refine hr.sorted _ ?_ (fun e => ?_)
  · rw [List.pairwise_map]
    refine List.Pairwise.imp_of_mem (fun {a b} ha hb hab => ?_) (List.pairwise_lt_range)
    have ha := List.mem_range.1 ha
    have hb := List.mem_range.1 hb
    have q := hs a b (Nat.zero_le _) hab hb
    rw [ltOf_cmp] at q
    simp only [decide_eq_false_iff_not] at q
    have ne : d[a]! ≠ d[b]! := fun e => by
      rw [getElem!_pos d a (by omega), getElem!_pos d b (by omega)] at e
      have := (List.getElem_inj hnd (i := a) (j := b) (h₀ := by simpa [hz] using ha) (h₁ := by simpa [hz] using hb)).1 (by simpa using e)
      omega
    have := hr.births d[a]! d[b]! (hlt a ha) (hlt b hb)
    have ne2 : (f d[a]!).n ≠ (f d[b]!).n := fun e => ne (this e)
    omega
  · simp only [List.mem_map, List.mem_range]
    constructor
    · rintro ⟨i, hi, rfl⟩
      exact ⟨_, hlt i hi, rfl⟩
    · rintro ⟨j, hj, rfl⟩
      have : j ∈ d.toList := p4.mem_iff.2 (List.mem_range.2 hj)
      obtain ⟨i, hi, e⟩ := List.mem_iff_getElem.1 this
      have hi' : i < d.size := by simpa using hi
      refine ⟨i, by omega, ?_⟩
      rw [getElem!_pos d i hi']
      have : d[i] = j := by simpa using e
      rw [this]
/-- the entries of a list lie in a row -/
def RowG (W : World) (b : Nat) (G : List En) : Prop := ∀ i e, G[i]? = some e → ∀ k u, e.l[k]? = some u → W.cell? ⟨b, i * 14 + k, none⟩ = some u
theorem clone_en {n g cap : Nat} {f : Nat → En} (w : World) (h : EntsAt w g n cap f) (hn : n ≤ 64) :
    Calls Tryz.prog 130 #[.slice (some ⟨g, 0, none⟩) n cap] w fun e w' => ∃ b c, e = .returned (.slice (some ⟨b, 0, none⟩) n c) ∧ w.heap.size ≤ b ∧ b < w'.heap.size ∧ Below w.heap.size w w' ∧ Go.Sort.HoldsK (fun i => (f i).l) 14 w' b 0 (Array.range n) := by
  obtain ⟨i0, hi0, hz0, hz1, hz2⟩ := infos Tryz.infoEn
  refine (AnyE.slices_Clone Tryz.cloneEn i0 _ 14 56 hi0 hz0 hz1 hz2 rfl (by decide) Tryz.sizeOf168 g 0 n cap (flatE n f) w (flatE_len n f) (Nat.le_trans hn (by decide)) (by omega) (fun j u hu => flatE_cell h j u hu) (flatE_one n f)).mono ?_
  rintro e w' ⟨v', rfl, ⟨_, ho⟩, hne, hb⟩
  rcases ho with ⟨q, _⟩ | ⟨b, c, cur, rfl, q1, q2, q3, _, q5, q6⟩
  · exact absurd q hne
  · exact ⟨b, c, rfl, q1, (Array.getElem?_eq_some_iff.1 q2).1, hb, flatE_holds q2 q5 q3 q6⟩
theorem sort_en {n births : Nat} {f : Nat → En} {F : List Fl} {G : List En} (hr : Rel n f births F G) (b c : Nat) (w : World) (hn : n ≤ 64) (hH : Go.Sort.HoldsK (fun i => (f i).l) 14 w b 0 (Array.range n)) (hb : b < w.heap.size) :
    Calls Tryz.prog 131 #[.slice (some ⟨b, 0, none⟩) n c, .func (.func 132) #[] #[]] w fun e w' => e = .returned (.tuple #[]) ∧ Below b w w' ∧ RowG w' b G := by
  have eg : ∀ args w, (callFunc 132 args).run Tryz.prog w = .ok (.enter 132 args) w := enters_of Tryz.func132 (by kernel_rfl) rfl
  have hc := AnyQ.slices_SortFunc Tryz.sortEn 14 Tryz.isAgg168 Tryz.sizeOf168 (fun i => (f i).l) (fun _ => rfl) (fun i => En.one (f i)) (fun i j => cmpN (f i).n (f j).n) (swo_cmp f) 132 #[] b 0 c (Array.range n) w eg (fun _ _ _ _ x y => age_any (f x) (f y) _) hH hb (by rw [Array.size_range]; omega)
  rw [Array.size_range] at hc
  refine hc.mono ?_
  rintro e w' ⟨rfl, d, m, os, hp, hs, rfl⟩
  refine ⟨rfl, below_sort _ _ _ _ _ _ _ _ (Nat.le_refl _) (Nat.le_of_lt hb), ?_⟩
  have hz : d.size = n := by have := hp.1; rwa [Array.size_range] at this
  have hk := SWK.holds (⟨m, os, rfl⟩ : SWK (fun i => (f i).l) 14 w b 0 d _) hb hH (by rw [Array.size_range]; exact hz)
  have hg := sorted_list hr d hp hs
  intro i e he k u hu
  rw [← hg] at he
  have hi : i < n := by
    have := (List.getElem?_eq_some_iff.1 he).1
    simpa using this
  have he' : f d[i]! = e := by simpa [hi] using he
  have hk14 : k < 14 := by have := (List.getElem?_eq_some_iff.1 hu).1; rwa [En.len] at this
  have := (hk.cell (i := i) (c := k) (by omega) hk14).1
  rw [Nat.zero_add] at this
  rw [this, ← hu, En.at _ _ hk14]
  show some (f d[i]!).l[k]! = _
  rw [he']
set_option maxRecDepth 20000 in
set_option maxHeartbeats 6400000 in
theorem byAge_some {T mb room births n g cap : Nat} {f : Nat → En} {F : List Fl} {G : List En} (w : World) (h : TabAt w T mb (.slice (some ⟨g, 0, none⟩) n cap) room births n f) (hr : Rel n f births F G) :
    Calls Tryz.prog 111 #[.pointer (some ⟨T, 0, none⟩)] w fun e w' => ∃ b c, e = .returned (.slice (some ⟨b, 0, none⟩) n c) ∧ w.heap.size ≤ b ∧ b < w'.heap.size ∧ Below w.heap.size w w' ∧ RowG w' b G := by
  have hT3 := h.blk.cell 3 _ rfl
  have hn : n ≤ 64 := Nat.le_trans h.le h.big
  have HC : Hid (Calls _ _ _ w _) := clone_en w h.ents hn
  have HS := fun (b c : Nat) (W : World) (hH : Hid (Go.Sort.HoldsK (fun i => (f i).l) 14 W b 0 (Array.range n))) (hb : b < W.heap.size) => sort_en hr b c W hn hH.out hb
  clear h hr hn
  go_enter Tryz.func111, Tryz.ntmps111
  go_wp2_with (first | (go_at_call 130; refine HC.out.mono ?_; rintro e w2 ⟨b, c, rfl, hb1, hb2, hb3, hh⟩; have HH : Hid (Go.Sort.HoldsK (fun i => (f i).l) 14 w2 b 0 (Array.range n)) := hh; have HB3 : Hid (Below w.heap.size w w2) := hb3; clear hh hb3) | (go_at_call 131; refine (HS b c w2 HH hb2).mono ?_; rintro e w3 ⟨rfl, hb4, hg⟩; have HB4 : Hid (Below b w2 w3) := hb4; have HG : Hid (RowG w3 b G) := hg; clear hb4 hg))
  go_ret
  exact ⟨b, c, rfl, hb1, Nat.lt_of_lt_of_le hb2 HB4.out.size, HB3.out.trans (HB4.out.mono hb1), HG.out⟩
set_option maxRecDepth 20000 in
set_option maxHeartbeats 6400000 in
theorem byAge_nil {T mb room births : Nat} {f : Nat → En} (w : World) (h : TabAt w T mb (.slice none 0 0) room births 0 f) :
    Calls Tryz.prog 111 #[.pointer (some ⟨T, 0, none⟩)] w fun e w' => e = .returned (.slice none 0 0) ∧ w' = w := by
  have hT3 := h.blk.cell 3 _ rfl
  have HC : Hid (Calls _ _ _ w _) := AnyE.slices_Clone_nil Tryz.cloneEn 0 0 w
  have HS : Hid (Calls _ _ _ w _) := AnyF.slices_SortFunc_none Tryz.sortEn none 0 (.func (.func 132) #[] #[]) w
  clear h
  go_enter Tryz.func111, Tryz.ntmps111
  go_wp2_with (first | (go_at_call 130; refine HC.out.mono ?_; rintro e w2 ⟨rfl, rfl⟩) | (go_at_call 131; refine HS.out.mono ?_; rintro e w3 ⟨rfl, rfl⟩))
  go_ret
  exact ⟨rfl, rfl⟩
end Go.Proofs.YtclpnafiiobfhabGreatDoor
namespace Go.Proofs.YtclpnafiiobfhabGreatDoor
open Go.RowKit
set_option linter.unusedVariables false
set_option linter.unusedSimpArgs false

/-- the blocks from a up to b lie as they lay -/
structure Kpt (a b : Nat) (W W' : World) : Prop where
  size : W.heap.size ≤ W'.heap.size
  block : ∀ m, a ≤ m → m < b → W'.heap[m]? = W.heap[m]?
theorem Kpt.refl (a b : Nat) (W : World) : Kpt a b W W := ⟨Nat.le_refl _, fun _ _ _ => rfl⟩
theorem Kpt.trans {a b : Nat} {A B C : World} (h : Kpt a b A B) (k : Kpt a b B C) : Kpt a b A C := ⟨Nat.le_trans h.size k.size, fun m h1 h2 => (k.block m h1 h2).trans (h.block m h1 h2)⟩
theorem Kpt.mono {a b a' b' : Nat} {A B : World} (h : Kpt a b A B) (ha : a ≤ a') (hb : b' ≤ b) : Kpt a' b' A B := ⟨h.size, fun m h1 h2 => h.block m (Nat.le_trans ha h1) (Nat.lt_of_lt_of_le h2 hb)⟩
theorem Kpt.put {a b l : Nat} (W : World) (o : Obj) (h : l < a) : Kpt a b W (W.putObj l o) := ⟨by simp, fun m h1 _ => World.putObj_heap_other (by omega)⟩
theorem Kpt.alloc {a b : Nat} {A B : World} (h : Kpt a b A B) (hb : b ≤ B.heap.size) (o : Obj) : Kpt a b A (B.alloc o) := ⟨by simp; exact Nat.le_succ_of_le h.size, fun m h1 h2 => (Below.heap_alloc _ _ _ (by omega)).trans (h.block m h1 h2)⟩
theorem Kpt.trn {a b : Nat} {S : Nat → Prop} {A B : World} (h : Trn S A B) (hb : b ≤ A.heap.size) (hs : ∀ m, a ≤ m → m < b → ¬ S m) : Kpt a b A B := ⟨h.size, fun m h1 h2 => h.block m (by omega) (hs m h1 h2)⟩
theorem Trn.put {S : Nat → Prop} (W : World) (l : Nat) (o : Obj) (h : S l) : Trn S W (W.putObj l o) := ⟨rfl, rfl, rfl, by simp, fun m _ hn => World.putObj_heap_other (fun e => hn (e ▸ h))⟩
/-- what an iterator owns while it goes -/
abbrev Btw (a b m : Nat) : Prop := a ≤ m ∧ m < b
/-- a round as the walk wants it, at any depth -/
theorem round_any {P : Program} {l fn : Nat} {tmps : Array Value} {assign body : Go.Code} {W : World} {R : Ending → World → Prop} {n m : Nat} (h : RoundIn Fence.wide n P l fn tmps assign body W R) : RoundIn Fence.wide m P l fn tmps assign body W R := ⟨h.1, fun c cs _ => h.2 c cs (room_wide _)⟩
theorem yield_any {P : Program} {l n m : Nat} {args : Array Value} {W : World} {R : Ending → World → Prop} (h : YieldAt Fence.wide n P l args W R) : YieldAt Fence.wide m P l args W R := by
  obtain ⟨fn, tmps, assign, body, hy, hR⟩ := h
  exact ⟨fn, tmps, assign, body, hy, round_any hR⟩
/-- an iterator: what it goes over; a is where its own blocks begin, b where they end once it goes -/
def SeqT {α : Type} (P : Program) (g : Nat) (lb : Array Value) (encs : α → Array Value) (xs : List α) (W : World) : Prop :=
  ∀ (l : Nat) (J Jx : Nat → List α → World → Prop),
    (∀ b W2, W.heap.size ≤ b → b ≤ W2.heap.size → Below W.heap.size W W2 → J b [] W2) →
    (∀ b pre A B, J b pre A → Trn (Btw W.heap.size b) A B → J b pre B) →
    (∀ b pre A B, Jx b pre A → Trn (Btw W.heap.size b) A B → Jx b pre B) →
    (∀ b pre x A, W.heap.size ≤ b → b ≤ A.heap.size → J b pre A → pre ++ [x] <+: xs → YieldAt Fence.wide 0 P l (encs x) A fun e A' =>
      (e = .returned (.bool true) ∧ J b (pre ++ [x]) A' ∧ Kpt W.heap.size b A A') ∨ (e = .returned (.bool false) ∧ Jx b (pre ++ [x]) A' ∧ Kpt W.heap.size b A A')) →
    Calls P g (#[.func (.yield l) #[] #[]] ++ lb) W fun e W' => (∃ v, e = .returned v) ∧ ∃ b, W.heap.size ≤ b ∧ b ≤ W'.heap.size ∧ (J b xs W' ∨ ∃ pre, pre <+: xs ∧ Jx b pre W')
/-- how a round's body may be left -/
def PostT (a b : Nat) (I : World → Prop) (Ix : Go.Code → World → Prop) (W : World) : Exit → Act → World → Prop
  | .normal, _, W' => Kpt a b W W' ∧ I W'
  | .ret, _, W' => Kpt a b W W' ∧ Ix .ret W'
  | .exit id, _, W' => Kpt a b W W' ∧ Ix (.exit id) W'
  | .goto t, _, W' => Kpt a b W W' ∧ Ix (.goto t) W'
  | .panic _, _, _ => False
  | .outgrown, _, _ => False
theorem wp_range {α : Type} {P : Program} {n : Nat} {g : Operand} {ps : Array Tmp} {assign body : Go.Code} {Q : Exit → Act → World → Prop} {a : Act} {w : World} {gf : Nat} {lb : Array Value} {encs : α → Array Value} {xs : List α}
    (hg : a.eval g = .func (.func gf) #[] lb) (eg : ∀ args w, (callFunc gf args).run P w = .ok (.enter gf args) w)
    (hseq : ∀ W1, Below w.heap.size w W1 → SeqT P gf lb encs xs W1) (hps : ∀ x, (encs x).size = ps.size)
    (I : Nat → List α → World → Prop) (Ix : Nat → Go.Code → List α → World → Prop)
    (hs : ∀ b W2, w.heap.size ≤ b → b ≤ W2.heap.size → Below w.heap.size w W2 → I b [] W2)
    (hI : ∀ b pre A B, I b pre A → Trn (Btw w.heap.size b) A B → I b pre B)
    (hIx : ∀ b c pre A B, Ix b c pre A → Trn (Btw w.heap.size b) A B → Ix b c pre B)
    (Ax : Nat → α → Act → World → Prop) (hAx : ∀ b x a' A B, Ax b x a' A → Trn (Btw w.heap.size b) A B → Ax b x a' B)
    (hassign : ∀ (l b : Nat) (pre : List α) (x : α) (W : World) (K : Act → World → Prop), w.heap.size ≤ b → b ≤ W.heap.size → I b pre W → (∀ a' W', Below W.heap.size W W' → Ax b x a' W' → K a' W') →
      assign.wpIn (Fence.wide.inRound l) 0 P (Exit.then K (fun _ _ _ => False)) { tmps := (ps.zip (encs x)).foldl (fun t (p, v) => t.setIfInBounds p v) a.tmps, defers := [] } W)
    (hbody : ∀ (l b : Nat) (pre : List α) (x : α) (a' : Act) (W : World), w.heap.size ≤ b → b ≤ W.heap.size → I b pre W → Ax b x a' W → pre ++ [x] <+: xs →
      body.wpIn (Fence.wide.inRound l) 0 P (PostT w.heap.size b (I b (pre ++ [x])) (fun c => Ix b c (pre ++ [x])) W) a' W)
    (hdone : ∀ (D b : Nat) (W : World), w.heap.size ≤ D → D < b → b ≤ W.heap.size → I b xs W → W.heap[D]? = some (.deferred (some [])) → Q .normal { a with defers := { target := .collected D, args := #[] } :: a.defers } W)
    (hstop : ∀ (D b : Nat) (c : Go.Code) (pre : List α) (W : World), w.heap.size ≤ D → D < b → b ≤ W.heap.size → pre <+: xs → Ix b c pre W → W.heap[D]? = some (.deferred (some [])) → c.wpIn Fence.wide n P Q { a with defers := { target := .collected D, args := #[] } :: a.defers } W) :
    (Go.Code.rangeFunc g ps assign body).wpIn Fence.wide n P Q a w := by
  refine wpIn_rangeFunc fun fn hfn => ?_
  obtain ⟨R, hR⟩ : ∃ R : LoopState → Option Go.Code → Loop, R = fun st pe => { state := st, pending := pe, fn, tmps := a.tmps, params := ps, assign, body, defers := w.heap.size } := ⟨_, rfl⟩
  obtain ⟨W1, hW1⟩ : ∃ W1, (w.alloc (.deferred (some []))).alloc (.loop (R .ready none)) = W1 := ⟨_, rfl⟩
  have hz : W1.heap.size = w.heap.size + 2 := by rw [← hW1]; simp
  have r1 : W1.heap[w.heap.size + 1]? = some (.loop (R .ready none)) := by
    rw [← hW1]; have := World.alloc_heap_new (w.alloc (.deferred (some []))) (.loop (R .ready none)); rwa [World.size_alloc] at this
  have d1 : W1.heap[w.heap.size]? = some (.deferred (some [])) := by
    rw [← hW1, Below.heap_alloc _ _ _ (by simp)]; exact World.alloc_heap_new w _
  have b1 : Below w.heap.size w W1 := by
    rw [← hW1]; exact ((Below.refl _ w).alloc (Nat.le_refl _) _).alloc (by simp) _
  refine ⟨w.heap.size + 1, [{ target := .collected w.heap.size, args := #[] }], W1, { target := .fn (.func gf) lb, args := #[.func (.yield (w.heap.size + 1)) #[] #[]] }, W1, gf, #[.func (.yield (w.heap.size + 1)) #[] #[]] ++ lb, W1, ?_, ?_, fun _ _ => trivial, ?_, (fun h => by simp [Fence.wide] at h), callsIn_wide.2 ?_⟩
  · rw [← hW1, hR]; exact run_enterLoop_outer _ _ _ _ _
  · simp only [resolve, hg]
    simp [go_sem]
  · simp [invoke, go_sem, eg]
  have keepB : ∀ {b m : Nat} {A B : World} {o : Obj}, Trn (Btw W1.heap.size b) A B → m < W1.heap.size → A.heap[m]? = some o → B.heap[m]? = some o := fun ht hm ho =>
    (ht.block _ (Array.getElem?_eq_some_iff.1 ho).1 (fun q => by have := q.1; omega)).trans ho
  have wid : ∀ {b : Nat} {A B : World}, Trn (Btw W1.heap.size b) A B → Trn (Btw w.heap.size b) A B := fun ht => ht.mono fun m _ q => ⟨by have := q.1; omega, q.2⟩
  refine (hseq W1 b1 (w.heap.size + 1)
    (fun b pre W => I b pre W ∧ W.heap[w.heap.size + 1]? = some (.loop (R .ready none)) ∧ W.heap[w.heap.size]? = some (.deferred (some [])))
    (fun b pre W => ∃ c, Ix b c pre W ∧ W.heap[w.heap.size + 1]? = some (.loop (R .done (some c))) ∧ W.heap[w.heap.size]? = some (.deferred (some [])))
    (fun b W2 h1 h2 h3 => ⟨hs b W2 (by omega) h2 (b1.trans (h3.mono (by omega))), (h3.block _ (by omega)).trans r1, (h3.block _ (by omega)).trans d1⟩)
    (fun b pre A B h t => ⟨hI b pre A B h.1 (wid t), keepB t (by omega) h.2.1, keepB t (by omega) h.2.2⟩)
    (fun b pre A B h t => by
      obtain ⟨c, h1, h2, h3⟩ := h
      exact ⟨c, hIx b c pre A B h1 (wid t), keepB t (by omega) h2, keepB t (by omega) h3⟩)
    ?_).mono ?_
  · rintro b pre x A hb hA ⟨hi, hl, hd⟩ hx
    have hlt : w.heap.size + 1 < A.heap.size := (Array.getElem?_eq_some_iff.1 hl).1
    have hlb : w.heap.size + 1 < b := by omega
    have hy := run_yield (P := P) (args := encs x) hl (by rw [hR]; exact hps x)
    rw [hR] at hy
    refine ⟨fn, _, assign, body, hy, roundIn_of_wpIn hfn (hassign _ b pre x A _ (by omega) hA hi fun a' A0 hb0 hax => ?_)⟩
    have l0 : A0.heap[w.heap.size + 1]? = some (.loop (R .ready none)) := (hb0.block _ hlt).trans hl
    have d0 : A0.heap[w.heap.size]? = some (.deferred (some [])) := (hb0.block _ (by omega)).trans hd
    have hz0 : A.heap.size ≤ A0.heap.size := hb0.size
    refine ⟨_, run_beginRound l0 (by rw [hR]), ?_⟩
    obtain ⟨A1, hA1⟩ : ∃ A1, A0.putObj (w.heap.size + 1) (.loop { R .ready none with state := .busy }) = A1 := ⟨_, rfl⟩
    rw [hA1]
    have s1 : A1.heap.size = A0.heap.size := by rw [← hA1]; simp
    have l1 : A1.heap[w.heap.size + 1]? = some (.loop { R .ready none with state := .busy }) := by rw [← hA1]; exact World.putObj_heap_same (by omega)
    have e1 : A1.heap[w.heap.size]? = some (.deferred (some [])) := by rw [← hA1]; exact (World.putObj_heap_other (by omega)).trans d0
    have tp : Trn (Btw w.heap.size b) A0 A1 := by rw [← hA1]; exact Trn.put _ _ _ ⟨by omega, hlb⟩
    have i1 : I b pre A1 := hI b pre _ _ (hI b pre _ _ hi (Trn.below hb0)) tp
    have k1 : Kpt W1.heap.size b A A1 := by
      refine (Kpt.trn (S := fun _ => False) (Trn.below hb0) hA (fun _ _ _ h => h)).trans ?_
      rw [← hA1]; exact Kpt.put _ _ (by omega)
    refine wpIn_mono (hbody _ b pre x a' A1 (by omega) (by omega) i1 (hAx _ _ _ _ _ hax tp) hx) ?_
    have fin : ∀ (jump : Option Go.Code) (W3 : World), Kpt w.heap.size b A1 W3 →
        (Instr.endRound (w.heap.size + 1) jump).run P W3 = .ok (.bool jump.isNone) (W3.putObj (w.heap.size + 1) (.loop (R (if jump.isNone then .ready else .done) jump))) ∧
        (W3.putObj (w.heap.size + 1) (.loop (R (if jump.isNone then .ready else .done) jump))).heap[w.heap.size + 1]? = some (.loop (R (if jump.isNone then .ready else .done) jump)) ∧
        (W3.putObj (w.heap.size + 1) (.loop (R (if jump.isNone then .ready else .done) jump))).heap[w.heap.size]? = some (.deferred (some [])) ∧
        Kpt W1.heap.size b A (W3.putObj (w.heap.size + 1) (.loop (R (if jump.isNone then .ready else .done) jump))) ∧
        Trn (Btw w.heap.size b) W3 (W3.putObj (w.heap.size + 1) (.loop (R (if jump.isNone then .ready else .done) jump))) := fun jump W3 hk => by
      have l3 := (hk.block (w.heap.size + 1) (by omega) hlb).trans l1
      have hr := run_endRound (P := P) jump l3
      have g3 := (Array.getElem?_eq_some_iff.1 l3).1
      rw [hR] at hr ⊢
      exact ⟨hr, World.putObj_heap_same g3, (World.putObj_heap_other (by omega)).trans ((hk.block w.heap.size (Nat.le_refl _) (by omega)).trans e1), (k1.trans (hk.mono (by omega) (Nat.le_refl _))).trans (Kpt.put _ _ (by omega)), Trn.put _ _ _ ⟨by omega, hlb⟩⟩
    rintro e a3 W3 hp
    cases e with
    | normal =>
      obtain ⟨h1, h2, h3, h4, h5⟩ := fin none W3 hp.1
      exact ⟨_, _, h1, .inl ⟨rfl, ⟨hI _ _ _ _ hp.2 h5, h2, h3⟩, h4⟩⟩
    | ret =>
      obtain ⟨h1, h2, h3, h4, h5⟩ := fin (some .ret) W3 hp.1
      exact ⟨_, _, h1, .inr ⟨rfl, ⟨.ret, hIx _ _ _ _ _ hp.2 h5, h2, h3⟩, h4⟩⟩
    | exit id =>
      obtain ⟨h1, h2, h3, h4, h5⟩ := fin (some (.exit id)) W3 hp.1
      exact ⟨_, _, h1, .inr ⟨rfl, ⟨.exit id, hIx _ _ _ _ _ hp.2 h5, h2, h3⟩, h4⟩⟩
    | goto t =>
      obtain ⟨h1, h2, h3, h4, h5⟩ := fin (some (.goto t)) W3 hp.1
      exact ⟨_, _, h1, .inr ⟨rfl, ⟨.goto t, hIx _ _ _ _ _ hp.2 h5, h2, h3⟩, h4⟩⟩
    | panic ch => exact hp.elim
    | outgrown => exact hp.elim
  · rintro e W2 ⟨⟨v, rfl⟩, b, hb, hb2, (⟨hi, hl, hd⟩ | ⟨pre, hp, c, hi, hl, hd⟩)⟩
    · exact ⟨none, _, by have := run_endLoop (P := P) hl (by rw [hR]; simp); rw [hR] at this; exact this, hdone w.heap.size b _ (Nat.le_refl _) (by omega) (by simp; exact hb2) (hI _ _ _ _ hi (Trn.put _ _ _ ⟨by omega, by omega⟩)) ((World.putObj_heap_other (by omega)).trans hd)⟩
    · exact ⟨some c, _, by have := run_endLoop (P := P) hl (by rw [hR]; simp); rw [hR] at this; exact this, hstop w.heap.size b c pre _ (Nat.le_refl _) (by omega) (by simp; exact hb2) hp (hIx _ _ _ _ _ hi (Trn.put _ _ _ ⟨by omega, by omega⟩)) ((World.putObj_heap_other (by omega)).trans hd)⟩
end Go.Proofs.YtclpnafiiobfhabGreatDoor
namespace Go.Proofs.YtclpnafiiobfhabGreatDoor
open Go.RowKit Go.Shelf
set_option linter.unusedVariables false
set_option linter.unusedSimpArgs false

attribute [local go_sem] Oper.semAt_some
set_option maxRecDepth 100000 in
set_option maxHeartbeats 2000000 in
theorem tabAll_some {T mb room births n g cap B : Nat} {f : Nat → En} {F : List Fl} {G : List En} (w : World) (h : TabAt w T mb (.slice (some ⟨g, 0, none⟩) n cap) room births n f) (hr : Rel n f births F G) (hB : w.cell? ⟨B, 0, none⟩ = some (.pointer (some ⟨T, 0, none⟩))) :
    SeqT Tryz.prog 110 #[.pointer (some ⟨B, 0, none⟩)] (fun x : Fl => #[.agg x.cells]) F w := by
  intro l J Jx hs hJ hJx hY
  have HC : Hid (Calls _ _ _ w _) := byAge_some w h hr
  have hn : n ≤ 64 := Nat.le_trans h.le h.big
  refine (callsIn_wide (n := 3)).1 ?_
  refine callsIn_of_wp Tryz.func110 rfl trivial ?_ rfl
  simp only [Tryz.ntmps110, List.size_toArray, List.length_cons, List.length_nil, Nat.reduceAdd, Nat.reduceSub, Array.replicate_succ, Array.replicate_zero, List.push_toArray, List.append_toArray, List.nil_append, List.cons_append]
  gi_wp2_with (refine ⟨trivial, ?_⟩; gi_at_call 111; refine (callsIn_wide.2 HC.out).mono ?_; rintro e w2 ⟨b, c, rfl, hb1, hb2, hb3, hg⟩; have HG : Hid (RowG w2 b G) := hg; have HB3 : Hid (Below w.heap.size w w2) := hb3; clear hg hb3)
  clear HC hB h
  gi_loopw [8] (fun i wr => ∃ k : Nat, k ≤ n ∧ i = .int .i64 k ∧ Hid (J w2.heap.size (F.take k) wr ∧ Kpt w.heap.size w2.heap.size w2 wr))
    (fun i _ => n - (intOf i).toNat)
  case atStart => exact ⟨0, Nat.zero_le _, rfl, hs _ _ HB3.out.size (Nat.le_refl _) HB3.out, Kpt.refl _ _ _⟩
  case round =>
    obtain ⟨k, hk, rfl, HJ⟩ := hrel
    by_cases hlt : k < n
    · obtain ⟨⟨⟨x1, x2, x3, x4, x5⟩, ⟨x6, x7, x8, x9, x10, x11, x12, x13⟩, x14⟩, he⟩ : ∃ e, G[k]? = some e := ⟨_, List.getElem?_eq_getElem (by rw [hr.len]; exact hlt)⟩
      have hc : ∀ j u, (En.mk ⟨x1, x2, x3, x4, x5⟩ ⟨x6, x7, x8, x9, x10, x11, x12, x13⟩ x14).l[j]? = some u → wr.cell? ⟨b, k * 14 + j, none⟩ = some u := fun j u hu => by
        have := HG.out k _ he j u hu
        simp only [World.cell?] at this ⊢
        rw [HJ.out.2.block b (by omega) (by omega)]
        exact this
      have c0 := hc 0 _ rfl
      have c1 := hc 1 _ rfl
      have c2 := hc 2 _ rfl
      have c3 := hc 3 _ rfl
      have c4 := hc 4 _ rfl
      have c5 := hc 5 _ rfl
      have c6 := hc 6 _ rfl
      have c7 := hc 7 _ rfl
      have c8 := hc 8 _ rfl
      have c9 := hc 9 _ rfl
      have c10 := hc 10 _ rfl
      have c11 := hc 11 _ rfl
      have c12 := hc 12 _ rfl
      have c13 := hc 13 _ rfl
      rw [Nat.add_zero] at c0
      clear hc
      have j1 : (0 : Int) ≤ (k : Int) := by omega
      have j2 : (k : Int) < (n : Int) := by omega
      have hx : F.take k ++ [⟨x6, x7, x8, x9, x10, x11, x12, x13⟩] = F.take (k + 1) := by
        have e : F[k]? = some ⟨x6, x7, x8, x9, x10, x11, x12, x13⟩ := by rw [← hr.vals, List.getElem?_map, he]; rfl
        rw [List.take_add_one, e]; rfl
      have HX : Hid (F.take k ++ [⟨x6, x7, x8, x9, x10, x11, x12, x13⟩] = F.take (k + 1)) := hx
      have hz : w2.heap.size ≤ (wr.alloc (.cells #[.int .u32 x1, .int .u16 x2, .int .u32 x3, .int .u16 x4, .int .u8 x5, .int .u32 x6, .int .u32 x7, .int .u8 x8, .int .u16 x9, .int .u16 x10, .bool x11, .bool x12, .int .u64 (x13 : Int), .int .u64 (x14 : Int)] 168)).heap.size := by
        have := HJ.out.2.size
        simp; omega
      obtain ⟨fn, tmps, assign, body, hy, hR⟩ := hY w2.heap.size (F.take k) ⟨x6, x7, x8, x9, x10, x11, x12, x13⟩ (wr.alloc (.cells #[.int .u32 x1, .int .u16 x2, .int .u32 x3, .int .u16 x4, .int .u8 x5, .int .u32 x6, .int .u32 x7, .int .u8 x8, .int .u16 x9, .int .u16 x10, .bool x11, .bool x12, .int .u64 (x13 : Int), .int .u64 (x14 : Int)] 168)) HB3.out.size hz (hJ _ _ _ _ HJ.out.1 (Trn.alloc _ _ _)) (by rw [hx]; exact List.take_prefix _ _)
      have HR : Hid (RoundIn _ _ _ _ _ _ _ _ _ _) := hR
      have HJ' : Hid (∀ o : Obj, Kpt w.heap.size w2.heap.size w2 (wr.alloc o)) := fun o => HJ.out.2.alloc HJ.out.2.size o
      dsimp only [Fl.cells] at hy
      clear he hx hR hY hz
      gi_wp2
      refine (round_any HR.out).mono ?_
      rintro e W3 (⟨rfl, hJ3, hk3⟩ | ⟨rfl, hJx3, hk3⟩)
      · have H3 : Hid (J w2.heap.size (F.take (k + 1)) W3 ∧ Kpt w.heap.size w2.heap.size w2 W3) := ⟨by rw [← HX.out]; exact hJ3, (HJ'.out _).trans hk3⟩
        clear hJ3 hk3
        gi_wp2
        go_roundw
        case rel => exact ⟨k + 1, by omega, by simp, H3⟩
        case measure => simp [intOf]; omega
      · gi_wp2
        refine bodyPost_ret (results_none rfl _ _ _) rfl ?_
        exact ⟨⟨_, rfl⟩, _, HB3.out.size, Nat.le_trans (HJ'.out _).size hk3.size, .inr ⟨_, by rw [HX.out]; exact List.take_prefix _ _, hJx3⟩⟩
    · obtain rfl : k = n := by omega
      gi_wp2
      go_end0
      refine ⟨⟨_, rfl⟩, _, HB3.out.size, HJ.out.2.size, .inl ?_⟩
      have := HJ.out.1
      rwa [List.take_of_length_le (by rw [hr.flen]; exact Nat.le_refl _)] at this
set_option maxRecDepth 100000 in
set_option maxHeartbeats 2000000 in
theorem tabAll_nil {T mb room births B : Nat} {f : Nat → En} (w : World) (h : TabAt w T mb (.slice none 0 0) room births 0 f) (hB : w.cell? ⟨B, 0, none⟩ = some (.pointer (some ⟨T, 0, none⟩))) :
    SeqT Tryz.prog 110 #[.pointer (some ⟨B, 0, none⟩)] (fun x : Fl => #[.agg x.cells]) [] w := by
  intro l J Jx hs hJ hJx hY
  have HC : Hid (Calls _ _ _ w _) := byAge_nil w h
  clear hJ hJx hY
  refine (callsIn_wide (n := 3)).1 ?_
  refine callsIn_of_wp Tryz.func110 rfl trivial ?_ rfl
  simp only [Tryz.ntmps110, List.size_toArray, List.length_cons, List.length_nil, Nat.reduceAdd, Nat.reduceSub, Array.replicate_succ, Array.replicate_zero, List.push_toArray, List.append_toArray, List.nil_append, List.cons_append]
  gi_wp2_with (refine ⟨trivial, ?_⟩; gi_at_call 111; refine (callsIn_wide.2 HC.out).mono ?_; rintro e w2 ⟨rfl, rfl⟩)
  gi_loopw [8] (fun i wr => i = .int .i64 0 ∧ wr = w2) (fun _ _ => 0)
  case atStart => exact ⟨rfl, rfl⟩
  case round =>
    obtain ⟨rfl, rfl⟩ := hrel
    gi_wp2
    go_end0
    exact ⟨⟨_, rfl⟩, _, Nat.le_refl _, Nat.le_refl _, .inl (hs _ _ (Nat.le_refl _) (Nat.le_refl _) (Below.refl _ _))⟩
theorem tabAll_seq {T mb room births n B : Nat} {v : Value} {f : Nat → En} {F : List Fl} {G : List En} (w : World) (h : TabAt w T mb v room births n f) (hr : Rel n f births F G) (hB : w.cell? ⟨B, 0, none⟩ = some (.pointer (some ⟨T, 0, none⟩))) :
    SeqT Tryz.prog 110 #[.pointer (some ⟨B, 0, none⟩)] (fun x : Fl => #[.agg x.cells]) F w := by
  rcases h.row with ⟨rfl, rfl⟩ | ⟨g, cap, rfl, _⟩
  · have := hr.flen
    obtain rfl : F = [] := List.eq_nil_of_length_eq_zero this
    exact tabAll_nil w h hB
  · exact tabAll_some w h hr hB
set_option maxHeartbeats 800000 in
theorem tabAll_any (T : Nat) (w : World) :
    Calls Tryz.prog 80 #[.pointer (some ⟨T, 0, none⟩)] w fun e w' => e = .returned (.func (.func 110) #[] #[.pointer (some ⟨w.heap.size, 0, none⟩)]) ∧ w' = w.alloc (.cells #[.pointer (some ⟨T, 0, none⟩)] 106) := by
  go_enter Tryz.func80, Tryz.ntmps80
  go_wp2_with fail
  go_ret
  exact ⟨rfl, rfl⟩
set_option maxHeartbeats 800000 in
theorem keepAll_any (K : Nat) (w : World) :
    Calls Tryz.prog 48 #[.pointer (some ⟨K, 0, none⟩)] w fun e w' => e = .returned (.func (.func 79) #[] #[.pointer (some ⟨w.heap.size, 0, none⟩)]) ∧ w' = w.alloc (.cells #[.pointer (some ⟨K, 0, none⟩)] 80) := by
  go_enter Tryz.func48, Tryz.ntmps48
  go_wp2_with fail
  go_ret
  exact ⟨rfl, rfl⟩
end Go.Proofs.YtclpnafiiobfhabGreatDoor
namespace Go.Proofs.YtclpnafiiobfhabGreatDoor
open Go.RowKit Go.Shelf
set_option linter.unusedVariables false
set_option linter.unusedSimpArgs false

attribute [local go_sem] Oper.semAt_some
theorem round_in {P : Program} {F : Fence} {l' l fn n : Nat} {tmps : Array Value} {assign body : Go.Code} {W : World} {R : Ending → World → Prop} (h : RoundIn F n P l fn tmps assign body W R) : RoundIn (F.inRound l') n P l fn tmps assign body W R := h
theorem cell_at {W : World} {b i : Nat} {c : Array Value} {t : TypeId} (h : W.heap[b]? = some (.cells c t)) (v : Value) (hv : c[i]? = some v) : W.cell? ⟨b, i, none⟩ = some v := by
  simp only [World.cell?, h]; exact hv
theorem Trn.keep {S : Nat → Prop} {A B : World} {m : Nat} {o : Obj} (ht : Trn S A B) (hn : ¬ S m) (ho : A.heap[m]? = some o) : B.heap[m]? = some o :=
  (ht.block _ (Array.getElem?_eq_some_iff.1 ho).1 hn).trans ho
set_option maxRecDepth 100000 in
set_option maxHeartbeats 2000000 in
theorem keepAll_seq {K room now births B : Nat} {O : Nat → Prop} {F : List Fl} (w : World) (h : Kps w O K room now births F) (hB : w.cell? ⟨B, 0, none⟩ = some (.pointer (some ⟨K, 0, none⟩))) (hBl : B < w.heap.size) :
    SeqT Tryz.prog 79 #[.pointer (some ⟨B, 0, none⟩)] (fun x : Fl => #[.agg x.cells]) F w := by
  obtain ⟨T, mb, v, m, f, G, hk, _⟩ := h
  have hK1 := hk.blk.cell 1 _ rfl
  have hKl := hk.blk.lt
  intro l J Jx hs hJ hJx hY
  have HK : Hid (KeepAt w K T mb v room now births m f F G) := hk
  clear hk
  refine (callsIn_wide (n := 3)).1 ?_
  refine callsIn_of_wp_marks Tryz.func79 rfl trivial ?_ rfl
  simp only [Tryz.ntmps79, List.size_toArray, List.length_cons, List.length_nil, Nat.reduceAdd, Nat.reduceSub, Array.replicate_succ, Array.replicate_zero, List.push_toArray, List.append_toArray, List.nil_append, List.cons_append]
  gi_wp2_with (refine ⟨trivial, ?_⟩; gi_at_call 80; refine (callsIn_wide.2 (tabAll_any _ _)).mono ?_; rintro e w2 ⟨rfl, rfl⟩)
  obtain ⟨w2, hw2⟩ : ∃ w2, (w.alloc (Obj.cells #[Value.func (Fn.yield l) #[] #[]] 169)).alloc (Obj.cells #[Value.pointer (some { block := T, off := 0 })] 106) = w2 := ⟨_, rfl⟩
  rw [hw2]
  have hz : w2.heap.size = w.heap.size + 2 := by rw [← hw2]; simp
  have b2 : Below w.heap.size w w2 := by rw [← hw2]; exact ((Below.refl _ w).alloc (Nat.le_refl _) _).alloc (by simp) _
  have y2 : w2.heap[w.heap.size]? = some (.cells #[.func (.yield l) #[] #[]] 169) := by
    rw [← hw2, Below.heap_alloc _ _ _ (by simp)]; exact World.alloc_heap_new w _
  have t2 : w2.heap[w.heap.size + 1]? = some (.cells #[.pointer (some ⟨T, 0, none⟩)] 106) := by
    rw [← hw2]; have := World.alloc_heap_new (w.alloc (Obj.cells #[Value.func (Fn.yield l) #[] #[]] 169)) (Obj.cells #[Value.pointer (some { block := T, off := 0 })] 106); rwa [World.size_alloc] at this
  have wid : ∀ {b : Nat} {A B : World}, Trn (Btw w2.heap.size b) A B → Trn (Btw w.heap.size b) A B := fun ht => ht.mono fun m _ q => ⟨by have := q.1; omega, q.2⟩
  refine wp_range (P := Tryz.prog) (gf := 110) (lb := #[.pointer (some ⟨w.heap.size + 1, 0, none⟩)]) (encs := fun x : Fl => #[.agg x.cells]) (xs := F) rfl (enters_of Tryz.func110 (by kernel_rfl) rfl)
    (fun W1 h1 => tabAll_seq W1 (HK.out.tab.below (b2.trans (h1.mono (by omega)))) HK.out.rel (cell_at ((h1.block _ (by omega)).trans t2) _ rfl)) (fun _ => rfl)
    (fun b pre W => J b pre W ∧ W.heap[w.heap.size]? = some (.cells #[.func (.yield l) #[] #[]] 169))
    (fun b c pre W => c = .ret ∧ Jx b pre W)
    (fun b W2 h1 h2 h3 => ⟨hs b W2 (by omega) h2 (b2.trans (h3.mono (by omega))), (h3.block _ (by omega)).trans y2⟩)
    (fun b pre A B h t => ⟨hJ b pre A B h.1 (wid t), t.keep (fun q => by have := q.1; omega) h.2⟩)
    (fun b c pre A B h t => ⟨h.1, hJx b pre A B h.2 (wid t)⟩)
    (fun b x a' W => ∃ Bx, b ≤ Bx ∧ W.heap[Bx]? = some (.cells x.cells 113) ∧ a' = { tmps := #[.func (.yield l) #[] #[], .pointer (some ⟨B, 0, none⟩), .pointer (some ⟨w.heap.size, 0, none⟩), .pointer (some ⟨Bx, 0, none⟩), .pointer (some ⟨K, 0, none⟩), .pointer (some ⟨K, 0, none⟩), .pointer (some ⟨K, 1, none⟩), .pointer (some ⟨T, 0, none⟩), .func (.func 110) #[] #[.pointer (some ⟨w.heap.size + 1, 0, none⟩)], .agg x.cells, undef, undef, undef, undef], defers := [] })
    (fun b x a' A B h t => by obtain ⟨Bx, h1, h2, h3⟩ := h; exact ⟨Bx, h1, t.keep (fun q => by have := q.2; omega) h2, h3⟩)
    ?assign ?body ?done ?stop
  case assign =>
    rintro l' b pre ⟨x1, x2, x3, x4, x5, x6, x7, x8⟩ W K' hb hbW _ hK
    dsimp only [Fl.cells] at hK ⊢
    have HKK : Hid (∀ a' W', Below W.heap.size W W' → (∃ Bx, b ≤ Bx ∧ W'.heap[Bx]? = some (Obj.cells #[.int .u32 x1, .int .u32 x2, .int .u8 x3, .int .u16 x4, .int .u16 x5, .bool x6, .bool x7, .int .u64 (x8 : Int)] 113) ∧ a' = _) → K' a' W') := hK
    clear hK
    gi_wp2
    exact HKK.out _ _ ((Below.refl _ W).alloc (Nat.le_refl _) _) ⟨W.heap.size, hbW, World.alloc_heap_new W _, rfl⟩
  case body =>
    rintro l' b pre x a' W hb hbW ⟨hi, hy0⟩ ⟨Bx, hBx, hx, rfl⟩ hpre
    obtain ⟨x1, x2, x3, x4, x5, x6, x7, x8⟩ := x
    obtain ⟨fn, tmps, assign, body, hy, hR⟩ := hY b pre ⟨x1, x2, x3, x4, x5, x6, x7, x8⟩ W (by omega) hbW hi hpre
    have HR : Hid (RoundIn _ _ _ _ _ _ _ _ _ _) := hR
    dsimp only [Fl.cells] at hy hx ⊢
    have c := cell_at hy0 _ rfl (i := 0)
    have c0 := cell_at hx _ rfl (i := 0)
    have c1 := cell_at hx _ rfl (i := 1)
    have c2 := cell_at hx _ rfl (i := 2)
    have c3 := cell_at hx _ rfl (i := 3)
    have c4 := cell_at hx _ rfl (i := 4)
    have c5 := cell_at hx _ rfl (i := 5)
    have c6 := cell_at hx _ rfl (i := 6)
    have c7 := cell_at hx _ rfl (i := 7)
    have HY0 : Hid (W.heap[w.heap.size]? = some (.cells #[.func (.yield l) #[] #[]] 169)) := hy0
    clear hR hx hi hpre hy0 hY hw2 y2 t2
    gi_wp2
    refine ⟨rfl, RoundIn.mono (round_in (round_any HR.out)) ?_⟩
    rintro e W3 (⟨rfl, hJ3, hk3⟩ | ⟨rfl, hJx3, hk3⟩)
    · have H3 : Hid (J b (pre ++ [⟨x1, x2, x3, x4, x5, x6, x7, x8⟩]) W3 ∧ Kpt w.heap.size b W W3) := ⟨hJ3, hk3⟩
      clear hJ3 hk3
      gi_wp2
      exact ⟨H3.out.2.mono (by omega) (Nat.le_refl _), H3.out.1, (H3.out.2.block _ (Nat.le_refl _) (by omega)).trans HY0.out⟩
    · have H3 : Hid (Jx b (pre ++ [⟨x1, x2, x3, x4, x5, x6, x7, x8⟩]) W3 ∧ Kpt w.heap.size b W W3) := ⟨hJx3, hk3⟩
      clear hJx3 hk3
      gi_wp2
      exact ⟨H3.out.2.mono (by omega) (Nat.le_refl _), rfl, H3.out.1⟩
  case done =>
    rintro D b W hD1 hD2 hbW ⟨hi, _⟩ hK
    gi_wp2
    refine ⟨by simp, .inl ⟨_, _, rfl, run_takeDeferred hK, ?_⟩⟩
    exact ⟨_, results_none rfl _ _ _, ⟨_, rfl⟩, b, by omega, by simp; exact hbW, .inl (hJ _ _ _ _ hi (Trn.put _ _ _ ⟨by omega, hD2⟩))⟩
  case stop =>
    rintro D b c pre W hD1 hD2 hbW hp ⟨rfl, hi⟩ hK
    gi_wp2
    refine ⟨by simp, .inl ⟨_, _, rfl, run_takeDeferred hK, ?_⟩⟩
    exact ⟨_, results_none rfl _ _ _, ⟨_, rfl⟩, b, by omega, by simp; exact hbW, .inr ⟨pre, hp, hJx _ _ _ _ hi (Trn.put _ _ _ ⟨by omega, hD2⟩)⟩⟩
end Go.Proofs.YtclpnafiiobfhabGreatDoor
namespace Go.Proofs.YtclpnafiiobfhabGreatDoor
open Go.RowKit Go.Shelf
set_option linter.unusedVariables false
set_option linter.unusedSimpArgs false

attribute [local go_sem] Oper.semAt_some
section
variable {Q K : Nat} {O : Nat → Prop} {cv : Value} {R : Option Bk} {room now births : Nat} {F : List Fl} {cA cD cR cM : Nat}
set_option maxHeartbeats 800000 in
theorem gflows_any (w : World) (h : GateAt w Q K O cv R room now births F cA cD cR cM) :
    Calls Tryz.prog 32 #[.pointer (some ⟨Q, 0, none⟩)] w fun e w' => e = .returned (.func (.func 79) #[] #[.pointer (some ⟨w.heap.size, 0, none⟩)]) ∧ w' = w.alloc (.cells #[.pointer (some ⟨K, 0, none⟩)] 80) := by
  have c1 := h.blk.cell 1 _ rfl
  have HC : Hid (Calls _ _ _ w _) := keepAll_any K w
  clear h
  go_enter Tryz.func32, Tryz.ntmps32
  go_wp2_with (go_at_call 48; refine HC.out.mono ?_; rintro e w2 ⟨rfl, rfl⟩)
  go_ret
  exact ⟨rfl, rfl⟩
set_option maxHeartbeats 800000 in
theorem gnow_any (w : World) (h : GateAt w Q K O cv R room now births F cA cD cR cM) :
    Calls Tryz.prog 19 #[.pointer (some ⟨Q, 0, none⟩)] w fun e w' => e = .returned (.int .u64 (now : Int)) ∧ w' = w := by
  have c1 := h.blk.cell 1 _ rfl
  have HC : Hid (Calls _ _ _ w _) := keepNow_any w h.keeps
  clear h
  go_enter Tryz.func19, Tryz.ntmps19
  go_wp2_with (go_at_call 33; refine HC.out.mono ?_; rintro e w2 ⟨rfl, rfl⟩)
  go_ret
  exact ⟨rfl, rfl⟩
set_option maxHeartbeats 800000 in
theorem gcounts_any (w : World) (h : GateAt w Q K O cv R room now births F cA cD cR cM) :
    Calls Tryz.prog 20 #[.pointer (some ⟨Q, 0, none⟩)] w fun e w' => e = .returned (.agg #[.int .u64 (cA : Int), .int .u64 (cD : Int), .int .u64 (cR : Int), .int .u64 (cM : Int)]) ∧ Below w.heap.size w w' := by
  have c1 := h.blk.cell 2 _ rfl
  have c2 := h.blk.cell 3 _ rfl
  have c3 := h.blk.cell 4 _ rfl
  have c4 := h.blk.cell 5 _ rfl
  have hQ := h.blk.lt
  clear h
  go_enter Tryz.func20, Tryz.ntmps20
  go_wp2_with fail
  refine bodyPost_ret (v := .agg #[.int .u64 (cA : Int), .int .u64 (cD : Int), .int .u64 (cR : Int), .int .u64 (cM : Int)]) (by simp [results, Tryz.results20, go_sem]) rfl ⟨rfl, ?_⟩
  repeat (first | with_reducible exact Below.refl _ _ | with_reducible refine Below.drew ?_ | with_reducible refine Below.setCell ?_ (by first | (simp; done) | (simp; omega)) _ | with_reducible refine Below.alloc ?_ (by first | (simp; done) | (simp; omega)) _)
/-- flows, flat -/
def flatF (l : List Fl) : List Value := l.flatMap fun x => x.cells.toList
theorem flatF_add (l : List Fl) (x : Fl) : flatF (l ++ [x]) = flatF l ++ x.cells.toList := by simp [flatF]
theorem ownsRow_trn {W W' : World} {base e size k : Nat} {v : Value} {xs : List Value} {S : Nat → Prop} (h : W.ownsRow base e size v k xs) (ht : Trn S W W') (hs : ∀ m, base ≤ m → ¬ S m) : W'.ownsRow base e size v k xs := by
  refine ⟨h.1, ?_⟩
  rcases h.2 with q | ⟨g, cap, cur, q1, q2, q3, q4⟩
  · exact .inl q
  · exact .inr ⟨g, cap, cur, q1, q2, ht.keep (hs g q2) q3, q4⟩
theorem boxed_app {W w1 : World} {b B : Nat} {t e : TypeId} {size : Nat} {v v' : Value} {k m : Nat} {xs ys : List Value} {tmp : Obj} (hv : Boxed W B t v) (hte : t ≠ e) (hrow : W.ownsRow b e size v k xs) (hown' : w1.ownsRow b e size v' m ys) (hgrow : (W.alloc tmp).grownBy w1 v.ownBlock) :
    Boxed w1 B t v ∧ Boxed (w1.setCell ⟨B, 0, none⟩ v') B t v' ∧ (w1.setCell ⟨B, 0, none⟩ v').ownsRow b e size v' m ys ∧ Trn (fun x => x = B ∨ b ≤ x) W (w1.setCell ⟨B, 0, none⟩ v') := by
  have h1 : Boxed w1 B t v := (hv.alloc tmp).kept hgrow (hv.not_row hte hrow)
  refine ⟨h1, h1.set v', hown'.kept (grownBy_setCell' w1 B v') (.inr (h1.not_row hte hown').symm), ?_⟩
  refine ((Trn.alloc _ W tmp).trans (Trn.grown' (S := fun x => x = B ∨ b ≤ x) hgrow (fun j ej => ?_)) (fun _ _ q => q)).trans (Trn.setCell (S := fun x => x = B ∨ b ≤ x) w1 B 0 v' (.inl rfl)) (fun _ _ q => q)
  rcases hrow.2 with ⟨rfl, _⟩ | ⟨g, cap, cur, rfl, q, _⟩
  · simp [Value.ownBlock] at ej
  · obtain rfl : g = j := by simpa [Value.ownBlock] using ej
    exact .inr q
theorem Tryz.infoFl : (Tryz.prog.info? 54).map (fun i => (i.zero, i.size, i.bytes)) = some (some (.agg #[.int .u32 0, .int .u32 0, .int .u8 0, .int .u16 0, .int .u16 0, .bool false, .bool false, .int .u64 0]), 8, 24) := by kernel_rfl
theorem cells_new (W : World) (L : List Value) (t : TypeId) : ∀ j u, L[j]? = some u → (W.alloc (.cells L.toArray t)).cell? ((⟨W.heap.size, 0, none⟩ : Addr).add j) = some u := by
  intro j u h
  have e : (⟨W.heap.size, 0, none⟩ : Addr).add j = ⟨W.heap.size, j, none⟩ := by
    by_cases q : j = 0 <;> simp [Addr.add, q]
  rw [e]
  exact cell_at (World.alloc_heap_new W _) _ (by simpa using h)
set_option maxRecDepth 100000 in
set_option maxHeartbeats 2000000 in
theorem glist_any (w : World) (h : GateAt w Q K O cv R room now births F cA cD cR cM) :
    Calls Tryz.prog 18 #[.pointer (some ⟨Q, 0, none⟩)] w fun e w' => ∃ v, e = .returned v ∧ w'.ownsRow w.heap.size 54 8 v F.length (flatF F) ∧ Below w.heap.size w w' := by
  have HC : Hid (∀ o, Calls _ _ _ (w.alloc o) _) := fun o => gflows_any (w.alloc o) (h.below ((Below.refl _ _).alloc (Nat.le_refl _) _))
  have HG : Hid (GateAt w Q K O cv R room now births F cA cD cR cM) := h
  have hF : F.length ≤ 64 := by
    obtain ⟨T, mb, v, n, f, G, h, _⟩ := h.keeps
    rw [h.rel.flen]; exact Nat.le_trans h.tab.le h.tab.big
  obtain ⟨i0, hi0, hz0, hz1, hz2⟩ := infos Tryz.infoFl
  clear h
  refine (callsIn_wide (n := 3)).1 ?_
  refine callsIn_of_wp_marks Tryz.func18 rfl trivial ?_ rfl
  simp only [Tryz.ntmps18, List.size_toArray, List.length_cons, List.length_nil, Nat.reduceAdd, Nat.reduceSub, Array.replicate_succ, Array.replicate_zero, List.push_toArray, List.append_toArray, List.nil_append, List.cons_append]
  gi_wp2_with (refine ⟨trivial, ?_⟩; gi_at_call 32; refine (callsIn_wide.2 (HC.out _)).mono ?_; rintro e w2 ⟨rfl, rfl⟩)
  obtain ⟨w2, hw2⟩ : ∃ w2, (w.alloc (Obj.cells #[Value.slice none 0 0] 50)).alloc (Obj.cells #[Value.pointer (some { block := K, off := 0 })] 80) = w2 := ⟨_, rfl⟩
  rw [hw2]
  have hz : w2.heap.size = w.heap.size + 2 := by rw [← hw2]; simp
  have b2 : Below w.heap.size w w2 := by rw [← hw2]; exact ((Below.refl _ w).alloc (Nat.le_refl _) _).alloc (by simp) _
  have y2 : Boxed w2 w.heap.size 50 (.slice none 0 0) := by
    rw [← hw2]; exact (Boxed.new w _ _).alloc _
  have t2 : w2.heap[w.heap.size + 1]? = some (.cells #[.pointer (some ⟨K, 0, none⟩)] 80) := by
    rw [← hw2]; have := World.alloc_heap_new (w.alloc (Obj.cells #[Value.slice none 0 0] 50)) (Obj.cells #[Value.pointer (some { block := K, off := 0 })] 80); rwa [World.size_alloc] at this
  refine wp_range (P := Tryz.prog) (gf := 79) (lb := #[.pointer (some ⟨w.heap.size + 1, 0, none⟩)]) (encs := fun x : Fl => #[.agg x.cells]) (xs := F) rfl (enters_of Tryz.func79 (by kernel_rfl) rfl)
    (fun W1 h1 => keepAll_seq W1 (HG.out.keeps.below (b2.trans (h1.mono (by omega)))) (cell_at ((h1.block _ (by omega)).trans t2) _ rfl) (by have := h1.size; omega)) (fun _ => rfl)
    (fun b pre W => ∃ v, Boxed W w.heap.size 50 v ∧ W.ownsRow b 54 8 v pre.length (flatF pre) ∧ Below w.heap.size w W)
    (fun b c pre W => False)
    (fun b W2 h1 h2 h3 => ⟨_, (h3.block _ (by omega)).trans y2, World.ownsRow_nil _ _ _ _, b2.trans (h3.mono (by omega))⟩)
    (fun b pre A B h t => by
      obtain ⟨v, q1, q2, q3⟩ := h
      exact ⟨v, t.keep (fun q => by have := q.1; omega) q1, ownsRow_trn q2 t (fun m hm q => by have := q.2; omega), q3.trans (t.to_below q3.size (fun m hm q => by have := q.1; omega))⟩)
    (fun b c pre A B h t => h)
    (fun b x a' W => ∃ Bx, b ≤ Bx ∧ W.heap[Bx]? = some (.cells x.cells 54) ∧ a' = { tmps := #[.pointer (some ⟨Q, 0, none⟩), undef, .slice none 0 0, .pointer (some ⟨w.heap.size, 0, none⟩), .pointer (some ⟨Bx, 0, none⟩), .pointer (some ⟨Q, 0, none⟩), .func (.func 79) #[] #[.pointer (some ⟨w.heap.size + 1, 0, none⟩)], .agg x.cells, undef, undef, undef, undef, undef], defers := [] })
    (fun b x a' A B h t => by obtain ⟨Bx, h1, h2, h3⟩ := h; exact ⟨Bx, h1, t.keep (fun q => by have := q.2; omega) h2, h3⟩)
    ?assign ?body ?done ?stop
  case assign =>
    rintro l' b pre ⟨x1, x2, x3, x4, x5, x6, x7, x8⟩ W K' hb hbW _ hK
    dsimp only [Fl.cells] at hK ⊢
    have HKK : Hid (∀ a' W', Below W.heap.size W W' → (∃ Bx, b ≤ Bx ∧ W'.heap[Bx]? = some (Obj.cells #[.int .u32 x1, .int .u32 x2, .int .u8 x3, .int .u16 x4, .int .u16 x5, .bool x6, .bool x7, .int .u64 (x8 : Int)] 54) ∧ a' = _) → K' a' W') := hK
    clear hK
    gi_wp2
    exact HKK.out _ _ ((Below.refl _ W).alloc (Nat.le_refl _) _) ⟨W.heap.size, hbW, World.alloc_heap_new W _, rfl⟩
  case body =>
    rintro l' b pre x a' W hb hbW ⟨v, hv, hrow, hB⟩ ⟨Bx, hBx, hx, rfl⟩ hpre
    obtain ⟨x1, x2, x3, x4, x5, x6, x7, x8⟩ := x
    have hl : pre.length + 1 ≤ 64 := by have := hpre.length_le; simp at this; omega
    have HX : Hid (flatF (pre ++ [⟨x1, x2, x3, x4, x5, x6, x7, x8⟩]) = flatF pre ++ [.int .u32 x1, .int .u32 x2, .int .u8 x3, .int .u16 x4, .int .u16 x5, .bool x6, .bool x7, .int .u64 (x8 : Int)]) := flatF_add _ _
    dsimp only [Fl.cells] at hx ⊢
    have c := hv.cell
    have c0 := cell_at hx _ rfl (i := 0)
    have c1 := cell_at hx _ rfl (i := 1)
    have c2 := cell_at hx _ rfl (i := 2)
    have c3 := cell_at hx _ rfl (i := 3)
    have c4 := cell_at hx _ rfl (i := 4)
    have c5 := cell_at hx _ rfl (i := 5)
    have c6 := cell_at hx _ rfl (i := 6)
    have c7 := cell_at hx _ rfl (i := 7)
    have HB : Hid (Below w.heap.size w W) := hB
    clear hx hpre hw2 y2 t2 hB
    gi_wp2_with (gi_at_builtin; refine wpListIn_append_own _ rfl _ _ 50 rfl b 54 i0 _ 8 24 Tryz.underlying50 hi0 hz0 hz1 hz2 rfl (by decide) _ _ _ rfl (hrow.alloc _) ⟨W.heap.size, 0, none⟩ 1 1 [.int .u32 x1, .int .u32 x2, .int .u8 x3, .int .u16 x4, .int .u16 x5, .bool x6, .bool x7, .int .u64 (x8 : Int)] rfl rfl (cells_new _ _ _) (by simp [Value.oneCell']) (by unfold maxLen; omega) (by omega) (by simp; omega) ?_; intro v' w1 hown' hgrow _; obtain ⟨g', cap', rfl⟩ := ownsRow_succ hown'; obtain ⟨hv1, hv2, hr2, ht2⟩ := boxed_app hv (by decide) hrow hown' hgrow; have hc1 := hv1.cell; have hf1 := hv1.frozen)
    refine ⟨Kpt.trn ht2 hbW (fun m h1 h2 q => by omega), _, hv2, ?_, HB.out.trans (ht2.to_below HB.out.size (fun m hm q => by omega))⟩
    rw [HX.out]
    simpa using hr2
  case done =>
    rintro D b W hD1 hD2 hbW ⟨v, hv, hrow, hB⟩ hK
    have hc := hv.cell
    gi_wp2
    refine ⟨by simp, .inl ⟨_, _, rfl, run_takeDeferred hK, ?_⟩⟩
    refine ⟨_, results_tmp rfl _ _ _, v, rfl, ?_, hB.trans ((Trn.put (S := fun x => x = D) W D _ rfl).to_below hB.size (fun m hm q => by omega))⟩
    have := ownsRow_putObj hrow (.deferred none) hK rfl
    rcases this.2 with q | ⟨g, cap, cur, q1, q2, q3⟩
    · exact ⟨this.1, .inl q⟩
    · exact ⟨this.1, .inr ⟨g, cap, cur, q1, by omega, q3⟩⟩
  case stop =>
    rintro D b c pre W hD1 hD2 hbW hp h hK
    exact h.elim
end
end Go.Proofs.YtclpnafiiobfhabGreatDoor
namespace Go.Proofs.YtclpnafiiobfhabGreatDoor
open Go.RowKit
set_option linter.unusedVariables false
set_option linter.unusedSimpArgs false

set_option maxRecDepth 20000 in
set_option maxHeartbeats 3200000 in
theorem gload_bad (Q : Nat) (W : World) (hL : Laid W) (hm : MaxL W) (s : ByteArray) (k n : Nat) (b : Bk) (hs : s.size ≤ maxLen) (hr : readT s = (k, n, b)) (hk : k ≠ 0) :
    Calls Tryz.prog 30 #[.pointer (some ⟨Q, 0, none⟩), .string s] W fun e w' => ∃ ev, e = .returned ev ∧ RuleErr W w' ev k n ∧ Below W.heap.size W w' := by
  have HC : Hid (Calls _ _ _ W _) := compile_any s W hm hL hs (fun q => by rw [hr] at q; exact absurd q hk)
  rw [hr] at HC
  dsimp only at HC
  clear hL hm hs hr
  go_enter Tryz.func30, Tryz.ntmps30
  go_wp2_with (go_at_call 45; refine HC.out.mono ?_; rintro e w2 ⟨q1, q2, hb2⟩; obtain ⟨ev, rfl, hE⟩ := q1 hk; have HE : Hid (RuleErr W w2 ev k n ∧ Below W.heap.size W w2) := ⟨hE, hb2⟩; obtain ⟨⟨cc, rfl, q3, q4, q5, q6⟩⟩ := hE; clear q1 q2 hb2 q3 q4 q5 q6)
  go_ret
  exact ⟨_, rfl, HE.out.1, HE.out.2⟩
set_option maxRecDepth 20000 in
set_option maxHeartbeats 3200000 in
theorem plLoad_bad (Q : Nat) (W : World) (hL : Laid W) (hm : MaxL W) (s : ByteArray) (k n : Nat) (b : Bk) (hs : s.size ≤ maxLen) (hr : readT s = (k, n, b)) (hk : k ≠ 0) :
    Calls Tryz.prog 16 #[.pointer (some ⟨Q, 0, none⟩), .string s] W fun e w' => e = .returned (.tuple #[.int .i64 (k : Int), .int .i64 (n : Int)]) ∧ Below W.heap.size W w' := by
  have HM : Hid (Calls _ _ _ W _) := gload_bad Q W hL hm s k n b hs hr hk
  have HL : Hid (Laid W) := hL
  clear hL hm hs hr
  go_enter Tryz.func16, Tryz.ntmps16
  go_wp2_with (first | (go_at_call 30; refine HM.out.mono ?_; rintro e w2 ⟨ev, rfl, hE, hb2⟩; obtain ⟨⟨cc, rfl, q1, q2, q3, q4⟩⟩ := hE; have HB2 : Hid (Below W.heap.size W w2) := hb2) | (go_at_call 22; refine (told_rule cc _ _ _ (HL.out.below hb2) q2 q3 q4).mono ?_; rintro e w3 ⟨rfl, hb3⟩; have HB3 : Hid (Below w2.heap.size w2 w3) := hb3))
  go_ret2
  exact ⟨rfl, HB2.out.trans (HB3.out.mono HB2.out.size)⟩
theorem spk_load_bad {w Wr W : World} {Ks : List Nat} {Q K : Nat} {R : Option Bk} {room now : Nat} {F : List Fl} {N : Nat} (h : Spk w Wr W Ks Q K R room now F N) (hL : Laid w) (hm : MaxL w) (s : ByteArray) (k n : Nat) (b : Bk) (hs : s.size ≤ maxLen) (hr : readT s = (k, n, b)) (hk : k ≠ 0) :
    Calls Tryz.prog 16 #[.pointer (some ⟨Q, 0, none⟩), .string s] W fun e w' => e = .returned (.tuple #[.int .i64 (k : Int), .int .i64 (n : Int)]) ∧ Spk w Wr w' Ks Q K R room now F N :=
  (plLoad_bad Q W (hL.below h.base) (hm.below h.base) s k n b hs hr hk).mono (fun e w' z => ⟨z.1, h.below z.2⟩)
end Go.Proofs.YtclpnafiiobfhabGreatDoor

import Derived.WalkSpells
import Derived.Test.YtclpnafiiobfhabGreatDoorPlain
import Derived.Test.YtclpnafiiobfhabGreatDoorBase
import Derived.Test.YtclpnafiiobfhabGreatDoorProg
import Derived.Deep.QuietTactic
import Derived.BigQuiet
import Derived.BigRegion
import Derived.Laws.StructEq
import Derived.Deep.CutRange
import Derived.Great.Walk
import Derived.Great.BuildSlice
import Derived.Deep.WholeRow
import Derived.DeepKeys4
import Derived.Maps.OwnSet
import Derived.Deep.MidRow
import Derived.Deep.RegionHeld3
namespace Go.Proofs.YtclpnafiiobfhabGreatDoor.Hp

/-- two places change what they hold -/
def swp {α : Type} (f : Nat → α) (a b : Nat) : Nat → α := fun i => if i = a then f b else if i = b then f a else f i
theorem swp_left {α : Type} (f : Nat → α) (a b : Nat) : swp f a b a = f b := by simp [swp]
theorem swp_right {α : Type} (f : Nat → α) (a b : Nat) : swp f a b b = f a := by
  unfold swp; split <;> simp_all
theorem swp_other {α : Type} (f : Nat → α) (a b i : Nat) (h1 : i ≠ a) (h2 : i ≠ b) : swp f a b i = f i := by simp [swp, h1, h2]

def Heapy (n : Nat) (r : Nat → Nat) : Prop := ∀ i, 0 < i → i < n → r ((i - 1) / 2) ≤ r i
/-- all is in order but at 'at' towards its parent; what lies below 'at' goes behind 'at''s parent -/
def Up (n at' : Nat) (r : Nat → Nat) : Prop := (∀ i, 0 < i → i < n → i ≠ at' → r ((i - 1) / 2) ≤ r i) ∧ (0 < at' → ∀ i, 0 < i → i < n → (i - 1) / 2 = at' → r ((at' - 1) / 2) ≤ r i)
/-- all is in order but at 'at' towards its children -/
def Down (n at' : Nat) (r : Nat → Nat) : Prop := (∀ i, 0 < i → i < n → (i - 1) / 2 ≠ at' → r ((i - 1) / 2) ≤ r i) ∧ (0 < at' → ∀ i, 0 < i → i < n → (i - 1) / 2 = at' → r ((at' - 1) / 2) ≤ r i)

theorem Heapy.first {n : Nat} {r : Nat → Nat} (h : Heapy n r) : ∀ i, i < n → r 0 ≤ r i := by
  intro i
  induction i using Nat.strongRecOn with
  | _ i ih =>
    intro hi
    by_cases h0 : i = 0
    · subst h0; exact Nat.le_refl _
    · exact Nat.le_trans (ih ((i - 1) / 2) (by omega) (by omega)) (h i (by omega) hi)
theorem Heapy.less {n m : Nat} {r : Nat → Nat} (h : Heapy n r) (hm : m ≤ n) : Heapy m r := fun i h0 hi => h i h0 (by omega)
theorem Heapy.same {n : Nat} {r s : Nat → Nat} (h : Heapy n r) (e : ∀ i, i < n → r i = s i) : Heapy n s := fun i h0 hi => by
  rw [← e i hi, ← e _ (by omega)]; exact h i h0 hi

theorem Up.top {n : Nat} {r : Nat → Nat} (h : Up n 0 r) : Heapy n r := fun i h0 hi => h.1 i h0 hi (by omega)
theorem Up.stop {n a : Nat} {r : Nat → Nat} (h : Up n a r) (hs : r ((a - 1) / 2) ≤ r a) : Heapy n r := fun i h0 hi => by
  by_cases e : i = a
  · subst e; exact hs
  · exact h.1 i h0 hi e
theorem Up.swap {n a : Nat} {r : Nat → Nat} (h : Up n a r) (h0 : 0 < a) (ha : a < n) (hs : r a < r ((a - 1) / 2)) : Up n ((a - 1) / 2) (swp r a ((a - 1) / 2)) := by
  have hp : (a - 1) / 2 < a := by omega
  constructor
  · intro i i0 hi hne
    by_cases e : i = a
    · subst e
      rw [swp_left, swp_right]; omega
    · rw [swp_other r _ _ i e hne]
      by_cases e2 : (i - 1) / 2 = a
      · rw [e2, swp_left]; exact h.2 h0 i i0 hi e2
      · by_cases e3 : (i - 1) / 2 = (a - 1) / 2
        · rw [e3, swp_right]
          have := h.1 i i0 hi e
          rw [e3] at this; omega
        · rw [swp_other r _ _ _ e2 e3]; exact h.1 i i0 hi e
  · intro hp0 i i0 hi hip
    have q : (((a - 1) / 2) - 1) / 2 ≠ a ∧ (((a - 1) / 2) - 1) / 2 ≠ (a - 1) / 2 := by omega
    rw [swp_other r _ _ _ q.1 q.2]
    have hpp := h.1 ((a - 1) / 2) hp0 (by omega) (by omega)
    by_cases e : i = a
    · subst e; rw [swp_left]; exact hpp
    · rw [swp_other r _ _ i e (by omega)]
      have := h.1 i i0 hi e
      rw [hip] at this; omega

theorem Down.stop {n a : Nat} {r : Nat → Nat} (h : Down n a r) (hs : ∀ c, 0 < c → c < n → (c - 1) / 2 = a → r a ≤ r c) : Heapy n r := fun i h0 hi => by
  by_cases e : (i - 1) / 2 = a
  · rw [e]; exact hs i h0 hi e
  · exact h.1 i h0 hi e
theorem Down.swap {n a c : Nat} {r : Nat → Nat} (h : Down n a r) (hc0 : 0 < c) (hc : c < n) (hp : (c - 1) / 2 = a) (hl : r c < r a) (hm : ∀ d, 0 < d → d < n → (d - 1) / 2 = a → r c ≤ r d) : Down n c (swp r a c) := by
  have hac : a < c := by omega
  constructor
  · intro i i0 hi hne
    by_cases e : i = a
    · subst e
      rw [swp_left, swp_other r _ _ _ (by omega) (by omega)]
      have := h.2 i0 c hc0 hc hp
      exact this
    · by_cases e1 : i = c
      · subst e1
        rw [hp, swp_left, swp_right]; omega
      · rw [swp_other r _ _ i e e1]
        by_cases e2 : (i - 1) / 2 = a
        · rw [e2, swp_left]; exact hm i i0 hi e2
        · rw [swp_other r _ _ _ e2 hne]; exact h.1 i i0 hi e2
  · intro _ i i0 hi hip
    rw [hp, swp_left, swp_other r _ _ i (by omega) (by omega)]
    have := h.1 i i0 hi (by omega)
    rw [hip] at this; exact this

theorem Heapy.down {n a : Nat} {r : Nat → Nat} (h : Heapy n r) : Down n a r := ⟨fun i h0 hi _ => h i h0 hi, fun h0 i i0 hi e => by
  have h1 := h i i0 hi
  rw [e] at h1
  exact Nat.le_trans (h a h0 (by omega)) h1⟩
/-- the last goes to the first place, and is to sink there -/
theorem Heapy.last {n : Nat} {r : Nat → Nat} (h : Heapy (n + 1) r) : Down n 0 (swp r 0 n) := by
  constructor
  · intro i i0 hi hne
    rw [swp_other r _ _ i (by omega) (by omega), swp_other r _ _ _ hne (by omega)]
    exact h i i0 (by omega)
  · intro h0; omega
/-- one more behind -/
theorem Heapy.more {n : Nat} {r : Nat → Nat} (h : Heapy n r) : Up (n + 1) n r := ⟨fun i i0 hi hne => h i i0 (by omega), fun _ i i0 hi e => by omega⟩
/-- a value that has changed: it is in order towards its children, or may rise -/
theorem Heapy.turn {n a : Nat} {r s : Nat → Nat} (h : Heapy n r) (e : ∀ i, i ≠ a → s i = r i) (hl : s a ≤ r a) : Up n a s := by
  constructor
  · intro i i0 hi hne
    rw [e i hne]
    by_cases q : (i - 1) / 2 = a
    · rw [q]; have := h i i0 hi; rw [q] at this; omega
    · rw [e _ q]; exact h i i0 hi
  · intro h0 i i0 hi q
    rw [e i (by omega), e _ (by omega)]
    have h1 := h i i0 hi
    rw [q] at h1
    exact Nat.le_trans (h a h0 (by omega)) h1
theorem Heapy.turnDown {n a : Nat} {r s : Nat → Nat} (h : Heapy n r) (e : ∀ i, i ≠ a → s i = r i) (hl : r a ≤ s a) : Down n a s := by
  constructor
  · intro i i0 hi hne
    rw [e _ hne]
    by_cases q : i = a
    · subst q; exact Nat.le_trans (h i i0 hi) hl
    · rw [e i q]; exact h i i0 hi
  · intro h0 i i0 hi q
    rw [e i (by omega), e _ (by omega)]
    have h1 := h i i0 hi
    rw [q] at h1
    exact Nat.le_trans (h a h0 (by omega)) h1

/-! ### rise and sink as functions -/
def rise {α : Type} (rk : α → Nat) : Nat → (Nat → α) → Nat → (Nat → α)
  | 0, f, _ => f
  | k + 1, f, a => if a = 0 then f else if rk (f a) < rk (f ((a - 1) / 2)) then rise rk k (swp f a ((a - 1) / 2)) ((a - 1) / 2) else f
/-- the least of 'a' and its children -/
def least {α : Type} (rk : α → Nat) (n : Nat) (f : Nat → α) (a : Nat) : Nat :=
  let b := if 2 * a + 1 < n ∧ rk (f (2 * a + 1)) < rk (f a) then 2 * a + 1 else a
  if 2 * a + 2 < n ∧ rk (f (2 * a + 2)) < rk (f b) then 2 * a + 2 else b
def sink {α : Type} (rk : α → Nat) (n : Nat) : Nat → (Nat → α) → Nat → (Nat → α)
  | 0, f, _ => f
  | k + 1, f, a => if least rk n f a = a then f else sink rk n k (swp f a (least rk n f a)) (least rk n f a)

theorem rk_swp {α : Type} (rk : α → Nat) (f : Nat → α) (a b : Nat) : (fun i => rk (swp f a b i)) = swp (fun i => rk (f i)) a b := by
  funext i; simp only [swp]; split
  · rfl
  · split <;> rfl
theorem rise_heapy {α : Type} (rk : α → Nat) (n : Nat) : ∀ (k : Nat) (f : Nat → α) (a : Nat), a ≤ k → a < n → Up n a (fun i => rk (f i)) → Heapy n (fun i => rk (rise rk k f a i)) := by
  intro k
  induction k with
  | zero => intro f a hk _ h; obtain rfl : a = 0 := by omega
            exact h.top
  | succ k ih =>
    intro f a hk ha h
    unfold rise
    split
    · rename_i e; subst e; exact h.top
    · split
      · rename_i e q
        refine ih _ _ (by omega) (by omega) ?_
        rw [rk_swp]
        exact h.swap (by omega) ha q
      · rename_i e q
        exact h.stop (by simp at q ⊢; exact q)
theorem least_cases {α : Type} (rk : α → Nat) (n : Nat) (f : Nat → α) (a : Nat) : least rk n f a = a ∨ (least rk n f a = 2 * a + 1 ∧ 2 * a + 1 < n) ∨ (least rk n f a = 2 * a + 2 ∧ 2 * a + 2 < n) := by
  unfold least
  simp only
  by_cases h1 : 2 * a + 1 < n ∧ rk (f (2 * a + 1)) < rk (f a)
  · rw [if_pos h1]
    split
    · rename_i h; exact .inr (.inr ⟨rfl, h.1⟩)
    · exact .inr (.inl ⟨rfl, h1.1⟩)
  · rw [if_neg h1]
    split
    · rename_i h; exact .inr (.inr ⟨rfl, h.1⟩)
    · exact .inl rfl
theorem least_le {α : Type} (rk : α → Nat) (n : Nat) (f : Nat → α) (a : Nat) : rk (f (least rk n f a)) ≤ rk (f a) ∧ (2 * a + 1 < n → rk (f (least rk n f a)) ≤ rk (f (2 * a + 1))) ∧ (2 * a + 2 < n → rk (f (least rk n f a)) ≤ rk (f (2 * a + 2))) ∧ (least rk n f a ≠ a → rk (f (least rk n f a)) < rk (f a)) := by
  unfold least
  simp only
  by_cases h1 : 2 * a + 1 < n ∧ rk (f (2 * a + 1)) < rk (f a)
  · rw [if_pos h1]
    by_cases h2 : 2 * a + 2 < n ∧ rk (f (2 * a + 2)) < rk (f (2 * a + 1))
    · rw [if_pos h2]; refine ⟨by omega, by omega, by omega, by omega⟩
    · rw [if_neg h2]; refine ⟨by omega, by omega, by omega, by omega⟩
  · rw [if_neg h1]
    by_cases h2 : 2 * a + 2 < n ∧ rk (f (2 * a + 2)) < rk (f a)
    · rw [if_pos h2]; refine ⟨by omega, by omega, by omega, by omega⟩
    · rw [if_neg h2]; refine ⟨by omega, by omega, by omega, by omega⟩
theorem sink_heapy {α : Type} (rk : α → Nat) (n : Nat) : ∀ (k : Nat) (f : Nat → α) (a : Nat), n ≤ k + a → Down n a (fun i => rk (f i)) → Heapy n (fun i => rk (sink rk n k f a i)) := by
  intro k
  induction k with
  | zero =>
    intro f a hk h
    exact h.stop (fun c c0 hc e => by omega)
  | succ k ih =>
    intro f a hk h
    have hc := least_cases rk n f a
    have hl := least_le rk n f a
    unfold sink
    split
    · rename_i e
      rw [e] at hl
      refine h.stop (fun c c0 hcn hp => ?_)
      have : c = 2 * a + 1 ∨ c = 2 * a + 2 := by omega
      rcases this with rfl | rfl
      · exact hl.2.1 hcn
      · exact hl.2.2.1 hcn
    · rename_i e
      have hL : 0 < least rk n f a ∧ least rk n f a < n ∧ (least rk n f a - 1) / 2 = a ∧ a < least rk n f a := by omega
      refine ih _ _ (by omega) ?_
      rw [rk_swp]
      refine h.swap hL.1 hL.2.1 hL.2.2.1 (hl.2.2.2 e) (fun d d0 hd hp => ?_)
      have : d = 2 * a + 1 ∨ d = 2 * a + 2 := by omega
      rcases this with rfl | rfl
      · exact hl.2.1 hd
      · exact hl.2.2.1 hd
/-- a heap is left as it is by a sink -/
theorem sink_still {α : Type} (rk : α → Nat) (n k : Nat) (f : Nat → α) (a : Nat) (h : Heapy n (fun i => rk (f i))) : sink rk n k f a = f := by
  cases k with
  | zero => rfl
  | succ k =>
    unfold sink
    have hl := least_le rk n f a
    have hc := least_cases rk n f a
    split
    · rfl
    · rename_i e
      have h1 := h (least rk n f a) (by omega) (by omega)
      have h2 := hl.2.2.2 e
      have h3 : (least rk n f a - 1) / 2 = a := by omega
      simp only [h3] at h1
      omega
/-! ### who is there -/
def Has {α : Type} (n : Nat) (f : Nat → α) (e : α) : Prop := ∃ i, i < n ∧ f i = e
def Apart {α β : Type} (n : Nat) (f : Nat → α) (k : α → β) : Prop := ∀ i j, i < n → j < n → k (f i) = k (f j) → i = j
theorem has_swp {α : Type} (f : Nat → α) (n a b : Nat) (ha : a < n) (hb : b < n) (e : α) : Has n (swp f a b) e ↔ Has n f e := by
  constructor
  · rintro ⟨i, hi, rfl⟩
    by_cases h1 : i = a
    · subst h1; exact ⟨b, hb, (swp_left _ _ _).symm⟩
    · by_cases h2 : i = b
      · subst h2; exact ⟨a, ha, (swp_right _ _ _).symm⟩
      · exact ⟨i, hi, (swp_other _ _ _ _ h1 h2).symm⟩
  · rintro ⟨i, hi, rfl⟩
    by_cases h1 : i = a
    · subst h1; exact ⟨b, hb, swp_right _ _ _⟩
    · by_cases h2 : i = b
      · subst h2; exact ⟨a, ha, swp_left _ _ _⟩
      · exact ⟨i, hi, swp_other _ _ _ _ h1 h2⟩
theorem apart_swp {α β : Type} (f : Nat → α) (k : α → β) (n a b : Nat) (ha : a < n) (hb : b < n) (h : Apart n f k) : Apart n (swp f a b) k := by
  intro i j hi hj e
  have q : ∀ x, x < n → ∃ y, y < n ∧ swp f a b x = f y ∧ (x = a → y = b) ∧ (x ≠ a → x = b → y = a) ∧ (x ≠ a → x ≠ b → y = x) := by
    intro x hx
    by_cases h1 : x = a
    · exact ⟨b, hb, by rw [h1, swp_left], fun _ => rfl, fun h => absurd h1 h, fun h => absurd h1 h⟩
    · by_cases h2 : x = b
      · exact ⟨a, ha, by rw [h2, swp_right], fun h => absurd h h1, fun _ _ => rfl, fun _ h => absurd h2 h⟩
      · exact ⟨x, hx, swp_other _ _ _ _ h1 h2, fun h => absurd h h1, fun _ h => absurd h h2, fun _ _ => rfl⟩
  obtain ⟨y, hy, ey, y1, y2, y3⟩ := q i hi
  obtain ⟨z, hz, ez, z1, z2, z3⟩ := q j hj
  rw [ey, ez] at e
  have := h y z hy hz e
  omega
theorem rise_has {α : Type} (rk : α → Nat) (n : Nat) : ∀ (k : Nat) (f : Nat → α) (a : Nat), a < n → ∀ e, Has n (rise rk k f a) e ↔ Has n f e := by
  intro k
  induction k with
  | zero => intro f a _ e; exact Iff.rfl
  | succ k ih =>
    intro f a ha e
    unfold rise
    split
    · exact Iff.rfl
    · split
      · rw [ih _ _ (by omega) e]; exact has_swp f n _ _ ha (by omega) e
      · exact Iff.rfl
theorem rise_apart {α β : Type} (rk : α → Nat) (kf : α → β) (n : Nat) : ∀ (k : Nat) (f : Nat → α) (a : Nat), a < n → Apart n f kf → Apart n (rise rk k f a) kf := by
  intro k
  induction k with
  | zero => intro f a _ h; exact h
  | succ k ih =>
    intro f a ha h
    unfold rise
    split
    · exact h
    · split
      · exact ih _ _ (by omega) (apart_swp f kf n _ _ ha (by omega) h)
      · exact h
theorem sink_has {α : Type} (rk : α → Nat) (n : Nat) : ∀ (k : Nat) (f : Nat → α) (a : Nat), a < n → ∀ e, Has n (sink rk n k f a) e ↔ Has n f e := by
  intro k
  induction k with
  | zero => intro f a _ e; exact Iff.rfl
  | succ k ih =>
    intro f a ha e
    have hc := least_cases rk n f a
    unfold sink
    split
    · exact Iff.rfl
    · rw [ih _ _ (by omega) e]; exact has_swp f n _ _ ha (by omega) e
theorem sink_apart {α β : Type} (rk : α → Nat) (kf : α → β) (n : Nat) : ∀ (k : Nat) (f : Nat → α) (a : Nat), a < n → Apart n f kf → Apart n (sink rk n k f a) kf := by
  intro k
  induction k with
  | zero => intro f a _ h; exact h
  | succ k ih =>
    intro f a ha h
    have hc := least_cases rk n f a
    unfold sink
    split
    · exact h
    · exact ih _ _ (by omega) (apart_swp f kf n _ _ ha (by omega) h)
theorem rise_still {α : Type} (rk : α → Nat) (k : Nat) (f : Nat → α) (a : Nat) (h : ∀ p, p = (a - 1) / 2 → 0 < a → rk (f p) ≤ rk (f a)) : rise rk k f a = f := by
  cases k with
  | zero => rfl
  | succ k =>
    unfold rise
    split
    · rfl
    · rename_i e
      rw [if_neg (by have := h _ rfl (by omega); omega)]
/-- settle: rise, then sink at the same place -/
def settle {α : Type} (rk : α → Nat) (n : Nat) (f : Nat → α) (a : Nat) : Nat → α := sink rk n n (rise rk n f a) a
theorem settle_heapy {α : Type} (rk : α → Nat) (n : Nat) (f g : Nat → α) (a : Nat) (ha : a < n) (h : Heapy n (fun i => rk (f i))) (e : ∀ i, i ≠ a → g i = f i) : Heapy n (fun i => rk (settle rk n g a i)) := by
  unfold settle
  by_cases hl : rk (g a) ≤ rk (f a)
  · have h1 := rise_heapy rk n n g a (by omega) ha (h.turn (s := fun i => rk (g i)) (fun i hi => by simp only [e i hi]) hl)
    rw [sink_still rk n n _ a h1]
    exact h1
  · have h2 : rise rk n g a = g := rise_still rk n g a (fun p hp h0 => by
      subst hp
      rw [e _ (by omega)]
      have := h a h0 ha
      simp only at this
      omega)
    rw [h2]
    exact sink_heapy rk n n g a (by omega) (h.turnDown (s := fun i => rk (g i)) (fun i hi => by simp only [e i hi]) (by omega))
theorem settle_has {α : Type} (rk : α → Nat) (n : Nat) (f : Nat → α) (a : Nat) (ha : a < n) (e : α) : Has n (settle rk n f a) e ↔ Has n f e := by
  unfold settle; rw [sink_has rk n n _ a ha e, rise_has rk n n f a ha e]
theorem settle_apart {α β : Type} (rk : α → Nat) (kf : α → β) (n : Nat) (f : Nat → α) (a : Nat) (ha : a < n) (h : Apart n f kf) : Apart n (settle rk n f a) kf :=
  sink_apart rk kf n n _ a ha (rise_apart rk kf n n f a ha h)
/-- dropFirst of n + 1 -/
def dropFirst {α : Type} (rk : α → Nat) (n : Nat) (f : Nat → α) : Nat → α := sink rk n n (swp f 0 n) 0
theorem dropFirst_heapy {α : Type} (rk : α → Nat) (n : Nat) (f : Nat → α) (h : Heapy (n + 1) (fun i => rk (f i))) : Heapy n (fun i => rk (dropFirst rk n f i)) := by
  unfold dropFirst
  refine sink_heapy rk n n _ 0 (by omega) ?_
  rw [rk_swp]
  exact h.last
theorem dropFirst_has {α : Type} (rk : α → Nat) (n : Nat) (f : Nat → α) (hA : Apart (n + 1) f id) (e : α) : Has n (dropFirst rk n f) e ↔ (Has (n + 1) f e ∧ e ≠ f 0) := by
  by_cases hn : n = 0
  · subst hn
    constructor
    · rintro ⟨i, hi, _⟩; omega
    · rintro ⟨⟨i, hi, rfl⟩, hne⟩
      obtain rfl : i = 0 := by omega
      exact absurd rfl hne
  · unfold dropFirst
    rw [sink_has rk n n _ 0 (by omega) e]
    constructor
    · rintro ⟨i, hi, rfl⟩
      by_cases h0 : i = 0
      · subst h0
        rw [swp_left]
        refine ⟨⟨n, by omega, rfl⟩, fun q => ?_⟩
        have := hA n 0 (by omega) (by omega) q
        omega
      · rw [swp_other _ _ _ _ h0 (by omega)]
        refine ⟨⟨i, by omega, rfl⟩, fun q => ?_⟩
        have := hA i 0 (by omega) (by omega) q
        omega
    · rintro ⟨⟨i, hi, rfl⟩, hne⟩
      have h0 : i ≠ 0 := fun q => hne (by rw [q])
      by_cases h1 : i = n
      · exact ⟨0, by omega, by rw [swp_left, h1]⟩
      · exact ⟨i, by omega, swp_other _ _ _ _ h0 h1⟩
theorem Apart.less {α β : Type} {n m : Nat} {f : Nat → α} {k : α → β} (h : Apart n f k) (hm : m ≤ n) : Apart m f k := fun i j hi hj e => h i j (by omega) (by omega) e
theorem dropFirst_apart {α β : Type} (rk : α → Nat) (kf : α → β) (n : Nat) (f : Nat → α) (h : Apart (n + 1) f kf) : Apart n (dropFirst rk n f) kf := by
  by_cases hn : n = 0
  · subst hn; intro i j hi; omega
  · exact sink_apart rk kf n n _ 0 (by omega) ((apart_swp f kf (n + 1) 0 n (by omega) (by omega) h).less (by omega))
/-- add -/
def put {α : Type} (f : Nat → α) (n : Nat) (e : α) : Nat → α := fun i => if i = n then e else f i
theorem put_same {α : Type} (f : Nat → α) (n : Nat) (e : α) : put f n e n = e := by simp [put]
theorem put_other {α : Type} (f : Nat → α) (n i : Nat) (e : α) (h : i ≠ n) : put f n e i = f i := by simp [put, h]
def add {α : Type} (rk : α → Nat) (n : Nat) (f : Nat → α) (e : α) : Nat → α := rise rk n (put f n e) n
theorem add_heapy {α : Type} (rk : α → Nat) (n : Nat) (f : Nat → α) (e : α) (h : Heapy n (fun i => rk (f i))) : Heapy (n + 1) (fun i => rk (add rk n f e i)) := by
  unfold add
  refine rise_heapy rk (n + 1) n _ n (Nat.le_refl _) (by omega) ?_
  exact (h.same (s := fun i => rk (put f n e i)) (fun i hi => by simp only [put_other f n i e (by omega)])).more
theorem add_has {α : Type} (rk : α → Nat) (n : Nat) (f : Nat → α) (e x : α) : Has (n + 1) (add rk n f e) x ↔ (Has n f x ∨ x = e) := by
  unfold add
  rw [rise_has rk (n + 1) n _ n (by omega) x]
  constructor
  · rintro ⟨i, hi, rfl⟩
    by_cases q : i = n
    · subst q; exact .inr (put_same f i e)
    · exact .inl ⟨i, by omega, (put_other f n i e q).symm⟩
  · rintro (⟨i, hi, rfl⟩ | rfl)
    · exact ⟨i, by omega, put_other f n i e (by omega)⟩
    · exact ⟨n, by omega, put_same f n x⟩
theorem add_apart {α β : Type} (rk : α → Nat) (kf : α → β) (n : Nat) (f : Nat → α) (e : α) (h : Apart n f kf) (hn : ∀ i, i < n → kf (f i) ≠ kf e) : Apart (n + 1) (add rk n f e) kf := by
  unfold add
  refine rise_apart rk kf (n + 1) n _ n (by omega) ?_
  intro i j hi hj q
  by_cases e1 : i = n
  · by_cases e2 : j = n
    · omega
    · rw [e1, put_same, put_other f n j e e2] at q
      exact absurd q.symm (hn j (by omega))
  · by_cases e2 : j = n
    · rw [e2, put_same, put_other f n i e e1] at q
      exact absurd q (hn i (by omega))
    · rw [put_other f n i e e1, put_other f n j e e2] at q
      exact h i j (by omega) (by omega) q
/-- two lists that rise, of the same members, are one -/
theorem rising_eq {α : Type} (b : α → Nat) : ∀ (l m : List α), l.Pairwise (fun x y => b x < b y) → m.Pairwise (fun x y => b x < b y) → (∀ e, e ∈ l ↔ e ∈ m) → l = m := by
  intro l
  induction l with
  | nil =>
    intro m _ _ h
    cases m with
    | nil => rfl
    | cons y m => have := (h y).2 (by simp); simp at this
  | cons x l ih =>
    intro m hl hm h
    cases m with
    | nil => have := (h x).1 (by simp); simp at this
    | cons y m =>
      have hl' := List.pairwise_cons.1 hl
      have hm' := List.pairwise_cons.1 hm
      have exy : x = y := by
        have h1 := (h x).1 (by simp)
        have h2 := (h y).2 (by simp)
        rcases List.mem_cons.1 h1 with q | q
        · exact q
        · rcases List.mem_cons.1 h2 with r | r
          · exact r.symm
          · have a := hm'.1 x q
            have c := hl'.1 y r
            omega
      subst exy
      congr 1
      refine ih m hl'.2 hm'.2 (fun e => ?_)
      constructor
      · intro he
        rcases List.mem_cons.1 ((h e).1 (List.mem_cons_of_mem _ he)) with q | q
        · subst q; have := hl'.1 e he; omega
        · exact q
      · intro he
        rcases List.mem_cons.1 ((h e).2 (List.mem_cons_of_mem _ he)) with q | q
        · subst q; have := hm'.1 e he; omega
        · exact q
end Go.Proofs.YtclpnafiiobfhabGreatDoor.Hp
namespace Go.Proofs.YtclpnafiiobfhabGreatDoor
/-! ### flows, as plain mathematics -/
structure Hd where
  a : Int
  b : Int
  p : Int
  s : Int
  d : Int
  f : Int
structure Fl where
  a : Int
  b : Int
  p : Int
  s : Int
  d : Int
  rep : Bool
  clo : Bool
  u : Nat
structure Ky where
  la : Int
  lp : Int
  ha : Int
  hp : Int
  p : Int
structure En where
  k : Ky
  v : Fl
  n : Nat
def lessE (a s b d : Int) : Bool := if a = b then decide (s < d) else decide (a < b)
def keyE (a s b d p : Int) : Ky := if lessE b d a s = true then ⟨b, d, a, s, p⟩ else ⟨a, s, b, d, p⟩
def Hd.key (h : Hd) : Ky := keyE h.a h.s h.b h.d h.p
def Fl.key (f : Fl) : Ky := keyE f.a f.s f.b f.d f.p
/-- the document's: is it a flow's frame, its own way (1) or back (2)? -/
def fitsF (f : Fl) (h : Hd) : Nat :=
  if f.p ≠ h.p then 0
  else if f.a = h.a ∧ f.s = h.s ∧ f.b = h.b ∧ f.d = h.d then 1
  else if f.a = h.b ∧ f.s = h.d ∧ f.b = h.a ∧ f.d = h.s then 2 else 0
/-- the code's: a frame that goes back -/
def backF (f : Fl) (h : Hd) : Bool := decide (h.a = f.b ∧ h.s = f.d) && !decide (h.a = f.a ∧ h.s = f.s)
theorem lessE_asym {a s b d : Int} (h : lessE a s b d = true) : lessE b d a s = false := by
  unfold lessE at *
  by_cases e : a = b
  · rw [if_pos e] at h; rw [if_pos e.symm]; simp at *; omega
  · rw [if_neg e] at h; rw [if_neg (fun q => e q.symm)]; simp at *; omega
theorem lessE_total {a s b d : Int} (h : lessE a s b d = false) (g : lessE b d a s = false) : a = b ∧ s = d := by
  unfold lessE at *
  by_cases e : a = b
  · rw [if_pos e] at h; rw [if_pos e.symm] at g; simp at *; omega
  · rw [if_neg e] at h; rw [if_neg (fun q => e q.symm)] at g; simp at *; omega
theorem keyE_swap (a s b d p : Int) : keyE a s b d p = keyE b d a s p := by
  unfold keyE
  cases h : lessE b d a s with
  | true => rw [if_pos rfl, if_neg (by rw [lessE_asym h]; decide)]
  | false =>
    cases g : lessE a s b d with
    | true => simp
    | false => obtain ⟨rfl, rfl⟩ := lessE_total g h; simp
theorem keyE_eq {a s b d p a' s' b' d' p' : Int} (h : keyE a s b d p = keyE a' s' b' d' p') : p = p' ∧ ((a = a' ∧ s = s' ∧ b = b' ∧ d = d') ∨ (a = b' ∧ s = d' ∧ b = a' ∧ d = s')) := by
  unfold keyE at h
  split at h <;> split at h <;> (simp only [Ky.mk.injEq] at h; obtain ⟨rfl, rfl, rfl, rfl, rfl⟩ := h; simp)
theorem fits_key (f : Fl) (h : Hd) : fitsF f h ≠ 0 ↔ f.key = h.key := by
  unfold fitsF Fl.key Hd.key
  constructor
  · intro q
    split at q
    · exact absurd rfl q
    · rename_i hp
      have hp : f.p = h.p := by simpa using hp
      split at q
      · rename_i e; obtain ⟨e1, e2, e3, e4⟩ := e; rw [e1, e2, e3, e4, hp]
      · split at q
        · rename_i e; obtain ⟨e1, e2, e3, e4⟩ := e; rw [e1, e2, e3, e4, hp]; exact keyE_swap _ _ _ _ _
        · exact absurd rfl q
  · intro q
    obtain ⟨hp, e⟩ := keyE_eq q
    rw [if_neg (by simp [hp])]
    by_cases e1 : f.a = h.a ∧ f.s = h.s ∧ f.b = h.b ∧ f.d = h.d
    · rw [if_pos e1]; decide
    · rw [if_neg e1]
      rcases e with e | e
      · exact absurd e e1
      · rw [if_pos e]; decide
theorem fits_back {f : Fl} {h : Hd} (q : fitsF f h ≠ 0) : backF f h = decide (fitsF f h = 2) := by
  unfold fitsF at q ⊢
  unfold backF
  split at q
  · exact absurd rfl q
  · rename_i hp
    rw [if_neg hp]
    split at q
    · rename_i e; rw [if_pos e]; simp; omega
    · rename_i e
      rw [if_neg e]
      split at q
      · rename_i e2; rw [if_pos e2]; simp; omega
      · exact absurd rfl q
/-- for how long a flow lasts -/
def spanF (f : Fl) : Nat :=
  if f.p = 6 then (if f.clo = true then 10 else if f.rep = true then 300 else 30)
  else if f.p = 17 then (if f.rep = true then 120 else 60) else if f.p = 1 then 20 else 60
def topT : Nat := 18446744073709551615
def plusT (a b : Nat) : Nat := if topT < a + b then topT else a + b
/-- a TCP frame's marks, and whether it can be a first one -/
def freshH (h : Hd) : Bool := !(decide (h.p = 6) && !decide (h.f.toNat &&& 23 = 2))
def endsH (h : Hd) : Bool := decide (h.p = 6) && !decide (h.f.toNat &&& 5 = 0)
/-- the flow behind a frame that found it -/
def heardF (f : Fl) (h : Hd) (now : Nat) : Fl :=
  let g : Fl := { f with rep := f.rep || backF f h, clo := f.clo || endsH h }
  { g with u := plusT now (spanF g) }
def beginF (h : Hd) (now : Nat) : Fl :=
  let g : Fl := ⟨h.a, h.b, h.p, h.s, h.d, false, false, 0⟩
  { g with u := plusT now (spanF g) }
theorem heard_key (f : Fl) (h : Hd) (now : Nat) : (heardF f h now).key = f.key := rfl
theorem begin_key (h : Hd) (now : Nat) : (beginF h now).key = h.key := rfl
/-- the state of a frame: 0 new, 1 established, 2 invalid -/
def stateF (o : Option Fl) (h : Hd) : Nat := match o with
  | some f => if (f.rep || backF f h) = true then 1 else 0
  | none => if freshH h = true then 0 else 2
/-! ### the document's list of flows -/
def findD (F : List Fl) (h : Hd) : Option Nat := F.findIdx? fun f => decide (fitsF f h ≠ 0)
/-- the first of those that end first -/
def minD : List Fl → Nat
  | [] => 0
  | f :: r => if ∃ g ∈ r, g.u < f.u then minD r + 1 else 0
def rkE (e : En) : Nat := e.v.u * 18446744073709551616 + e.n
theorem rkE_lt {x y : En} (hx : x.n < 18446744073709551616) (hy : y.n < 18446744073709551616) : rkE x < rkE y ↔ (x.v.u < y.v.u ∨ (x.v.u = y.v.u ∧ x.n < y.n)) := by
  unfold rkE; omega
/-- the code's heap of n entries holds what the document's list holds -/
structure Rel (n : Nat) (g : Nat → En) (births : Nat) (F : List Fl) (G : List En) : Prop where
  len : G.length = n
  vals : G.map (·.v) = F
  rises : G.Pairwise (fun x y => x.n < y.n)
  has : ∀ e, e ∈ G ↔ Hp.Has n g e
  below : ∀ e ∈ G, e.n < births
  keys : ∀ e ∈ G, e.k = e.v.key
  one : Hp.Apart n g (fun e => e.k)
  heap : Hp.Heapy n (fun i => rkE (g i))
  small : births < 18446744073709551616
theorem Rel.flen {n : Nat} {g : Nat → En} {b : Nat} {F : List Fl} {G : List En} (h : Rel n g b F G) : F.length = n := by rw [← h.vals, List.length_map, h.len]
theorem Rel.start (g : Nat → En) : Rel 0 g 0 [] [] where
  len := rfl
  vals := rfl
  rises := List.Pairwise.nil
  has := fun e => ⟨fun h => (by cases h), fun ⟨i, hi, _⟩ => absurd hi (by omega)⟩
  below := fun e h => (by cases h)
  keys := fun e h => (by cases h)
  one := fun i j hi => absurd hi (by omega)
  heap := fun i _ hi => absurd hi (by omega)
  small := by decide
theorem Rel.births {n : Nat} {g : Nat → En} {b : Nat} {F : List Fl} {G : List En} (h : Rel n g b F G) : Hp.Apart n g (fun e => e.n) := by
  intro i j hi hj e
  have mi := (h.has _).2 ⟨i, hi, rfl⟩
  have mj := (h.has _).2 ⟨j, hj, rfl⟩
  have : g i = g j := by
    obtain ⟨x, hx, ex⟩ := List.mem_iff_getElem.1 mi
    obtain ⟨y, hy, ey⟩ := List.mem_iff_getElem.1 mj
    rcases Nat.lt_trichotomy x y with q | q | q
    · have := List.pairwise_iff_getElem.1 h.rises x y hx hy q; rw [ex, ey] at this; simp only at e; omega
    · subst q; rw [← ex, ← ey]
    · have := List.pairwise_iff_getElem.1 h.rises y x hy hx q; rw [ex, ey] at this; simp only at e; omega
  exact h.one i j hi hj (by simp only [this])
theorem Rel.apart {n : Nat} {g : Nat → En} {b : Nat} {F : List Fl} {G : List En} (h : Rel n g b F G) : Hp.Apart n g id := fun i j hi hj e => h.one i j hi hj (by simp only [id] at e; simp only [e])
theorem Rel.atKey {n : Nat} {g : Nat → En} {b : Nat} {F : List Fl} {G : List En} (h : Rel n g b F G) {i : Nat} (hi : i < n) : (g i).k = (g i).v.key := h.keys _ ((h.has _).2 ⟨i, hi, rfl⟩)
/-- a frame finds none -/
theorem Rel.none {n : Nat} {g : Nat → En} {b : Nat} {F : List Fl} {G : List En} (h : Rel n g b F G) (hd : Hd) : findD F hd = Option.none ↔ ∀ i, i < n → (g i).k ≠ hd.key := by
  unfold findD
  rw [List.findIdx?_eq_none_iff]
  constructor
  · intro q i hi e
    have hm := (h.has _).2 ⟨i, hi, rfl⟩
    have := q (g i).v (by rw [← h.vals]; exact List.mem_map_of_mem hm)
    rw [h.atKey hi] at e
    simp only [decide_eq_false_iff_not] at this
    exact this ((fits_key _ _).2 e)
  · intro q f hf
    rw [← h.vals] at hf
    obtain ⟨e, he, rfl⟩ := List.mem_map.1 hf
    obtain ⟨i, hi, rfl⟩ := (h.has e).1 he
    simp only [decide_eq_false_iff_not]
    intro r
    exact q i hi ((h.atKey hi).trans ((fits_key _ _).1 r))
/-- a frame finds one -/
theorem Rel.some {n : Nat} {g : Nat → En} {b : Nat} {F : List Fl} {G : List En} (h : Rel n g b F G) (hd : Hd) {j : Nat} (hj : j < n) (hk : (g j).k = hd.key) : ∃ i : Nat, ∃ hi : i < F.length, findD F hd = Option.some i ∧ F[i] = (g j).v ∧ G[i]? = Option.some (g j) ∧ fitsF (g j).v hd ≠ 0 := by
  cases hf : findD F hd with
  | none => exact absurd hk ((h.none hd).1 hf j hj)
  | some i =>
    have q := hf
    unfold findD at q
    rw [List.findIdx?_eq_some_iff_getElem] at q
    obtain ⟨hi, q1, _⟩ := q
    simp only [decide_eq_true_eq] at q1
    have hG : i < G.length := by rw [h.len, ← h.flen]; exact hi
    have e1 : F[i] = (G[i]).v := by have := h.vals; subst this; simp
    have hm : G[i] ∈ G := List.getElem_mem hG
    obtain ⟨x, hx, ex⟩ := (h.has _).1 hm
    have e2 : G[i].k = hd.key := by
      rw [h.keys _ hm]; rw [e1] at q1; exact (fits_key _ _).1 q1
    have : x = j := h.one x j hx hj (by simp only [ex, e2, hk])
    subst this
    refine ⟨i, hi, rfl, by rw [e1, ex], by rw [List.getElem?_eq_getElem hG, ex], ?_⟩
    rw [e1, ← ex] at q1; exact q1
theorem Rel.nodup {n : Nat} {g : Nat → En} {b : Nat} {F : List Fl} {G : List En} (h : Rel n g b F G) {i j : Nat} (hi : i < G.length) (hj : j < G.length) (e : G[i] = G[j]) : i = j := by
  rcases Nat.lt_trichotomy i j with q | q | q
  · have := List.pairwise_iff_getElem.1 h.rises i j hi hj q; rw [e] at this; omega
  · exact q
  · have := List.pairwise_iff_getElem.1 h.rises j i hj hi q; rw [e] at this; omega
/-- a flow has turned -/
theorem Rel.turn {n : Nat} {g : Nat → En} {b : Nat} {F : List Fl} {G : List En} (h : Rel n g b F G) {j i : Nat} (hj : j < n) (hG : G[i]? = Option.some (g j)) (f : Fl) (hf : f.key = (g j).v.key) :
    Rel n (Hp.settle rkE n (Hp.put g j ⟨(g j).k, f, (g j).n⟩) j) b (F.set i f) (G.set i ⟨(g j).k, f, (g j).n⟩) := by
  obtain ⟨hi, hGi⟩ := List.getElem?_eq_some_iff.1 hG
  have hset : ∀ x, Hp.Has n (Hp.put g j ⟨(g j).k, f, (g j).n⟩) x ↔ (x = ⟨(g j).k, f, (g j).n⟩ ∨ ∃ y, y < n ∧ y ≠ j ∧ g y = x) := by
    intro x
    constructor
    · rintro ⟨y, hy, rfl⟩
      by_cases e : y = j
      · subst e; exact .inl (Hp.put_same _ _ _)
      · exact .inr ⟨y, hy, e, (Hp.put_other _ _ _ _ e).symm⟩
    · rintro (rfl | ⟨y, hy, hne, rfl⟩)
      · exact ⟨j, hj, Hp.put_same _ _ _⟩
      · exact ⟨y, hy, Hp.put_other _ _ _ _ hne⟩
  have hmem : ∀ x, x ∈ G.set i ⟨(g j).k, f, (g j).n⟩ ↔ (x = ⟨(g j).k, f, (g j).n⟩ ∨ ∃ y, y < n ∧ y ≠ j ∧ g y = x) := by
    intro x
    rw [List.mem_iff_getElem]
    constructor
    · rintro ⟨y, hy, rfl⟩
      rw [List.getElem_set]
      split
      · exact .inl rfl
      · rename_i hne
        have hy' : y < G.length := by rw [List.length_set] at hy; exact hy
        obtain ⟨z, hz, ez⟩ := (h.has _).1 (List.getElem_mem hy')
        refine .inr ⟨z, hz, fun q => hne ?_, ez⟩
        rw [q] at ez
        exact (h.nodup hi hy' (by rw [hGi, ez]))
    · rintro (rfl | ⟨y, hy, hne, rfl⟩)
      · exact ⟨i, by rw [List.length_set]; exact hi, by simp⟩
      · obtain ⟨z, hz, ez⟩ := List.mem_iff_getElem.1 ((h.has _).2 ⟨y, hy, rfl⟩)
        refine ⟨z, by rw [List.length_set]; exact hz, ?_⟩
        rw [List.getElem_set]
        split
        · rename_i q; subst q; exact absurd (h.apart y j hy hj (by simp only [id]; rw [← ez, hGi])) hne
        · exact ez
  have hone : Hp.Apart n (Hp.put g j ⟨(g j).k, f, (g j).n⟩) (fun e => e.k) := by
    intro x y hx hy e
    have q : ∀ z, (Hp.put g j ⟨(g j).k, f, (g j).n⟩ z).k = (g z).k := fun z => by
      by_cases ez : z = j
      · subst ez; rw [Hp.put_same]
      · rw [Hp.put_other _ _ _ _ ez]
    simp only [q] at e
    exact h.one x y hx hy e
  refine { len := by rw [List.length_set, h.len], vals := by rw [List.map_set, h.vals], rises := ?_, has := fun e => by rw [hmem, Hp.settle_has rkE n _ j hj e, hset], below := ?_, keys := ?_, one := Hp.settle_apart rkE _ n _ j hj hone, heap := ?_, small := h.small }
  · rw [List.pairwise_iff_getElem]
    intro x y hx hy q
    rw [List.length_set] at hx hy
    have := List.pairwise_iff_getElem.1 h.rises x y hx hy q
    have key : ∀ z (hz : z < G.length), ((G.set i ⟨(g j).k, f, (g j).n⟩)[z]'(by rw [List.length_set]; exact hz)).n = G[z].n := fun z hz => by
      rw [List.getElem_set]
      split
      · rename_i e; subst e; rw [hGi]
      · rfl
    rw [key x hx, key y hy]; exact this
  · intro e he
    rcases (hmem e).1 he with rfl | ⟨y, hy, _, rfl⟩
    · exact h.below (g j) ((h.has _).2 ⟨j, hj, rfl⟩)
    · exact h.below _ ((h.has _).2 ⟨y, hy, rfl⟩)
  · intro e he
    rcases (hmem e).1 he with rfl | ⟨y, hy, _, rfl⟩
    · show (g j).k = f.key; rw [hf]; exact h.atKey hj
    · exact h.atKey hy
  · exact Hp.settle_heapy rkE n g _ j hj h.heap (fun x hx => Hp.put_other _ _ _ _ hx)
/-- the first goes -/
theorem Rel.drop {n : Nat} {g : Nat → En} {b : Nat} {F : List Fl} {G : List En} (h : Rel (n + 1) g b F G) {i : Nat} (hG : G[i]? = Option.some (g 0)) : Rel n (Hp.dropFirst rkE n g) b (F.eraseIdx i) (G.eraseIdx i) := by
  obtain ⟨hi, hGi⟩ := List.getElem?_eq_some_iff.1 hG
  have hmem : ∀ x, x ∈ G.eraseIdx i ↔ (x ∈ G ∧ x ≠ g 0) := by
    intro x
    rw [List.mem_eraseIdx_iff_getElem]
    constructor
    · rintro ⟨k, hk, hne, rfl⟩
      refine ⟨List.getElem_mem hk, fun q => hne ?_⟩
      exact h.nodup hk hi (by rw [q, hGi])
    · rintro ⟨hx, hne⟩
      obtain ⟨k, hk, rfl⟩ := List.mem_iff_getElem.1 hx
      exact ⟨k, hk, fun q => hne (by subst q; exact hGi), rfl⟩
  have hsub : (G.eraseIdx i).Sublist G := List.eraseIdx_sublist G i
  refine { len := by rw [List.length_eraseIdx_of_lt hi, h.len]; omega, vals := ?_, rises := h.rises.sublist hsub, has := fun e => by rw [hmem, Hp.dropFirst_has rkE n g h.apart e, h.has], below := fun e he => h.below e (hsub.subset he), keys := fun e he => h.keys e (hsub.subset he), one := Hp.dropFirst_apart rkE _ n g h.one, heap := Hp.dropFirst_heapy rkE n g h.heap, small := h.small }
  rw [← h.vals]
  rw [List.eraseIdx_eq_take_drop_succ, List.eraseIdx_eq_take_drop_succ, List.map_append, List.map_take, List.map_drop]
/-- one more -/
theorem Rel.add {n : Nat} {g : Nat → En} {b : Nat} {F : List Fl} {G : List En} (h : Rel n g b F G) (f : Fl) (hn : ∀ i, i < n → (g i).k ≠ f.key) (hb : b + 1 < 18446744073709551616) : Rel (n + 1) (Hp.add rkE n g ⟨f.key, f, b⟩) (b + 1) (F ++ [f]) (G ++ [⟨f.key, f, b⟩]) := by
  refine { len := by simp [h.len], vals := by simp [h.vals], rises := ?_, has := fun e => ?_, below := ?_, keys := ?_, one := Hp.add_apart rkE _ n g _ h.one hn, heap := Hp.add_heapy rkE n g _ h.heap, small := hb }
  · rw [List.pairwise_append]
    refine ⟨h.rises, by simp, fun x hx y hy => ?_⟩
    simp only [List.mem_singleton] at hy
    subst hy
    exact h.below x hx
  · rw [Hp.add_has, List.mem_append, h.has, List.mem_singleton]
  · intro e he
    rcases List.mem_append.1 he with q | q
    · have := h.below e q; omega
    · simp only [List.mem_singleton] at q; subst q; show b < b + 1; omega
  · intro e he
    rcases List.mem_append.1 he with q | q
    · exact h.keys e q
    · simp only [List.mem_singleton] at q; subst q; rfl
/-- the first to end: of those that end first the eldest -/
structure MinAt (F : List Fl) (i : Nat) : Prop where
  lt : i < F.length
  le : ∀ j (hj : j < F.length), F[i].u ≤ F[j].u
  first : ∀ j (hj : j < i), F[i].u < (F[j]'(Nat.lt_trans hj lt)).u
theorem MinAt.unique {F : List Fl} {i j : Nat} (h : MinAt F i) (g : MinAt F j) : i = j := by
  rcases Nat.lt_trichotomy i j with q | q | q
  · have a := g.first i q; have b := h.le j g.lt; omega
  · exact q
  · have a := h.first j q; have b := g.le i h.lt; omega
theorem Rel.fget {n : Nat} {g : Nat → En} {b : Nat} {F : List Fl} {G : List En} (h : Rel n g b F G) {i : Nat} (hi : i < F.length) (hG : i < G.length) : F[i] = G[i].v := by have := h.vals; subst this; simp
theorem Rel.min {n : Nat} {g : Nat → En} {b : Nat} {F : List Fl} {G : List En} (h : Rel (n + 1) g b F G) : ∃ i, G[i]? = Option.some (g 0) ∧ MinAt F i := by
  have h0 : g 0 ∈ G := (h.has _).2 ⟨0, by omega, rfl⟩
  obtain ⟨i, hi, e⟩ := List.mem_iff_getElem.1 h0
  have hF : F.length = G.length := by rw [h.flen, h.len]
  have hle : ∀ j (hj : j < G.length), G[i].v.u < G[j].v.u ∨ (G[i].v.u = G[j].v.u ∧ G[i].n ≤ G[j].n) := by
    intro j hj
    obtain ⟨x, hx, ex⟩ := (h.has _).1 (List.getElem_mem hj)
    have q := h.heap.first x hx
    rw [ex, ← e] at q
    have b1 := h.below _ (List.getElem_mem hi)
    have b2 := h.below _ (List.getElem_mem hj)
    have := h.small
    have q2 := rkE_lt (x := G[j]) (y := G[i]) (by omega) (by omega)
    have : ¬ rkE G[j] < rkE G[i] := by omega
    rw [q2] at this
    omega
  refine ⟨i, by rw [List.getElem?_eq_getElem hi, e], by omega, fun j hj => ?_, fun j hj => ?_⟩
  · rw [h.fget (by omega) hi, h.fget hj (by omega)]
    have := hle j (by omega); omega
  · rw [h.fget (by omega) hi, h.fget (by omega) (by omega)]
    have q := hle j (by omega)
    have := List.pairwise_iff_getElem.1 h.rises j i (by omega) hi hj
    omega
/-- time passes: the heap's firsts go while they have ended -/
def aliveD (now : Nat) (F : List Fl) : List Fl := F.filter fun f => decide (now < f.u)
theorem filter_erase {α : Type} (p : α → Bool) : ∀ (l : List α) (i : Nat) (x : α), l[i]? = Option.some x → p x = false → (l.eraseIdx i).filter p = l.filter p
  | [], i, x, h, _ => by simp at h
  | y :: l, 0, x, h, hp => by
    simp only [List.getElem?_cons_zero, Option.some.injEq] at h
    subst h
    simp [hp]
  | y :: l, i + 1, x, h, hp => by
    simp only [List.getElem?_cons_succ] at h
    have := filter_erase p l i x h hp
    simp only [List.eraseIdx_cons_succ, List.filter_cons, this]
theorem Rel.ended {n : Nat} {g : Nat → En} {b : Nat} {F : List Fl} {G : List En} (h : Rel (n + 1) g b F G) (now : Nat) (h0 : (g 0).v.u ≤ now) : ∃ F' G', Rel n (Hp.dropFirst rkE n g) b F' G' ∧ aliveD now F' = aliveD now F := by
  obtain ⟨i, hG, hm⟩ := h.min
  refine ⟨_, _, h.drop hG, ?_⟩
  unfold aliveD
  obtain ⟨hi, e⟩ := List.getElem?_eq_some_iff.1 hG
  refine filter_erase _ F i (F[i]'(hm.lt)) (List.getElem?_eq_getElem hm.lt) ?_
  rw [h.fget hm.lt hi, e]
  simp; omega
theorem Rel.alive {n : Nat} {g : Nat → En} {b : Nat} {F : List Fl} {G : List En} (h : Rel n g b F G) (now : Nat) (h0 : n = 0 ∨ now < (g 0).v.u) : aliveD now F = F := by
  unfold aliveD
  rw [List.filter_eq_self]
  intro f hf
  rw [← h.vals] at hf
  obtain ⟨e, he, rfl⟩ := List.mem_map.1 hf
  obtain ⟨x, hx, ex⟩ := (h.has _).1 he
  rcases h0 with q | q
  · omega
  · have r := h.heap.first x hx
    rw [ex] at r
    have b1 := h.below _ he
    have b2 := h.below _ ((h.has _).2 ⟨0, by omega, rfl⟩)
    have := h.small
    unfold rkE at r
    simp only [decide_eq_true_eq]
    omega
/-- sorted by age -/
theorem Rel.sorted {n : Nat} {g : Nat → En} {b : Nat} {F : List Fl} {G : List En} (h : Rel n g b F G) (L : List En) (hp : L.Pairwise (fun x y => x.n < y.n)) (hm : ∀ e, e ∈ L ↔ Hp.Has n g e) : L = G :=
  Hp.rising_eq (fun e => e.n) L G hp h.rises (fun e => by rw [hm, h.has])
theorem minD_at : ∀ (F : List Fl), F ≠ [] → MinAt F (minD F)
  | [], h => absurd rfl h
  | f :: r, _ => by
    by_cases q : ∃ g ∈ r, g.u < f.u
    · have hr : r ≠ [] := fun e => by subst e; obtain ⟨g, hg, _⟩ := q; cases hg
      have ih := minD_at r hr
      have e : minD (f :: r) = minD r + 1 := by rw [minD, if_pos q]
      rw [e]
      obtain ⟨g, hg, hlt⟩ := q
      obtain ⟨x, hx, rfl⟩ := List.mem_iff_getElem.1 hg
      have hx' := ih.le x hx
      refine ⟨by simp only [List.length_cons]; have := ih.lt; omega, fun j hj => ?_, fun j hj => ?_⟩
      · rcases j with _ | j
        · simp only [List.getElem_cons_succ, List.getElem_cons_zero]; omega
        · simp only [List.getElem_cons_succ]; exact ih.le j (by simpa using hj)
      · rcases j with _ | j
        · simp only [List.getElem_cons_succ, List.getElem_cons_zero]; omega
        · simp only [List.getElem_cons_succ]; exact ih.first j (by omega)
    · have e : minD (f :: r) = 0 := by rw [minD, if_neg q]
      rw [e]
      refine ⟨by simp, fun j hj => ?_, fun j hj => by omega⟩
      rcases j with _ | j
      · exact Nat.le_refl _
      · simp only [List.getElem_cons_succ, List.getElem_cons_zero]
        have hj' : j < r.length := by simpa using hj
        apply Nat.le_of_not_lt
        intro hlt
        exact q ⟨r[j], List.getElem_mem hj', hlt⟩
def fl0 : Fl := ⟨0, 0, 0, 0, 0, false, false, 0⟩
/-- what an accepted frame leaves: was one put out; the flows -/
def keepS (cap now : Nat) (F : List Fl) (h : Hd) : Bool × List Fl :=
  match findD F h with
  | some i => (false, F.set i (heardF (F.getD i fl0) h now))
  | none => if freshH h = true then (decide (F.length = cap), (if F.length = cap then F.eraseIdx (minD F) else F) ++ [beginF h now]) else (false, F)
theorem keepS_len {cap now : Nat} {F : List Fl} (h : Hd) (hc : 1 ≤ cap) (hF : F.length ≤ cap) : (keepS cap now F h).2.length ≤ cap := by
  unfold keepS
  split
  · simp [hF]
  · split
    · split
      · rename_i e
        have hm := (minD_at F (by intro q; subst q; simp at e; omega)).lt
        simp only [List.length_append, List.length_cons, List.length_nil]
        rw [List.length_eraseIdx_of_lt hm]; omega
      · simp; omega
    · exact hF
end Go.Proofs.YtclpnafiiobfhabGreatDoor
namespace Go.Proofs.YtclpnafiiobfhabGreatDoor
open Go.RowKit
set_option linter.unusedVariables false
set_option linter.unusedSimpArgs false

/-- headers, flows, keys as values -/
abbrev Hd.cells (h : Hd) : Array Value := #[.int .u32 h.a, .int .u32 h.b, .int .u8 h.p, .int .u16 h.s, .int .u16 h.d, .int .u8 h.f]
abbrev Fl.cells (f : Fl) : Array Value := #[.int .u32 f.a, .int .u32 f.b, .int .u8 f.p, .int .u16 f.s, .int .u16 f.d, .bool f.rep, .bool f.clo, .int .u64 (f.u : Int)]
abbrev Ky.cells (k : Ky) : Array Value := #[.int .u32 k.la, .int .u16 k.lp, .int .u32 k.ha, .int .u16 k.hp, .int .u8 k.p]
set_option maxHeartbeats 800000 in
theorem less_any (a s b d : Int) (w : World) :
    Calls Tryz.prog 102 #[.agg #[.int .u32 a, .int .u16 s], .agg #[.int .u32 b, .int .u16 d]] w fun e w' => e = .returned (.bool (lessE a s b d)) ∧ Below w.heap.size w w' := by
  by_cases h : a = b
  · have e : lessE a s b d = decide (s < d) := by unfold lessE; rw [if_pos h]
    rw [e]
    have h1 : (a != b) = false := by simpa using h
    clear h e
    go_enter Tryz.func102, Tryz.ntmps102
    go_wp2_with fail
    go_ret
    exact ⟨rfl, ((Below.refl _ _).alloc (Nat.le_refl _) _).alloc (by simp) _⟩
  · have e : lessE a s b d = decide (a < b) := by unfold lessE; rw [if_neg h]
    rw [e]
    have h1 : (a != b) = true := by simpa using h
    clear h e
    go_enter Tryz.func102, Tryz.ntmps102
    go_wp2_with fail
    go_ret
    exact ⟨rfl, ((Below.refl _ _).alloc (Nat.le_refl _) _).alloc (by simp) _⟩
set_option maxHeartbeats 800000 in
theorem later_any (a b : Nat) (w : World) (ha : a ≤ topT) (hb : b ≤ topT) :
    Calls Tryz.prog 46 #[.int .u64 (a : Int), .int .u64 (b : Int)] w fun e w' => e = .returned (.int .u64 (plusT a b : Int)) ∧ w' = w := by
  unfold topT at ha hb
  have h1 : IntKind.u64.wrap (18446744073709551615 - (a : Int)) = 18446744073709551615 - (a : Int) := by rw [IntKind.wrap_u64]; omega
  by_cases h : 18446744073709551615 < a + b
  · have e : ((plusT a b : Nat) : Int) = 18446744073709551615 := by unfold plusT topT; rw [if_pos h]; rfl
    rw [e]
    have h2 : 18446744073709551615 - (a : Int) < (b : Int) := by omega
    clear h e ha hb
    go_enter Tryz.func46, Tryz.ntmps46
    go_wp2_with fail
    go_ret
    exact ⟨rfl, rfl⟩
  · have e : ((plusT a b : Nat) : Int) = (a : Int) + (b : Int) := by unfold plusT topT; rw [if_neg h]; omega
    rw [e]
    have h2 : ¬ 18446744073709551615 - (a : Int) < (b : Int) := by omega
    have h3 : IntKind.u64.wrap ((a : Int) + (b : Int)) = (a : Int) + (b : Int) := by rw [IntKind.wrap_u64]; omega
    clear h e ha hb
    go_enter Tryz.func46, Tryz.ntmps46
    go_wp2_with fail
    go_ret
    exact ⟨rfl, rfl⟩
set_option maxHeartbeats 1600000 in
theorem begin_any (h : Hd) (w : World) :
    Calls Tryz.prog 71 #[.agg h.cells] w fun e w' => e = .returned (.agg (Fl.mk h.a h.b h.p h.s h.d false false 0).cells) ∧ Below w.heap.size w w' := by
  obtain ⟨a, b, p, s, d, f⟩ := h
  go_enter Tryz.func71, Tryz.ntmps71
  go_wp2_with fail
  refine bodyPost_ret (v := .agg #[.int .u32 a, .int .u32 b, .int .u8 p, .int .u16 s, .int .u16 d, .bool false, .bool false, .int .u64 0]) (by simp [results, Tryz.results71, go_sem]) rfl ⟨rfl, ?_⟩
  repeat (first | with_reducible exact Below.refl _ _ | with_reducible refine Below.setCell ?_ (by first | (simp; done) | (simp; omega)) _ | with_reducible refine Below.alloc ?_ (by first | (simp; done) | (simp; omega)) _)
/-- marks -/
theorem and8_g (A B : Nat) (ha : A ≤ 255) (hb : B ≤ 255) : bits BinOp.and IntKind.u8 (A : Int) (B : Int) = ((A &&& B : Nat) : Int) := by
  have hx : A &&& B < 2 ^ 8 := Nat.and_lt_two_pow _ (by omega)
  show IntKind.u8.wrap ((BitVec.ofInt 8 (A : Int) &&& BitVec.ofInt 8 (B : Int)).toNat : Int) = _
  rw [BitVec.toNat_and, show (BitVec.ofInt 8 (A : Int)).toNat = A from by simp; omega, show (BitVec.ofInt 8 (B : Int)).toNat = B from by simp; omega, IntKind.wrap_u8]
  omega
set_option maxHeartbeats 1600000 in
theorem firstState_any (h : Hd) (w : World) (hf : 0 ≤ h.f ∧ h.f ≤ 255) :
    Calls Tryz.prog 69 #[.agg h.cells] w fun e w' => e = .returned (.int .u8 (stateF none h : Int)) ∧ Below w.heap.size w w' := by
  obtain ⟨a, b, p, s, d, f⟩ := h
  dsimp only at hf
  obtain ⟨F, rfl⟩ : ∃ F : Nat, f = (F : Int) := ⟨f.toNat, by omega⟩
  have i1 : bits BinOp.and IntKind.u8 (F : Int) 23 = ((F &&& 23 : Nat) : Int) := and8_g F 23 (by omega) (by decide)
  have HE : Hid (stateF none ⟨a, b, p, s, d, (F : Int)⟩ = if p = 6 ∧ F &&& 23 ≠ 2 then 2 else 0) := show stateF none ⟨a, b, p, s, d, (F : Int)⟩ = _ by
    unfold stateF freshH
    simp only [Int.toNat_natCast]
    by_cases h1 : p = 6 <;> by_cases h2 : F &&& 23 = 2 <;> simp [h1, h2]
  by_cases h1 : p = 6
  · have q1 : (p == 6) = true := by simpa using h1
    by_cases h2 : F &&& 23 = 2
    · have q2 : ((((F &&& 23 : Nat) : Int)) != 2) = false := by rw [h2]; rfl
      rw [if_neg (fun q => q.2 h2)] at HE
      generalize ((F &&& 23 : Nat) : Int) = x at i1 q2
      clear h1 h2 hf
      go_enter Tryz.func69, Tryz.ntmps69
      go_wp2_with fail
      go_ret
      exact ⟨by rw [HE.out]; rfl, (Below.refl _ _).alloc (Nat.le_refl _) _⟩
    · have q2 : ((((F &&& 23 : Nat) : Int)) != 2) = true := by simp; omega
      rw [if_pos ⟨h1, h2⟩] at HE
      generalize ((F &&& 23 : Nat) : Int) = x at i1 q2
      clear h1 h2 hf
      go_enter Tryz.func69, Tryz.ntmps69
      go_wp2_with fail
      go_ret
      exact ⟨by rw [HE.out]; rfl, (Below.refl _ _).alloc (Nat.le_refl _) _⟩
  · have q1 : (p == 6) = false := by simpa using h1
    rw [if_neg (fun q => h1 q.1)] at HE
    clear h1 hf
    go_enter Tryz.func69, Tryz.ntmps69
    go_wp2_with fail
    go_ret
    exact ⟨by rw [HE.out]; rfl, (Below.refl _ _).alloc (Nat.le_refl _) _⟩
set_option maxHeartbeats 1600000 in
theorem span_any (x : Fl) (w : World) :
    Calls Tryz.prog 72 #[.agg x.cells] w fun e w' => e = .returned (.int .u64 (spanF x : Int)) ∧ Below w.heap.size w w' := by
  obtain ⟨a, b, p, s, d, rep, clo, u⟩ := x
  have HE : Hid (spanF ⟨a, b, p, s, d, rep, clo, u⟩ = if p = 6 then (if clo = true then 10 else if rep = true then 300 else 30) else if p = 17 then (if rep = true then 120 else 60) else if p = 1 then 20 else 60) := rfl
  by_cases h6 : p = 6
  · have q6 : (p == 6) = true := by simpa using h6
    rw [if_pos h6] at HE
    clear h6
    cases clo
    · cases rep
      all_goals
        go_enter Tryz.func72, Tryz.ntmps72
        go_wp2_with fail
        go_ret
        exact ⟨by rw [HE.out]; rfl, (Below.refl _ _).alloc (Nat.le_refl _) _⟩
    · go_enter Tryz.func72, Tryz.ntmps72
      go_wp2_with fail
      go_ret
      exact ⟨by rw [HE.out]; rfl, (Below.refl _ _).alloc (Nat.le_refl _) _⟩
  · have q6 : (p == 6) = false := by simpa using h6
    rw [if_neg h6] at HE
    clear h6
    by_cases h17 : p = 17
    · have q17 : (p == 17) = true := by simpa using h17
      rw [if_pos h17] at HE
      clear h17
      cases rep
      all_goals
        go_enter Tryz.func72, Tryz.ntmps72
        go_wp2_with fail
        go_ret
        exact ⟨by rw [HE.out]; rfl, (Below.refl _ _).alloc (Nat.le_refl _) _⟩
    · have q17 : (p == 17) = false := by simpa using h17
      rw [if_neg h17] at HE
      clear h17
      by_cases h1 : p = 1
      · have q1 : (p == 1) = true := by simpa using h1
        rw [if_pos h1] at HE
        clear h1
        go_enter Tryz.func72, Tryz.ntmps72
        go_wp2_with fail
        go_ret
        exact ⟨by rw [HE.out]; rfl, (Below.refl _ _).alloc (Nat.le_refl _) _⟩
      · have q1 : (p == 1) = false := by simpa using h1
        rw [if_neg h1] at HE
        clear h1
        go_enter Tryz.func72, Tryz.ntmps72
        go_wp2_with fail
        go_ret
        exact ⟨by rw [HE.out]; rfl, (Below.refl _ _).alloc (Nat.le_refl _) _⟩
end Go.Proofs.YtclpnafiiobfhabGreatDoor
namespace Go.Proofs.YtclpnafiiobfhabGreatDoor
open Go.RowKit
set_option linter.unusedVariables false
set_option linter.unusedSimpArgs false

/-- a block of a type's own, whole -/
def Blk (t : TypeId) (w : World) (g : Nat) (L : List Value) : Prop := w.heap[g]? = some (.cells L.toArray t (0, 0)) ∧ ∀ v ∈ L, v.oneCell' = true
section
variable {t : TypeId} {w w' : World} {g : Nat} {L M : List Value}
theorem Blk.lt (h : Blk t w g L) : g < w.heap.size := (Array.getElem?_eq_some_iff.1 h.1).1
theorem Blk.cell (h : Blk t w g L) (i : Nat) (v : Value) (hi : L[i]? = some v) : w.cell? ⟨g, i, none⟩ = some v := by
  have h := h.1
  simp only [World.cell?, h]
  simpa using hi
theorem Blk.frozen (h : Blk t w g L) (i : Nat) : w.frozen? ⟨g, i, none⟩ = false := by
  have h := h.1
  simp [World.frozen?, h]
theorem Blk.set (h : Blk t w g L) (i : Nat) (v : Value) (hv : v.oneCell' = true := by rfl) : Blk t (w.setCell ⟨g, i, none⟩ v) g (L.set i v) := by
  refine ⟨?_, fun x hx => ?_⟩
  · have h := h.1
    simp only [World.setCell, Array.getElem?_modify, h, if_true, Option.map_some]
    simp
  · rcases List.mem_or_eq_of_mem_set hx with q | q
    · exact h.2 x q
    · rw [q]; exact hv
theorem Blk.other (h : Blk t w g L) {g' i : Nat} (v : Value) (hg : g' ≠ g) : Blk t (w.setCell ⟨g', i, none⟩ v) g L := by
  refine ⟨?_, h.2⟩
  have h := h.1
  simp only [World.setCell, Array.getElem?_modify, h]
  rw [if_neg hg]
theorem Blk.below {B : Nat} (h : Blk t w g L) (hb : Below B w w') (hg : g < B) : Blk t w' g L := by
  refine ⟨?_, h.2⟩
  rw [hb.block g hg]; exact h.1
theorem Blk.alloc (h : Blk t w g L) (o : Obj) : Blk t (w.alloc o) g L := h.below ((Below.refl _ _).alloc (Nat.le_refl _) _) h.lt
theorem Blk.made (w : World) (t : TypeId) (L : List Value) (hL : ∀ v ∈ L, v.oneCell' = true) : Blk t (w.alloc (.cells L.toArray t)) w.heap.size L := ⟨heap_alloc_new w _, hL⟩
theorem Blk.row (h : Blk t w g L) (hM : ∀ v ∈ M, v.oneCell' = true) : Blk t (w.setRow g M.toArray) g M := by
  refine ⟨?_, hM⟩
  have h := h.1
  simp only [World.setRow, Array.getElem?_modify, h, if_true, Option.map_some]
theorem Blk.apart {g' : Nat} {A : Array Value} (h : Blk t w g L) (hg : g' ≠ g) : Blk t (w.setRow g' A) g L := by
  refine ⟨?_, h.2⟩
  have h := h.1
  simp only [World.setRow, Array.getElem?_modify, h]
  rw [if_neg hg]
end
theorem gbelow_row {B g : Nat} {a w : World} (h : Below B a w) (hg : B ≤ g) (M : Array Value) : Below B a (w.setRow g M) := by
  refine ⟨h.os, h.tape, h.output, ?_, fun m hm => ?_⟩
  · have := h.size; simpa [World.setRow] using this
  · rw [← h.block m hm]
    simp only [World.setRow, Array.getElem?_modify]
    rw [if_neg (by omega)]
theorem gone {L : List Value} (h : ∀ v ∈ L, v.oneCell' = true) : L.toArray.all (·.oneCell') = true := Array.all_eq_true_iff_forall_mem.2 (fun v hv => h v (by simpa using hv))
theorem Tryz.sizeFlow : (Tryz.prog.info? 113).map (·.size) = some 8 := by kernel_rfl
theorem sizeFl {L : List Value} (hl : L.length = 8) : (Tryz.prog.info? 113).map (·.size) = some L.toArray.size := by rw [List.size_toArray, hl]; exact Tryz.sizeFlow
/-- a flow's cells as a list -/
abbrev Fl.l (f : Fl) : List Value := [.int .u32 f.a, .int .u32 f.b, .int .u8 f.p, .int .u16 f.s, .int .u16 f.d, .bool f.rep, .bool f.clo, .int .u64 (f.u : Int)]
abbrev Hd.l (h : Hd) : List Value := [.int .u32 h.a, .int .u32 h.b, .int .u8 h.p, .int .u16 h.s, .int .u16 h.d, .int .u8 h.f]
theorem Fl.one (f : Fl) : ∀ v ∈ f.l, v.oneCell' = true := by
  intro v hv
  simp only [Fl.l, List.mem_cons, List.not_mem_nil, or_false] at hv
  rcases hv with rfl | rfl | rfl | rfl | rfl | rfl | rfl | rfl <;> rfl
theorem Hd.one (h : Hd) : ∀ v ∈ h.l, v.oneCell' = true := by
  intro v hv
  simp only [Hd.l, List.mem_cons, List.not_mem_nil, or_false] at hv
  rcases hv with rfl | rfl | rfl | rfl | rfl | rfl <;> rfl
theorem load_flow {W : World} {g : Nat} {L : List Value} (h : Blk 113 W g L) (hl : L.length = 8) : (loadVar 113 ⟨g, 0, none⟩).run Tryz.prog W = .ok (.agg L.toArray) W :=
  run_loadVar_row W g _ _ L.toArray (0, 0) _ h.1 Tryz.underlying113 rfl (sizeFl hl)
end Go.Proofs.YtclpnafiiobfhabGreatDoor
namespace Go.Proofs.YtclpnafiiobfhabGreatDoor
open Go.RowKit
set_option linter.unusedVariables false
set_option linter.unusedSimpArgs false

/-- an entry's fourteen cells -/
abbrev En.l (e : En) : List Value := [.int .u32 e.k.la, .int .u16 e.k.lp, .int .u32 e.k.ha, .int .u16 e.k.hp, .int .u8 e.k.p, .int .u32 e.v.a, .int .u32 e.v.b, .int .u8 e.v.p, .int .u16 e.v.s, .int .u16 e.v.d, .bool e.v.rep, .bool e.v.clo, .int .u64 (e.v.u : Int), .int .u64 (e.n : Int)]
theorem En.one (e : En) : ∀ v ∈ e.l, v.oneCell' = true := by
  intro v hv
  simp only [En.l, List.mem_cons, List.not_mem_nil, or_false] at hv
  rcases hv with rfl | rfl | rfl | rfl | rfl | rfl | rfl | rfl | rfl | rfl | rfl | rfl | rfl | rfl <;> rfl
/-- the heap's row: n entries, and spare room behind them -/
def EntsAt (W : World) (g n cap : Nat) (f : Nat → En) : Prop := ∃ cur : Array Value, W.heap[g]? = some (.cells cur 168 (0, 0)) ∧ cur.size = cap * 14 ∧ n ≤ cap ∧ cap ≤ maxLen ∧ ∀ i, i < n → ∀ k v, (f i).l[k]? = some v → cur[i * 14 + k]? = some v
theorem EntsAt.cell {W : World} {g n cap : Nat} {f : Nat → En} (h : EntsAt W g n cap f) {i : Nat} (hi : i < n) (k : Nat) (v : Value) (hv : (f i).l[k]? = some v) : W.cell? ⟨g, i * 14 + k, none⟩ = some v := by
  obtain ⟨cur, hh, _, _, _, hc⟩ := h
  simp only [World.cell?, hh]
  exact hc i hi k v hv
theorem EntsAt.frozen {W : World} {g n cap : Nat} {f : Nat → En} (h : EntsAt W g n cap f) (i : Nat) : W.frozen? ⟨g, i, none⟩ = false := by
  obtain ⟨cur, hh, _⟩ := h
  simp [World.frozen?, hh]
theorem EntsAt.below {W W' : World} {g n cap B : Nat} {f : Nat → En} (h : EntsAt W g n cap f) (hb : Below B W W') (hg : g < B) : EntsAt W' g n cap f := by
  obtain ⟨cur, hh, r⟩ := h
  exact ⟨cur, by rw [hb.block g hg]; exact hh, r⟩
theorem EntsAt.lt {W : World} {g n cap : Nat} {f : Nat → En} (h : EntsAt W g n cap f) : g < W.heap.size := by
  obtain ⟨cur, hh, _⟩ := h
  exact (Array.getElem?_eq_some_iff.1 hh).1
set_option maxHeartbeats 800000 in
theorem end_any (x : Fl) (w : World) :
    Calls Tryz.prog 210 #[.agg x.cells] w fun e w' => e = .returned (.int .u64 (x.u : Int)) ∧ Below w.heap.size w w' := by
  obtain ⟨a, b, p, s, d, rep, clo, u⟩ := x
  dsimp only [Fl.cells]
  go_enter Tryz.func210, Tryz.ntmps210
  go_wp2_with fail
  go_ret
  exact ⟨rfl, (Below.refl _ _).alloc (Nat.le_refl _) _⟩
end Go.Proofs.YtclpnafiiobfhabGreatDoor
namespace Go.Proofs.YtclpnafiiobfhabGreatDoor
open Go.RowKit
open Go.MapKept (Stamped stamped_iff stamped_push stamped_modify stamped_erase stamped_empty)
open Go.ChangeMaps (setBlock heap_setBlock_same heap_setBlock_other modify_eq_set)
set_option linter.unusedVariables false
set_option linter.unusedSimpArgs false

theorem Tryz.laidOutOk : laidOutB Tryz.prog = true := by kernel_rfl
theorem key_row : (112 : TypeId) < Tryz.prog.types.size := of_decide_eq_true (by kernel_rfl)
theorem key_law : Maps.Keyed Tryz.prog 112 := Maps.Keyed.of_law (deep_law_laid Tryz.laidOutOk (m := 3) (by omega) key_row (by kernel_rfl) (by kernel_rfl))
/-- a key whose parts lie in their ranges -/
structure Ky.Wf (k : Ky) : Prop where
  la : 0 ≤ k.la ∧ k.la < 4294967296
  lp : 0 ≤ k.lp ∧ k.lp < 65536
  ha : 0 ≤ k.ha ∧ k.ha < 4294967296
  hp : 0 ≤ k.hp ∧ k.hp < 65536
  p : 0 ≤ k.p ∧ k.p < 256
theorem key_size : Tryz.prog.types.size = 348 := by kernel_rfl
theorem key_cells : Tryz.prog.cellsOf 112 = 5 := by kernel_rfl
theorem end_cells : Tryz.prog.cellsOf 110 = 2 := by kernel_rfl
theorem u32_cells : Tryz.prog.cellsOf 25 = 1 := by kernel_rfl
theorem u16_cells : Tryz.prog.cellsOf 26 = 1 := by kernel_rfl
theorem u8_cells : Tryz.prog.cellsOf 5 = 1 := by kernel_rfl
theorem key_type : Tryz.prog.keyType 112 = true := by kernel_rfl
theorem lits_u32 (n : Nat) (a : Int) (h : 0 ≤ a ∧ a < 4294967296) : Tryz.prog.keyLits (n + 1) 25 [.int .u32 a] = some [.int .u32 a] := by
  have : (Lit.int .u32 a).wf = true := WalkArith.wf_u32 (by omega)
  simp [Program.keyLits, Tryz.underlying25, this]
theorem lits_u16 (n : Nat) (a : Int) (h : 0 ≤ a ∧ a < 65536) : Tryz.prog.keyLits (n + 1) 26 [.int .u16 a] = some [.int .u16 a] := by
  have : (Lit.int .u16 a).wf = true := by
    have e1 : IntKind.u16.min = 0 := by decide
    have e2 : IntKind.u16.max = 65535 := by decide
    simp [Lit.wf, e1, e2]; omega
  simp [Program.keyLits, Tryz.underlying26, this]
theorem lits_u8 (n : Nat) (a : Int) (h : 0 ≤ a ∧ a < 256) : Tryz.prog.keyLits (n + 1) 5 [.int .u8 a] = some [.int .u8 a] := by
  have : (Lit.int .u8 a).wf = true := WalkArith.wf_u8 (by omega)
  simp [Program.keyLits, Tryz.underlying5, this]
theorem lits_end (n : Nat) (a s : Int) (h : 0 ≤ a ∧ a < 4294967296) (g : 0 ≤ s ∧ s < 65536) : Tryz.prog.keyLits (n + 2) 110 [.int .u32 a, .int .u16 s] = some [.int .u32 a, .int .u16 s] := by
  rw [Program.keyLits.eq_def]
  simp [Tryz.underlying110, end_cells, u32_cells, u16_cells, lits_u32 n a h, lits_u16 n s g]
theorem key_reads {k : Ky} (h : k.Wf) : ∃ kl, keyOf Tryz.prog 112 (.agg k.cells) = some kl := by
  have e : Tryz.prog.keyLits (Tryz.prog.types.size + 1) 112 (Value.agg k.cells).cells.toList = some [.int .u32 k.la, .int .u16 k.lp, .int .u32 k.ha, .int .u16 k.hp, .int .u8 k.p] := by
    rw [key_size, Program.keyLits.eq_def]
    simp [Tryz.underlying112, key_cells, end_cells, u8_cells, Value.cells, lits_end _ _ _ h.la h.lp, lits_end _ _ _ h.ha h.hp, lits_u8 _ _ h.p]
  refine ⟨.string (keyBytes [.int .u32 k.la, .int .u16 k.lp, .int .u32 k.ha, .int .u16 k.hp, .int .u8 k.p]), ?_⟩
  have hf : (Value.agg k.cells).formed Tryz.prog 112 = true := by simp [Value.formed, Tryz.underlying112, key_cells]
  unfold keyOf
  rw [Tryz.underlying112]
  simp only [key_type, hf, Bool.and_self, if_true]
  rw [e]
  rfl
theorem Ky.inj {k k' : Ky} (h : (Value.agg k.cells) = .agg k'.cells) : k = k' := by
  obtain ⟨a, b, c, d, e⟩ := k
  obtain ⟨a', b', c', d', e'⟩ := k'
  simp [Ky.cells] at h
  simp [h]
/-- block b is the map of the places: R tells which key stands where -/
def Plc (W : World) (b : Nat) (R : Ky → Nat → Prop) : Prop := ∃ es clock, W.heap[b]? = some (.map es clock) ∧ Stamped es clock ∧ (∀ e ∈ es.toList, ∃ (k : Ky) (i : Nat), k.Wf ∧ e.key = .agg k.cells ∧ e.val = .int .i64 (i : Int) ∧ R k i) ∧ ∀ k i, R k i → ∃ e ∈ es.toList, e.key = .agg k.cells ∧ e.val = .int .i64 (i : Int)
theorem Plc.congr {W : World} {b : Nat} {R S : Ky → Nat → Prop} (h : Plc W b R) (e : ∀ k i, R k i ↔ S k i) : Plc W b S := by
  obtain ⟨es, clock, hb, hs, h1, h2⟩ := h
  exact ⟨es, clock, hb, hs, fun x hx => by obtain ⟨k, i, a, b, c, d⟩ := h1 x hx; exact ⟨k, i, a, b, c, (e k i).1 d⟩, fun k i q => h2 k i ((e k i).2 q)⟩
theorem Plc.lt {W : World} {b : Nat} {R : Ky → Nat → Prop} (h : Plc W b R) : b < W.heap.size := by
  obtain ⟨es, clock, hb, _⟩ := h
  exact (Array.getElem?_eq_some_iff.1 hb).1
theorem Plc.same {W W' : World} {b : Nat} {R : Ky → Nat → Prop} (h : Plc W b R) (e : W'.heap[b]? = W.heap[b]?) : Plc W' b R := by
  obtain ⟨es, clock, hb, r⟩ := h
  exact ⟨es, clock, e.trans hb, r⟩
theorem Plc.made (W : World) : Plc (W.alloc (.map #[] 0)) W.heap.size (fun _ _ => False) :=
  ⟨#[], 0, (MapKept.heap_alloc W _).1, stamped_empty 0, by simp, fun _ _ q => q.elim⟩
theorem stamped_keys {es : Array MapEntry} {clock : Nat} (h : Stamped es clock) {x y : MapEntry} (hx : x ∈ es.toList) (hy : y ∈ es.toList) (e : x.key = y.key) : x = y := by
  have hn := ((stamped_iff es clock).1 h).2.2
  obtain ⟨i, hi, rfl⟩ := List.mem_iff_getElem.1 hx
  obtain ⟨j, hj, rfl⟩ := List.mem_iff_getElem.1 hy
  rcases Nat.lt_trichotomy i j with q | q | q
  · exact absurd e (List.pairwise_iff_getElem.1 hn i j hi hj q)
  · subst q; rfl
  · exact absurd e.symm (List.pairwise_iff_getElem.1 hn j i hj hi q)
theorem zero_int (w : World) : (zeroValue 3).run Tryz.prog w = .ok (.int .i64 0) w := by kernel_rfl
theorem map_under : Tryz.prog.underlying 163 = some (.map 112 3) := Tryz.underlying163
theorem Plc.keys {es : Array MapEntry} {R : Ky → Nat → Prop} (h1 : ∀ e ∈ es.toList, ∃ (k : Ky) (i : Nat), k.Wf ∧ e.key = .agg k.cells ∧ e.val = .int .i64 (i : Int) ∧ R k i) : ∀ e ∈ es.toList, ∃ l, keyOf Tryz.prog 112 e.key = some l := fun e he => by
  obtain ⟨k, i, a, b, _⟩ := h1 e he
  obtain ⟨l, hl⟩ := key_reads a
  exact ⟨l, by rw [b]; exact hl⟩
theorem Plc.look_some {W : World} {b : Nat} {R : Ky → Nat → Prop} (h : Plc W b R) {k : Ky} (hk : k.Wf) {i : Nat} (hR : R k i) :
    (Instr.lookup 163 (.map (some b)) (.agg k.cells) true).run Tryz.prog W = .ok (.tuple #[.int .i64 (i : Int), .bool true]) W := by
  obtain ⟨es, clock, hb, hs, h1, h2⟩ := h
  obtain ⟨kl, hkl⟩ := key_reads hk
  obtain ⟨x, hx, hxk, hxv⟩ := h2 k i hR
  rcases key_law.find W hkl es.toList (Plc.keys h1) with ⟨_, q2⟩ | ⟨j, e0, q1, q2, q3⟩
  · exact absurd hxk (q2 x hx)
  · have : e0 = x := stamped_keys hs (List.mem_of_getElem? q2) hx (by rw [q3, hxk])
    subst this
    simp [Instr.lookup, run_underlying map_under, MapKept.run_getObj_map hb, key_law.check W _ hkl, q1, Result.andThen, hxv]
theorem Plc.look_none {W : World} {b : Nat} {R : Ky → Nat → Prop} (h : Plc W b R) {k : Ky} (hk : k.Wf) (hR : ∀ i, ¬ R k i) :
    (Instr.lookup 163 (.map (some b)) (.agg k.cells) true).run Tryz.prog W = .ok (.tuple #[.int .i64 0, .bool false]) W := by
  obtain ⟨es, clock, hb, hs, h1, h2⟩ := h
  obtain ⟨kl, hkl⟩ := key_reads hk
  rcases key_law.find W hkl es.toList (Plc.keys h1) with ⟨q1, q2⟩ | ⟨j, e0, q1, q2, q3⟩
  · simp [Instr.lookup, run_underlying map_under, MapKept.run_getObj_map hb, key_law.check W _ hkl, q1, zero_int W, Result.andThen]
  · obtain ⟨k', i, _, ek, _, r⟩ := h1 e0 (List.mem_of_getElem? q2)
    rw [q3] at ek
    obtain rfl := Ky.inj ek
    exact absurd r (hR i)
/-- places[k] = i -/
theorem Plc.store {W : World} {b : Nat} {R : Ky → Nat → Prop} (h : Plc W b R) {k : Ky} (hk : k.Wf) (i : Nat) :
    ∃ W', (Instr.mapUpdate 163 (.map (some b)) (.agg k.cells) (.int .i64 (i : Int))).run Tryz.prog W = .ok () W' ∧ Plc W' b (fun x j => (x = k ∧ j = i) ∨ (x ≠ k ∧ R x j)) ∧ W.grownBy W' (some b) := by
  obtain ⟨es, clock, hb, hs, h1, h2⟩ := h
  obtain ⟨kl, hkl⟩ := key_reads hk
  rcases key_law.find W hkl es.toList (Plc.keys h1) with ⟨q1, q2⟩ | ⟨j, e0, q1, q2, q3⟩
  · refine ⟨setBlock W b (.map (es.push ⟨.agg k.cells, .int .i64 (i : Int), clock⟩) (clock + 1)), ?_, ⟨_, _, heap_setBlock_same hb _, stamped_push hs q2, ?_, ?_⟩, ⟨rfl, rfl, rfl, by simp [setBlock], fun x _ hx => heap_setBlock_other hb _ (fun e => hx (by rw [e]))⟩⟩
    · simp [Instr.mapUpdate, run_underlying map_under, MapKept.run_getObj_map hb, key_law.check W false hkl, q1, MapKept.run_setObj_map _ hb, Result.andThen, setBlock]
    · intro e he
      simp only [Array.toList_push, List.mem_append, List.mem_singleton] at he
      rcases he with he | rfl
      · obtain ⟨k', i', a, b', c, d⟩ := h1 e he
        exact ⟨k', i', a, b', c, .inr ⟨fun q => q2 e he (by rw [b', q]), d⟩⟩
      · exact ⟨k, i, hk, rfl, rfl, .inl ⟨rfl, rfl⟩⟩
    · rintro x j (⟨rfl, rfl⟩ | ⟨hne, hr⟩)
      · exact ⟨⟨.agg x.cells, .int .i64 (j : Int), clock⟩, by simp, rfl, rfl⟩
      · obtain ⟨e, he, r⟩ := h2 x j hr
        exact ⟨e, by simp only [Array.toList_push, List.mem_append]; exact .inl he, r⟩
  · have hj : es[j]? = some e0 := by simpa using q2
    have hjl : j < es.toList.length := (List.getElem?_eq_some_iff.1 q2).1
    have hlist : (es.modify j (fun e' => { e' with key := .agg k.cells, val := .int .i64 (i : Int) })).toList = es.toList.set j { e0 with key := .agg k.cells, val := .int .i64 (i : Int) } := by rw [Array.toList_modify, modify_eq_set _ _ _ _ q2]
    refine ⟨setBlock W b (.map (es.modify j (fun e' => { e' with key := .agg k.cells, val := .int .i64 (i : Int) })) clock), ?_, ⟨_, _, heap_setBlock_same hb _, stamped_modify hs _ _ (fun _ _ => rfl) (fun e' _ he' => by rw [hj] at he'; cases he'; exact q3.symm), ?_, ?_⟩, ⟨rfl, rfl, rfl, by simp [setBlock], fun x _ hx => heap_setBlock_other hb _ (fun e => hx (by rw [e]))⟩⟩
    · simp [Instr.mapUpdate, run_underlying map_under, MapKept.run_getObj_map hb, key_law.check W false hkl, q1, hj, q3, key_law.stays W hkl, MapKept.run_setObj_map _ hb, Result.andThen, setBlock]
    · intro e he
      rw [hlist] at he
      obtain ⟨y, hy, rfl⟩ := List.mem_iff_getElem.1 he
      rw [List.getElem_set]
      split
      · exact ⟨k, i, hk, rfl, rfl, .inl ⟨rfl, rfl⟩⟩
      · rename_i hne
        have hy' : y < es.toList.length := by simpa using hy
        obtain ⟨k', i', a, b', c, d⟩ := h1 _ (List.getElem_mem hy')
        refine ⟨k', i', a, b', c, .inr ⟨fun q => hne ?_, d⟩⟩
        subst q
        have hn := ((stamped_iff es clock).1 hs).2.2
        obtain ⟨hj0, e0e⟩ := List.getElem?_eq_some_iff.1 q2
        rcases Nat.lt_trichotomy j y with w | w | w
        · exact absurd (by rw [e0e, q3, b']) (List.pairwise_iff_getElem.1 hn j y hj0 hy' w)
        · exact w
        · exact absurd (by rw [e0e, q3, b']) (List.pairwise_iff_getElem.1 hn y j hy' hj0 w)
    · rintro x y (⟨rfl, rfl⟩ | ⟨hne, hr⟩)
      · refine ⟨{ e0 with key := .agg x.cells, val := .int .i64 (y : Int) }, ?_, rfl, rfl⟩
        rw [hlist]
        exact List.mem_iff_getElem.2 ⟨j, by simpa using hjl, by simp⟩
      · obtain ⟨e, he, ek, ev⟩ := h2 x y hr
        obtain ⟨z, hz, rfl⟩ := List.mem_iff_getElem.1 he
        refine ⟨es.toList[z], ?_, ek, ev⟩
        rw [hlist]
        refine List.mem_iff_getElem.2 ⟨z, by simpa using hz, ?_⟩
        rw [List.getElem_set]
        split
        · rename_i q
          subst q
          obtain ⟨_, e0e⟩ := List.getElem?_eq_some_iff.1 q2
          rw [e0e, q3] at ek
          exact absurd (Ky.inj ek).symm hne
        · rfl
/-- delete(places, k) -/
theorem Plc.drop {W : World} {b : Nat} {R : Ky → Nat → Prop} (h : Plc W b R) {k : Ky} (hk : k.Wf) (ty : TypeId) :
    ∃ W', (Builtin.delete_ #[163, 112] ty #[.map (some b), .agg k.cells]).run Tryz.prog W = .ok (.tuple #[]) W' ∧ Plc W' b (fun x j => x ≠ k ∧ R x j) ∧ W.grownBy W' (some b) := by
  obtain ⟨es, clock, hb, hs, h1, h2⟩ := h
  obtain ⟨kl, hkl⟩ := key_reads hk
  rcases key_law.find W hkl es.toList (Plc.keys h1) with ⟨q1, q2⟩ | ⟨j, e0, q1, q2, q3⟩
  · refine ⟨setBlock W b (.map es clock), ?_, ⟨_, _, heap_setBlock_same hb _, hs, ?_, fun x y q => h2 x y q.2⟩, ⟨rfl, rfl, rfl, by simp [setBlock], fun x _ hx => heap_setBlock_other hb _ (fun e => hx (by rw [e]))⟩⟩
    · simp [Builtin.delete_, run_underlying map_under, MapKept.run_getObj_map hb, key_law.check W _ hkl, q1, MapKept.run_setObj_map _ hb, Result.andThen, setBlock]
    · intro e he
      obtain ⟨k', i', a, b', c, d⟩ := h1 e he
      exact ⟨k', i', a, b', c, fun q => q2 e he (by rw [b', q]), d⟩
  · have hjl : j < es.toList.length := (List.getElem?_eq_some_iff.1 q2).1
    have hjs : j < es.size := by simpa using hjl
    have hsub : (es.eraseIdxIfInBounds j).toList = es.toList.eraseIdx j := by
      unfold Array.eraseIdxIfInBounds
      rw [dif_pos hjs]
      simp
    have hmem : ∀ x, x ∈ es.toList.eraseIdx j ↔ (x ∈ es.toList ∧ x ≠ e0) := by
      intro x
      obtain ⟨_, e0e⟩ := List.getElem?_eq_some_iff.1 q2
      rw [List.mem_eraseIdx_iff_getElem]
      constructor
      · rintro ⟨y, hy, hne, rfl⟩
        refine ⟨List.getElem_mem hy, fun q => hne ?_⟩
        have hn := ((stamped_iff es clock).1 hs).2.2
        rcases Nat.lt_trichotomy j y with w | w | w
        · exact absurd (by rw [e0e, q]) (List.pairwise_iff_getElem.1 hn j y hjl hy w)
        · exact w.symm
        · exact absurd (by rw [e0e, q]) (List.pairwise_iff_getElem.1 hn y j hy hjl w)
      · rintro ⟨hx, hne⟩
        obtain ⟨y, hy, rfl⟩ := List.mem_iff_getElem.1 hx
        exact ⟨y, hy, fun q => hne (by subst q; exact e0e), rfl⟩
    refine ⟨setBlock W b (.map (es.eraseIdxIfInBounds j) clock), ?_, ⟨_, _, heap_setBlock_same hb _, stamped_erase hs j, ?_, ?_⟩, ⟨rfl, rfl, rfl, by simp [setBlock], fun x _ hx => heap_setBlock_other hb _ (fun e => hx (by rw [e]))⟩⟩
    · simp [Builtin.delete_, run_underlying map_under, MapKept.run_getObj_map hb, key_law.check W _ hkl, q1, MapKept.run_setObj_map _ hb, Result.andThen, setBlock]
    · intro e he
      rw [hsub, hmem] at he
      obtain ⟨k', i', a, b', c, d⟩ := h1 e he.1
      exact ⟨k', i', a, b', c, fun q => he.2 (stamped_keys hs he.1 (List.mem_of_getElem? q2) (by rw [b', q3, q])), d⟩
    · rintro x y ⟨hne, hr⟩
      obtain ⟨e, he, ek, ev⟩ := h2 x y hr
      exact ⟨e, by rw [hsub, hmem]; exact ⟨he, fun q => hne (Ky.inj (by rw [← ek, q, q3]))⟩, ek, ev⟩
end Go.Proofs.YtclpnafiiobfhabGreatDoor
namespace Go.Proofs.YtclpnafiiobfhabGreatDoor
open Go.RowKit
set_option linter.unusedVariables false
set_option linter.unusedSimpArgs false

/-- all stays but the blocks of S and new ones -/
structure Trn (S : Nat → Prop) (w w' : World) : Prop where
  os : w'.os = w.os
  tape : w'.tape = w.tape
  output : w'.output = w.output
  size : w.heap.size ≤ w'.heap.size
  block : ∀ m, m < w.heap.size → ¬ S m → w'.heap[m]? = w.heap[m]?
section
variable {S S' : Nat → Prop} {w w' w'' : World}
theorem Trn.refl (S : Nat → Prop) (w : World) : Trn S w w := ⟨rfl, rfl, rfl, Nat.le_refl _, fun _ _ _ => rfl⟩
theorem Trn.trans (h : Trn S w w') (g : Trn S' w' w'') (hs : ∀ m, m < w.heap.size → S' m → S m) : Trn S w w'' :=
  ⟨g.os.trans h.os, g.tape.trans h.tape, g.output.trans h.output, Nat.le_trans h.size g.size, fun m hm hn => (g.block m (Nat.lt_of_lt_of_le hm h.size) (fun q => hn (hs m hm q))).trans (h.block m hm hn)⟩
theorem Trn.mono (h : Trn S w w') (hs : ∀ m, m < w.heap.size → S m → S' m) : Trn S' w w' := ⟨h.os, h.tape, h.output, h.size, fun m hm hn => h.block m hm (fun q => hn (hs m hm q))⟩
theorem Trn.below (h : Below w.heap.size w w') : Trn S w w' := ⟨h.os, h.tape, h.output, h.size, fun m hm _ => h.block m hm⟩
theorem Trn.grown {b : Nat} (h : w.grownBy w' (some b)) (hb : S b) : Trn S w w' := ⟨h.os, h.tape, h.output, h.size, fun m hm hn => h.block m hm (fun q => hn (by cases q; exact hb))⟩
theorem Trn.grown' {r : Option Nat} (h : w.grownBy w' r) (hb : ∀ b, r = some b → S b) : Trn S w w' := ⟨h.os, h.tape, h.output, h.size, fun m hm hn => h.block m hm (fun q => hn (hb m q.symm))⟩
theorem Trn.to_below (h : Trn S w w') {B : Nat} (hB : B ≤ w.heap.size) (hs : ∀ m, m < B → ¬ S m) : Below B w w' := ⟨h.os, h.tape, h.output, h.size, fun m hm => h.block m (Nat.lt_of_lt_of_le hm hB) (hs m hm)⟩
theorem Trn.drew (S : Nat → Prop) (w : World) : Trn S w w.drew := Trn.below (Below.drew (Below.refl _ _))
theorem Trn.alloc (S : Nat → Prop) (w : World) (o : Obj) : Trn S w (w.alloc o) := Trn.below ((Below.refl _ _).alloc (Nat.le_refl _) o)
end
theorem Trn.setCell {S : Nat → Prop} (w : World) (g i : Nat) (v : Value) (hg : S g) : Trn S w (w.setCell ⟨g, i, none⟩ v) := by
  refine ⟨rfl, rfl, rfl, by simp [World.setCell], fun m _ hn => ?_⟩
  simp only [World.setCell, Array.getElem?_modify]
  rw [if_neg (fun q => hn (by rw [← q]; exact hg))]
theorem Trn.setCells {S : Nat → Prop} (g : Nat) (hg : S g) : ∀ (vs : List Value) (o : Nat) (w : World), Trn S w (w.setCells g o vs)
  | [], _, w => Trn.refl S w
  | v :: r, o, w => by rw [World.setCells]; exact (Trn.setCell w g o v hg).trans (Trn.setCells g hg r _ _) (fun _ _ q => q)
/-- a row behind a store of many cells -/
theorem setCells_row (g : Nat) (t : TypeId) (fr : Nat × Nat) : ∀ (vs : List Value) (o : Nat) (w : World) (cur : Array Value), w.heap[g]? = some (.cells cur t fr) → ∃ cur' : Array Value, (w.setCells g o vs).heap[g]? = some (.cells cur' t fr) ∧ cur'.size = cur.size ∧ (∀ x, x < o ∨ o + vs.length ≤ x → cur'[x]? = cur[x]?) ∧ ∀ j, j < vs.length → o + j < cur.size → cur'[o + j]? = vs[j]?
  | [], o, w, cur, h => ⟨cur, h, rfl, fun _ _ => rfl, fun j hj => absurd hj (by simp)⟩
  | v :: r, o, w, cur, h => by
    have h1 : (w.setCell ⟨g, o, none⟩ v).heap[g]? = some (.cells (cur.setIfInBounds o v) t fr) := by
      simp [World.setCell, Array.getElem?_modify, h]
    obtain ⟨cur', e1, e2, e3, e4⟩ := setCells_row g t fr r (o + 1) _ _ h1
    refine ⟨cur', by rw [World.setCells]; exact e1, by rw [e2]; simp, fun x hx => ?_, fun j hj hs => ?_⟩
    · rw [e3 x (by simp only [List.length_cons] at hx; omega), Array.getElem?_setIfInBounds_ne (by simp only [List.length_cons] at hx; omega)]
    · rcases j with _ | j
      · rw [Nat.add_zero] at hs ⊢
        rw [e3 o (by omega), Array.getElem?_setIfInBounds_self_of_lt hs]; rfl
      · have := e4 j (by simpa using hj) (by simp only [Array.size_setIfInBounds]; omega)
        rw [show o + (j + 1) = o + 1 + j by omega, this]; rfl
theorem En.len (e : En) : e.l.length = 14 := rfl
theorem EntsAt.range {W : World} {g n cap : Nat} {f : Nat → En} (h : EntsAt W g n cap f) {i : Nat} (hi : i < n) : W.rangeAt g (i * 14) (f i).l := fun j v hv => h.cell hi j v hv
theorem EntsAt.there {W : World} {g n cap : Nat} {f : Nat → En} (h : EntsAt W g n cap f) {i : Nat} (hi : i < n) (o m : Nat) (hm : o + m ≤ 14) : W.there g (i * 14 + o) m := fun j hj => by
  obtain ⟨v, hv⟩ : ∃ v, (f i).l[o + j]? = some v := ⟨_, List.getElem?_eq_getElem (by rw [En.len]; omega)⟩
  refine ⟨?_, h.frozen _⟩
  have := h.cell hi (o + j) v hv
  rw [show i * 14 + o + j = i * 14 + (o + j) by omega, this]; rfl
theorem EntsAt.same {W W' : World} {g n cap : Nat} {f : Nat → En} (h : EntsAt W g n cap f) (e : W'.heap[g]? = W.heap[g]?) : EntsAt W' g n cap f := by
  obtain ⟨cur, hh, r⟩ := h
  exact ⟨cur, e.trans hh, r⟩
theorem EntsAt.congr {W : World} {g n cap : Nat} {f f' : Nat → En} (h : EntsAt W g n cap f) (e : ∀ i, i < n → f i = f' i) : EntsAt W g n cap f' := by
  obtain ⟨cur, hh, a, b, c, d⟩ := h
  exact ⟨cur, hh, a, b, c, fun i hi k v hv => d i hi k v (by rw [e i hi]; exact hv)⟩
/-- some of an entry's cells are stored anew -/
theorem EntsAt.part {W : World} {g n cap : Nat} {f : Nat → En} (h : EntsAt W g n cap f) {i : Nat} (hi : i < n) (o : Nat) (vs : List Value) (e : En) (he : e.l = (f i).l.take o ++ vs ++ (f i).l.drop (o + vs.length)) (ho : o + vs.length ≤ 14) : EntsAt (W.setCells g (i * 14 + o) vs) g n cap (Hp.put f i e) := by
  obtain ⟨cur, hh, a, b, c, d⟩ := h
  obtain ⟨cur', e1, e2, e3, e4⟩ := setCells_row g _ _ vs (i * 14 + o) W cur hh
  refine ⟨cur', e1, by rw [e2, a], b, c, fun x hx k v hv => ?_⟩
  have hk : k < 14 := by have := (List.getElem?_eq_some_iff.1 hv).1; rw [En.len] at this; exact this
  by_cases q : x = i
  · subst q
    rw [Hp.put_same, he] at hv
    by_cases k1 : k < o
    · rw [e3 _ (by omega)]
      refine d x hx k v ?_
      rw [List.append_assoc, List.getElem?_append_left (by rw [List.length_take, En.len]; omega), List.getElem?_take_of_lt k1] at hv
      exact hv
    · by_cases k2 : k < o + vs.length
      · have hs : x * 14 + o + (k - o) < cur.size := by rw [a]; omega
        have := e4 (k - o) (by omega) hs
        rw [show x * 14 + k = x * 14 + o + (k - o) by omega, this]
        rw [List.getElem?_append_left (by rw [List.length_append, List.length_take, En.len]; omega), List.getElem?_append_right (by rw [List.length_take, En.len]; omega), List.length_take, En.len, Nat.min_eq_left (by omega)] at hv
        exact hv
      · rw [e3 _ (by omega)]
        refine d x hx k v ?_
        rw [List.getElem?_append_right (by rw [List.length_append, List.length_take, En.len]; omega), List.getElem?_drop, List.length_append, List.length_take, En.len, Nat.min_eq_left (by omega), show o + vs.length + (k - (o + vs.length)) = k by omega] at hv
        exact hv
  · rw [Hp.put_other _ _ _ _ q] at hv
    rw [e3 _ (by omega)]
    exact d x hx k v hv
theorem EntsAt.put {W : World} {g n cap : Nat} {f : Nat → En} (h : EntsAt W g n cap f) {i : Nat} (hi : i < n) (e : En) : EntsAt (W.setCells g (i * 14) e.l) g n cap (Hp.put f i e) :=
  h.part hi 0 e.l e (by simp) (by rw [En.len]; omega)
theorem EntsAt.swap {W : World} {g n cap : Nat} {f : Nat → En} (h : EntsAt W g n cap f) {a b : Nat} (ha : a < n) (hb : b < n) : EntsAt ((W.setCells g (a * 14) (f b).l).setCells g (b * 14) (f a).l) g n cap (Hp.swp f a b) :=
  ((h.put ha (f b)).put hb (f a)).congr (fun i _ => by
    unfold Hp.put Hp.swp
    by_cases q : i = b
    · subst q; simp; intro e; rw [e]
    · simp [q])
/-- the heap's slice -/
def RowAt (W : World) (v : Value) (n : Nat) (f : Nat → En) : Prop := (v = .slice none 0 0 ∧ n = 0) ∨ ∃ g cap, v = .slice (some ⟨g, 0, none⟩) n cap ∧ EntsAt W g n cap f
/-- a table: its block, the block of its map, its slice -/
structure TabAt (W : World) (T mb : Nat) (v : Value) (room births n : Nat) (f : Nat → En) : Prop where
  blk : Blk 166 W T [.int .i64 (room : Int), .int .u64 (births : Int), .map (some mb), v]
  row : RowAt W v n f
  map : Plc W mb (fun k i => i < n ∧ (f i).k = k)
  wf : ∀ i, i < n → (f i).k.Wf
  ns : ∀ i, i < n → (f i).n < 18446744073709551616
  tm : T ≠ mb
  tr : ∀ g, v.ownBlock = some g → g ≠ T ∧ g ≠ mb
  le : n ≤ room
  big : room ≤ 64
theorem RowAt.below {W W' : World} {v : Value} {n : Nat} {f : Nat → En} (h : RowAt W v n f) (hb : Below W.heap.size W W') : RowAt W' v n f := by
  rcases h with q | ⟨g, cap, e, r⟩
  · exact .inl q
  · exact .inr ⟨g, cap, e, r.below hb r.lt⟩
theorem TabAt.below {W W' : World} {T mb room births n : Nat} {v : Value} {f : Nat → En} (h : TabAt W T mb v room births n f) (hb : Below W.heap.size W W') : TabAt W' T mb v room births n f :=
  { blk := h.blk.below hb h.blk.lt, row := h.row.below hb, map := h.map.same (hb.block mb h.map.lt), wf := h.wf, ns := h.ns, tm := h.tm, tr := h.tr, le := h.le, big := h.big }
theorem TabAt.ents {W : World} {T mb room births n g cap : Nat} {f : Nat → En} (h : TabAt W T mb (.slice (some ⟨g, 0, none⟩) n cap) room births n f) : EntsAt W g n cap f := by
  rcases h.row with ⟨q, _⟩ | ⟨g', cap', q, r⟩
  · cases q
  · cases q; exact r
theorem TabAt.congr {W : World} {T mb room births n : Nat} {v : Value} {f f' : Nat → En} (h : TabAt W T mb v room births n f) (e : f = f') : TabAt W T mb v room births n f' := e ▸ h
/-- the blocks that a table owns -/
def Ows (T mb : Nat) (v : Value) (x : Nat) : Prop := x = T ∨ x = mb ∨ v.ownBlock = some x
end Go.Proofs.YtclpnafiiobfhabGreatDoor
namespace Go.Proofs.YtclpnafiiobfhabGreatDoor
open Go.RowKit
set_option linter.unusedVariables false
set_option linter.unusedSimpArgs false

theorem ents_drew {W : World} {g n cap : Nat} {f : Nat → En} (h : EntsAt W g n cap f) : EntsAt W.drew g n cap f := h
theorem swap_ents {W : World} {g n cap : Nat} {f : Nat → En} (h : EntsAt W g n cap f) {a b : Nat} (ha : a < n) (hb : b < n) (X Y : List Value) (hX : (f a).l = X) (hY : (f b).l = Y) : EntsAt (((W.setCells g (a * 14) Y).setCells g (b * 14) X).drew) g n cap (Hp.swp f a b) := by
  subst hX hY
  exact ents_drew (h.swap ha hb)
theorem swap_trn (W : World) (g a b : Nat) (X Y : List Value) : Trn (fun x => x = g) W (((W.setCells g a Y).setCells g b X).drew) := ((Trn.setCells (S := fun x => x = g) g rfl _ _ _).trans (Trn.setCells (S := fun x => x = g) g rfl _ _ _) (fun _ _ q => q)).trans (Trn.drew _ _) (fun _ _ q => q)
theorem Plc.fn {W : World} {b : Nat} {R : Ky → Nat → Prop} (h : Plc W b R) {k : Ky} {i j : Nat} (hi : R k i) (hj : R k j) : i = j := by
  obtain ⟨es, clock, hb, hs, h1, h2⟩ := h
  obtain ⟨x, hx, xk, xv⟩ := h2 k i hi
  obtain ⟨y, hy, yk, yv⟩ := h2 k j hj
  have e := stamped_keys hs hx hy (xk.trans yk.symm)
  rw [e, yv] at xv
  have : (j : Int) = (i : Int) := by simpa using xv
  omega
theorem swap_done {T mb g n cap room births i j : Nat} {f : Nat → En} {w wc W1 W2 : World} (HT : TabAt w T mb (.slice (some ⟨g, 0, none⟩) n cap) room births n f) (hi : i < n) (hj : j < n) (HW : Trn (fun x => x = g) w wc) (HG1 : wc.drew.grownBy W1 (some mb)) (HG2 : W1.drew.grownBy W2 (some mb)) (HE1 : EntsAt W1 g n cap (Hp.swp f i j)) (HB1 : Blk 166 W1 T [.int .i64 (room : Int), .int .u64 (births : Int), .map (some mb), .slice (some ⟨g, 0, none⟩) n cap])
    (HP2 : Plc W2 mb (fun x y => (x = (f i).k ∧ y = j) ∨ (x ≠ (f i).k ∧ ((x = (f j).k ∧ y = i) ∨ (x ≠ (f j).k ∧ (y < n ∧ (f y).k = x)))))) :
    TabAt W2 T mb (.slice (some ⟨g, 0, none⟩) n cap) room births n (Hp.swp f i j) ∧ Trn (Ows T mb (.slice (some ⟨g, 0, none⟩) n cap)) w W2 := by
  obtain ⟨gT, gm⟩ := HT.tr g rfl
  have hT2 : W2.heap[T]? = W1.heap[T]? := HG2.block T HB1.lt (fun q => HT.tm (by cases q; rfl))
  have hg2 : W2.heap[g]? = W1.heap[g]? := HG2.block g HE1.lt (fun q => gm (by cases q; rfl))
  have apart : ∀ a b, a < n → b < n → (f a).k = (f b).k → a = b := fun a b ha hb e => HT.map.fn ⟨ha, e⟩ ⟨hb, rfl⟩
  refine ⟨⟨⟨hT2.trans HB1.1, HB1.2⟩, .inr ⟨g, cap, rfl, HE1.same hg2⟩, HP2.congr (fun x y => ?_), fun y hy => ?_, fun y hy => ?_, HT.tm, HT.tr, HT.le, HT.big⟩, ?_⟩
  · by_cases yi : y = i
    · subst yi
      rw [Hp.swp_left]
      constructor
      · rintro (⟨rfl, rfl⟩ | ⟨q0, ⟨rfl, _⟩ | ⟨q, _, r⟩⟩)
        · exact ⟨hi, rfl⟩
        · exact ⟨hi, rfl⟩
        · exact absurd r.symm q0
      · rintro ⟨_, rfl⟩
        by_cases e : (f j).k = (f y).k
        · exact .inl ⟨e, (apart j y hj hi e).symm⟩
        · exact .inr ⟨e, .inl ⟨rfl, rfl⟩⟩
    · by_cases yj : y = j
      · subst yj
        rw [Hp.swp_right]
        constructor
        · rintro (⟨rfl, _⟩ | ⟨_, ⟨_, q⟩ | ⟨q, _, r⟩⟩)
          · exact ⟨hj, rfl⟩
          · exact absurd q yi
          · exact absurd r.symm q
        · rintro ⟨_, rfl⟩
          exact .inl ⟨rfl, rfl⟩
      · rw [Hp.swp_other f i j y yi yj]
        constructor
        · rintro (⟨_, q⟩ | ⟨_, ⟨_, q⟩ | ⟨_, q⟩⟩)
          · exact absurd q yj
          · exact absurd q yi
          · exact q
        · rintro ⟨hy, rfl⟩
          exact .inr ⟨fun e => yi (apart y i hy hi e), .inr ⟨fun e => yj (apart y j hy hj e), hy, rfl⟩⟩
  · by_cases yi : y = i
    · subst yi; rw [Hp.swp_left]; exact HT.wf j hj
    · by_cases yj : y = j
      · subst yj; rw [Hp.swp_right]; exact HT.wf i hi
      · rw [Hp.swp_other f i j y yi yj]; exact HT.wf y hy
  · by_cases yi : y = i
    · subst yi; rw [Hp.swp_left]; exact HT.ns j hj
    · by_cases yj : y = j
      · subst yj; rw [Hp.swp_right]; exact HT.ns i hi
      · rw [Hp.swp_other f i j y yi yj]; exact HT.ns y hy
  · have h1 : Trn (Ows T mb (.slice (some ⟨g, 0, none⟩) n cap)) w wc := HW.mono (fun m _ q => by subst q; exact .inr (.inr rfl))
    have h2 : Trn (Ows T mb (.slice (some ⟨g, 0, none⟩) n cap)) wc.drew W1 := Trn.grown HG1 (.inr (.inl rfl))
    have h3 : Trn (Ows T mb (.slice (some ⟨g, 0, none⟩) n cap)) W1.drew W2 := Trn.grown HG2 (.inr (.inl rfl))
    exact (((h1.trans (Trn.drew _ _) (fun _ _ q => q)).trans h2 (fun _ _ q => q)).trans (Trn.drew _ _) (fun _ _ q => q)).trans h3 (fun _ _ q => q)
theorem ent_cell {W : World} {g n cap : Nat} {f : Nat → En} (h : EntsAt W g n cap f) {i : Nat} (hi : i < n) (L : List Value) (hL : (f i).l = L) (k : Nat) (v : Value) (hv : L[k]? = some v) : W.cell? ⟨g, i * 14 + k, none⟩ = some v := h.cell hi k v (by rw [hL]; exact hv)
end Go.Proofs.YtclpnafiiobfhabGreatDoor

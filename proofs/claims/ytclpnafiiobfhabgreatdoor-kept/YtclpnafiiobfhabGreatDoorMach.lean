import Derived.Test.YtclpnafiiobfhabGreatDoorPlain
namespace Go.Proofs.YtclpnafiiobfhabGreatDoor
open Go.RowKit
set_option linter.unusedVariables false
set_option linter.unusedSimpArgs false

/-- the numbers of an instruction -/
structure Ins where
  op : Int
  r : Int
  t : Int
  f : Int
  k : Int
/-- instruction i of a code -/
def insAt (s : ByteArray) (i : Nat) : Ins := ⟨nth s (8 * i), nth s (8 * i + 1), nth s (8 * i + 2), nth s (8 * i + 3), numv s (8 * i + 4) 4⟩
/-- its numbers are bytes, and one of four bytes -/
structure Ins.Bd (x : Ins) : Prop where
  op : 0 ≤ x.op ∧ x.op ≤ 255
  r : 0 ≤ x.r ∧ x.r ≤ 255
  t : 0 ≤ x.t ∧ x.t ≤ 255
  f : 0 ≤ x.f ∧ x.f ≤ 255
  k : 0 ≤ x.k ∧ x.k ≤ 4294967295
theorem insAt_bd (s : ByteArray) (i : Nat) : (insAt s i).Bd := ⟨nth_bd _ _, nth_bd _ _, nth_bd _ _, nth_bd _ _, numv_bd4 _ _ _ (by omega)⟩
def Ins.branch (x : Ins) : Bool := x.op == 8 || x.op == 9 || x.op == 10
def Ins.load (x : Ins) : Bool := x.op == 1 || x.op == 2 || x.op == 3
def Ins.uses (x : Ins) : Bool := x.op == 6 || x.op == 7 || x.branch
/-- is it an instruction? -/
def Ins.fits (x : Ins) : Bool :=
  decide (x.op ≤ 11) && decide (x.r < 4) && (x.branch || (x.t == 0 && x.f == 0)) &&
    (if x.op = 0 then x.r == 0 && decide (x.k < 3) else if x.op = 4 then decide (x.k < 2) else if x.op = 5 then x.k == 0 else if x.op = 7 then decide (x.k < 32) else if x.op = 11 then x.r == 0 else true)
/-- how many bytes of the frame it asks for -/
def Ins.wide (x : Ins) : Int := if x.op = 1 then x.k + 1 else if x.op = 2 then x.k + 2 else if x.op = 3 then x.k + 4 else 0
/-- how many instructions each way out passes over -/
def Ins.overs (x : Ins) : List Int := if x.op = 0 then [] else if x.op = 11 then [x.k] else if x.branch then [x.t, x.f] else [0]
theorem Ins.overs_bd {x : Ins} (h : x.Bd) : ∀ o ∈ x.overs, 0 ≤ o ∧ o ≤ 4294967295 := by
  intro o ho
  have := h.t; have := h.f; have := h.k
  unfold Ins.overs at ho
  split at ho
  · simp at ho
  · split at ho
    · simp at ho; omega
    · split at ho <;> simp at ho <;> omega

/-- what is surely so ahead of an instruction -/
structure Fc where
  come : Bool
  set : List Bool
  long : List Bool
  there : Int
structure Fc.Ok (a : Fc) : Prop where
  set : a.set.length = 4
  long : a.long.length = 4
  there : 0 ≤ a.there ∧ a.there ≤ 4294967295
def fc0 : Fc := ⟨false, [false, false, false, false], [false, false, false, false], 0⟩
theorem fc0_ok : fc0.Ok := ⟨rfl, rfl, by simp [fc0]⟩
def Fc.has (a : Fc) (x : Ins) : Bool := a.set.getD x.r.toNat false
def Fc.is (a : Fc) (x : Ins) : Bool := a.long.getD x.r.toNat false
def Fc.meet (a b : Fc) : Fc :=
  if a.come then ⟨true, List.zipWith (· && ·) a.set b.set, List.zipWith (· && ·) a.long b.long, if b.there < a.there then b.there else a.there⟩ else b
def Fc.behind (a : Fc) (x : Ins) (w : Nat) : Fc :=
  if 1 ≤ x.op ∧ x.op ≤ 4 then ⟨a.come, a.set.set x.r.toNat true, a.long.set x.r.toNat false, a.there⟩
  else if x.op = 5 then ⟨a.come, a.set.set x.r.toNat true, a.long.set x.r.toNat true, a.there⟩
  else if x.op = 6 ∨ x.op = 7 then ⟨a.come, a.set, a.long.set x.r.toNat false, a.there⟩
  else if x.op = 8 ∨ x.op = 9 then ⟨a.come, a.set, a.long, if w = 0 ∧ a.is x = true ∧ a.there < x.k then x.k else a.there⟩
  else a
theorem Fc.Ok.meet {a b : Fc} (ha : a.Ok) (hb : b.Ok) : (a.meet b).Ok := by
  unfold Fc.meet
  have h1 := ha.set; have h2 := ha.long; have h3 := ha.there
  have g1 := hb.set; have g2 := hb.long; have g3 := hb.there
  split
  · exact ⟨by simp [h1, g1], by simp [h2, g2], by dsimp only; split <;> omega⟩
  · exact hb
theorem Fc.Ok.behind {a : Fc} {x : Ins} (ha : a.Ok) (hx : x.Bd) (w : Nat) : (a.behind x w).Ok := by
  have h1 := ha.set; have h2 := ha.long; have h3 := ha.there; have h4 := hx.k
  unfold Fc.behind
  repeat' split
  all_goals first
    | exact ha
    | exact ⟨by simp [h1], by simp [h2], by dsimp only; omega⟩
    | exact ⟨h1, h2, by dsimp only; omega⟩
theorem Fc.behind_come (a : Fc) (x : Ins) (w : Nat) : (a.behind x w).come = a.come := by
  unfold Fc.behind; repeat' split
  all_goals rfl
theorem Fc.meet_come (a b : Fc) (h : b.come = true) : (a.meet b).come = true := by
  unfold Fc.meet; split
  · rfl
  · exact h
/-- the ways out, from way w on, are told to those to which they lead -/
def tell (F : List Fc) (a : Fc) (x : Ins) (i : Nat) : Nat → List Int → List Fc
  | _, [] => F
  | w, o :: os => tell (F.set (i + 1 + o.toNat) ((F.getD (i + 1 + o.toNat) fc0).meet (a.behind x w))) a x i (w + 1) os
/-- what is so when i instructions have been gone over -/
def factsAt (s : ByteArray) (n : Nat) : Nat → List Fc
  | 0 => (List.replicate n fc0).set 0 ⟨true, [false, false, false, false], [false, false, false, false], 0⟩
  | i + 1 => if ((factsAt s n i).getD i fc0).come then tell (factsAt s n i) ((factsAt s n i).getD i fc0) (insAt s i) i 0 (insAt s i).overs else factsAt s n i
def Fc.fault (a : Fc) (x : Ins) : Int := if x.uses && !a.has x then 12 else if a.there < x.wide then 13 else 0
theorem tell_len (F : List Fc) (a : Fc) (x : Ins) (i w : Nat) (os : List Int) : (tell F a x i w os).length = F.length := by
  induction os generalizing F w with
  | nil => rfl
  | cons o os ih => rw [tell, ih]; simp
theorem factsAt_len (s : ByteArray) (n i : Nat) : (factsAt s n i).length = n := by
  induction i with
  | zero => simp [factsAt]
  | succ i ih => rw [factsAt]; split <;> simp [tell_len, ih]
theorem oks_set {F : List Fc} (h : ∀ a ∈ F, a.Ok) (j : Nat) {b : Fc} (hb : b.Ok) : ∀ a ∈ F.set j b, a.Ok := fun a ha => by
  rcases List.mem_or_eq_of_mem_set ha with h1 | h1
  · exact h a h1
  · subst h1; exact hb
theorem oks_get {F : List Fc} (h : ∀ a ∈ F, a.Ok) (j : Nat) : (F.getD j fc0).Ok := by
  rw [List.getD_eq_getElem?_getD]
  cases e : F[j]? with
  | none => exact fc0_ok
  | some a => exact h a (List.mem_of_getElem? e)
theorem tell_ok {F : List Fc} {a : Fc} {x : Ins} (hF : ∀ a ∈ F, a.Ok) (ha : a.Ok) (hx : x.Bd) (i w : Nat) (os : List Int) : ∀ b ∈ tell F a x i w os, b.Ok := by
  induction os generalizing F w with
  | nil => exact hF
  | cons o os ih => exact ih (oks_set hF _ ((oks_get hF _).meet (ha.behind hx _))) _
theorem factsAt_ok (s : ByteArray) (n i : Nat) : ∀ a ∈ factsAt s n i, a.Ok := by
  induction i with
  | zero =>
    rw [factsAt]
    refine oks_set (fun a ha => ?_) _ ⟨rfl, rfl, by simp⟩
    rw [List.mem_replicate] at ha
    rw [ha.2]; exact fc0_ok
  | succ i ih =>
    rw [factsAt]; split
    · exact tell_ok ih (oks_get ih _) (insAt_bd _ _) _ _ _
    · exact ih
/-- the first of n for which p holds, or none -/
theorem first_or (p : Nat → Bool) (n : Nat) : (∀ i, i < n → p i = false) ∨ ∃ i, i < n ∧ p i = true ∧ ∀ j, j < i → p j = false := by
  induction n with
  | zero => exact .inl (fun i hi => by omega)
  | succ n ih =>
    rcases ih with h | ⟨i, hi, h1, h2⟩
    · cases e : p n with
      | true => exact .inr ⟨n, by omega, e, h⟩
      | false => exact .inl (fun i hi => by rcases Nat.lt_succ_iff_lt_or_eq.1 hi with h3 | h3; exact h i h3; subst h3; exact e)
    · exact .inr ⟨i, by omega, h1, h2⟩
/-- is there a way out of instruction i that leads beyond the end? -/
def jumps (s : ByteArray) (n i : Nat) : Bool := (insAt s i).overs.any fun o => decide ((n : Int) ≤ i + 1 + o)
def here (s : ByteArray) (n i : Nat) : Fc := (factsAt s n i).getD i fc0
/-- the fault that instruction i has, by what is sure ahead of it -/
def usesK (s : ByteArray) (n i : Nat) : Int := if (here s n i).come then (here s n i).fault (insAt s i) else 0
/-- the number of instructions is as it may be -/
structure Sized (s : ByteArray) (n : Nat) : Prop where
  size : s.size = 8 * n
  pos : 1 ≤ n
  most : n ≤ 4096
structure Formed (s : ByteArray) (n : Nat) : Prop extends Sized s n where
  fits : ∀ i, i < n → (insAt s i).fits = true
structure Jumps (s : ByteArray) (n : Nat) : Prop extends Formed s n where
  fine : ∀ i, i < n → jumps s n i = false
structure Fine (s : ByteArray) (n : Nat) : Prop extends Jumps s n where
  uses : ∀ i, i < n → usesK s n i = 0
/-- what a code's read answers when it fails -/
def Torn (s : ByteArray) (i : Nat) : Prop :=
  ((∀ n, ¬ Sized s n) ∧ i = 0) ∨ ∃ n, Sized s n ∧ i < n ∧ (insAt s i).fits = false ∧ ∀ j, j < i → (insAt s j).fits = true
/-- what Check answers -/
def Out (s : ByteArray) (k p : Int) : Prop :=
  (∃ i : Nat, Torn s i ∧ k = 10 ∧ p = i) ∨
  (∃ n i : Nat, Formed s n ∧ i < n ∧ jumps s n i = true ∧ (∀ j, j < i → jumps s n j = false) ∧ k = 11 ∧ p = i) ∨
  (∃ n i : Nat, Jumps s n ∧ i < n ∧ (here s n i).come = true ∧ (here s n i).fault (insAt s i) = k ∧ k ≠ 0 ∧ (∀ j, j < i → usesK s n j = 0) ∧ p = i) ∨
  (∃ n, Fine s n ∧ k = 0 ∧ p = 0)
theorem torn_or (s : ByteArray) : (∃ i, Torn s i) ∨ ∃ n, Formed s n := by
  by_cases h : ∃ n, Sized s n
  · obtain ⟨n, hn⟩ := h
    rcases first_or (fun i => !(insAt s i).fits) n with h | ⟨i, hi, h1, h2⟩
    · exact .inr ⟨n, hn, fun i hi => by have := h i hi; simpa using this⟩
    · exact .inl ⟨i, .inr ⟨n, hn, hi, by simpa using h1, fun j hj => by have := h2 j hj; simpa using this⟩⟩
  · exact .inl ⟨0, .inl ⟨fun n hn => h ⟨n, hn⟩, rfl⟩⟩
theorem out_total (s : ByteArray) : ∃ k i, Out s k i := by
  rcases torn_or s with ⟨i, h⟩ | ⟨n, hn⟩
  · exact ⟨_, _, .inl ⟨i, h, rfl, rfl⟩⟩
  · rcases first_or (jumps s n) n with h | ⟨i, hi, h1, h2⟩
    · have hj : Jumps s n := ⟨hn, h⟩
      rcases first_or (fun i => !(usesK s n i == 0)) n with g | ⟨i, hi, h1, h2⟩
      · exact ⟨_, _, .inr (.inr (.inr ⟨n, ⟨hj, fun i hi => by have := g i hi; simpa using this⟩, rfl, rfl⟩))⟩
      · have h1 : usesK s n i ≠ 0 := by simpa using h1
        have hc : (here s n i).come = true := by
          cases e : (here s n i).come with
          | true => rfl
          | false => exact absurd (by simp [usesK, e]) h1
        exact ⟨_, _, .inr (.inr (.inl ⟨n, i, hj, hi, hc, rfl, by simpa [usesK, hc] using h1, fun j hj => by have := h2 j hj; simpa using this, rfl⟩))⟩
    · exact ⟨_, _, .inr (.inl ⟨n, i, hn, hi, h1, h2, rfl, rfl⟩)⟩

/-- a machine's registers -/
structure St where
  reg : List Int
  set : List Bool
structure St.Ok (a : St) : Prop where
  reg : a.reg.length = 4
  set : a.set.length = 4
  bd : ∀ v ∈ a.reg, 0 ≤ v ∧ v ≤ 4294967295
def st0 : St := ⟨[0, 0, 0, 0], [false, false, false, false]⟩
theorem st0_ok : st0.Ok := ⟨rfl, rfl, by simp [st0]⟩
def St.at (a : St) (x : Ins) : Int := a.reg.getD x.r.toNat 0
theorem St.Ok.at {a : St} (h : a.Ok) (x : Ins) : 0 ≤ a.at x ∧ a.at x ≤ 4294967295 := by
  unfold St.at
  rw [List.getD_eq_getElem?_getD]
  cases e : a.reg[x.r.toNat]? with
  | none => simp
  | some v => exact h.bd v (List.mem_of_getElem? e)
def St.put (a : St) (x : Ins) (v : Int) : St := ⟨a.reg.set x.r.toNat v, a.set.set x.r.toNat true⟩
def St.turn (a : St) (x : Ins) (v : Int) : St := ⟨a.reg.set x.r.toNat v, a.set⟩
/-- the trap that an instruction meets (0: none) -/
def St.trap (a : St) (d : ByteArray) (x : Ins) : Int := if x.uses && !a.set.getD x.r.toNat false then 21 else if (d.size : Int) < x.wide then 22 else 0
def St.does (a : St) (d : ByteArray) (m : Int × Int) (x : Ins) : St :=
  if x.op = 1 then a.put x (numv d x.k.toNat 1) else if x.op = 2 then a.put x (numv d x.k.toNat 2) else if x.op = 3 then a.put x (numv d x.k.toNat 4)
  else if x.op = 4 then a.put x (if x.k = 0 then m.1 else m.2)
  else if x.op = 5 then a.put x d.size
  else if x.op = 6 then a.turn x (((a.at x).toNat &&& x.k.toNat : Nat) : Int)
  else if x.op = 7 then a.turn x (a.at x / 2 ^ x.k.toNat)
  else a
def St.goes (a : St) (x : Ins) : Bool := if x.op = 8 then a.at x == x.k else if x.op = 9 then decide (x.k ≤ a.at x) else if x.op = 10 then !(((a.at x).toNat &&& x.k.toNat) == 0) else false
def St.over (a : St) (x : Ins) : Int := if x.op = 11 then x.k else if x.branch then (if a.goes x then x.t else x.f) else 0
theorem St.over_bd (a : St) {x : Ins} (h : x.Bd) : 0 ≤ a.over x ∧ a.over x ≤ 4294967295 := by
  have := h.t; have := h.f; have := h.k
  unfold St.over; repeat' split
  all_goals omega
theorem regs_set {l : List Int} (h : ∀ v ∈ l, 0 ≤ v ∧ v ≤ 4294967295) (i : Nat) {v : Int} (hv : 0 ≤ v ∧ v ≤ 4294967295) : ∀ u ∈ l.set i v, 0 ≤ u ∧ u ≤ 4294967295 := fun u hu => by
  rcases List.mem_or_eq_of_mem_set hu with h1 | h1
  · exact h u h1
  · subst h1; exact hv
theorem St.Ok.put {a : St} (h : a.Ok) (x : Ins) {v : Int} (hv : 0 ≤ v ∧ v ≤ 4294967295) : (a.put x v).Ok :=
  ⟨by simp [St.put, h.reg], by simp [St.put, h.set], regs_set h.bd _ hv⟩
theorem St.Ok.turn {a : St} (h : a.Ok) (x : Ins) {v : Int} (hv : 0 ≤ v ∧ v ≤ 4294967295) : (a.turn x v).Ok :=
  ⟨by simp [St.turn, h.reg], by simp [St.turn, h.set], regs_set h.bd _ hv⟩
theorem St.Ok.does {a : St} (h : a.Ok) {d : ByteArray} {m : Int × Int} (hd : d.size ≤ 4294967295) (h1 : 0 ≤ m.1 ∧ m.1 ≤ 4294967295) (h2 : 0 ≤ m.2 ∧ m.2 ≤ 4294967295) (x : Ins) : (a.does d m x).Ok := by
  have hat := h.at x
  unfold St.does
  repeat' split
  · exact h.put x (numv_bd4 _ _ _ (by omega))
  · exact h.put x (numv_bd4 _ _ _ (by omega))
  · exact h.put x (numv_bd4 _ _ _ (by omega))
  · exact h.put x h1
  · exact h.put x h2
  · exact h.put x (by omega)
  · refine h.turn x ⟨by omega, ?_⟩
    have : (a.at x).toNat &&& x.k.toNat ≤ (a.at x).toNat := Nat.and_le_left
    omega
  · refine h.turn x ⟨Int.ediv_nonneg hat.1 (Int.pow_nonneg (by omega)), ?_⟩
    exact Int.le_trans (Int.ediv_le_self _ hat.1) hat.2
  · exact h
/-- a code at work, for at most so many steps: where it is, how many are done, what it holds; what comes of it (verdict, how many, the trap) -/
def GoesF (s : ByteArray) (n : Nat) (d : ByteArray) (m : Int × Int) : Nat → Nat → Nat → St → Int → Nat → Int → Prop
  | 0, i, c, _, v, z, k => n ≤ i ∧ v = 0 ∧ z = c ∧ k = 23
  | q + 1, i, c, a, v, z, k => (n ≤ i ∧ v = 0 ∧ z = c ∧ k = 23) ∨ (i < n ∧ (insAt s i).op = 0 ∧ v = (insAt s i).k ∧ z = c + 1 ∧ k = 0) ∨
      (i < n ∧ (insAt s i).op ≠ 0 ∧ a.trap d (insAt s i) ≠ 0 ∧ v = 0 ∧ z = c + 1 ∧ k = a.trap d (insAt s i)) ∨
      (i < n ∧ (insAt s i).op ≠ 0 ∧ a.trap d (insAt s i) = 0 ∧ GoesF s n d m q (i + 1 + (a.over (insAt s i)).toNat) (c + 1) (a.does d m (insAt s i)) v z k)
def Goes (s : ByteArray) (n : Nat) (d : ByteArray) (m : Int × Int) (i c : Nat) (a : St) (v : Int) (z : Nat) (k : Int) : Prop := ∃ q, GoesF s n d m q i c a v z k
theorem Goes.out {s : ByteArray} {n : Nat} {d : ByteArray} {m : Int × Int} {i c : Nat} {a : St} {v : Int} {z : Nat} {k : Int} (h : Goes s n d m i c a v z k) :
    (n ≤ i ∧ v = 0 ∧ z = c ∧ k = 23) ∨ (i < n ∧ (insAt s i).op = 0 ∧ v = (insAt s i).k ∧ z = c + 1 ∧ k = 0) ∨
      (i < n ∧ (insAt s i).op ≠ 0 ∧ a.trap d (insAt s i) ≠ 0 ∧ v = 0 ∧ z = c + 1 ∧ k = a.trap d (insAt s i)) ∨
      (i < n ∧ (insAt s i).op ≠ 0 ∧ a.trap d (insAt s i) = 0 ∧ Goes s n d m (i + 1 + (a.over (insAt s i)).toNat) (c + 1) (a.does d m (insAt s i)) v z k) := by
  obtain ⟨q, h⟩ := h
  cases q with
  | zero => exact .inl h
  | succ q =>
    rcases h with h | h | h | ⟨h1, h2, h3, h4⟩
    · exact .inl h
    · exact .inr (.inl h)
    · exact .inr (.inr (.inl h))
    · exact .inr (.inr (.inr ⟨h1, h2, h3, q, h4⟩))
theorem goesF_total (s : ByteArray) (n : Nat) (d : ByteArray) (m : Int × Int) (q : Nat) : ∀ (i c : Nat) (a : St), n ≤ i + q → ∃ v z k, GoesF s n d m q i c a v z k := by
  induction q with
  | zero => exact fun i c a h => ⟨_, _, _, by omega, rfl, rfl, rfl⟩
  | succ q ih =>
    intro i c a h
    by_cases hi : i < n
    · by_cases ho : (insAt s i).op = 0
      · exact ⟨_, _, _, .inr (.inl ⟨hi, ho, rfl, rfl, rfl⟩)⟩
      · by_cases ht : a.trap d (insAt s i) = 0
        · obtain ⟨v, z, k, g⟩ := ih (i + 1 + (a.over (insAt s i)).toNat) (c + 1) (a.does d m (insAt s i)) (by omega)
          exact ⟨v, z, k, .inr (.inr (.inr ⟨hi, ho, ht, g⟩))⟩
        · exact ⟨_, _, _, .inr (.inr (.inl ⟨hi, ho, ht, rfl, rfl, rfl⟩))⟩
    · exact ⟨_, _, _, .inl ⟨by omega, rfl, rfl, rfl⟩⟩
theorem goes_total (s : ByteArray) (n : Nat) (d : ByteArray) (m : Int × Int) (q : Nat) (i c : Nat) (a : St) (h : n ≤ i + q) : ∃ v z k, Goes s n d m i c a v z k := by
  obtain ⟨v, z, k, g⟩ := goesF_total s n d m q i c a h
  exact ⟨v, z, k, q, g⟩
end Go.Proofs.YtclpnafiiobfhabGreatDoor

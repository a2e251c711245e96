import Derived.Test.YtclpnafiiobfhaaDoorFrameParse
namespace Go.Proofs.YtclpnafiiobfhaaDoor
open Go.RowKit
set_option linter.unusedVariables false
set_option linter.unusedSimpArgs false

/-- a sum that folds to 65535 is a multiple of 65535 -/
theorem fold_mod (v : Int) (h0 : 0 ≤ v) (h1 : v ≤ 655350) (h : fold v = 65535) : v % 65535 = 0 := by
  unfold fold fold1 at h
  repeat' split at h
  all_goals omega

/-- a bit that is turned changes a byte by a power of two -/
theorem xor_bit (x : Nat) (j : Nat) (hx : x < 256) (hj : j < 8) : ((x ^^^ (2 ^ j)) = x + 2 ^ j ∧ (x ^^^ (2 ^ j)) < 256) ∨ (x ^^^ (2 ^ j)) + 2 ^ j = x := by
  have h : ∀ x : Fin 256, ∀ j : Fin 8, ((x.val ^^^ (2 ^ j.val)) = x.val + 2 ^ j.val ∧ (x.val ^^^ (2 ^ j.val)) < 256) ∨ (x.val ^^^ (2 ^ j.val)) + 2 ^ j.val = x.val := by decide +kernel
  exact h ⟨x, hx⟩ ⟨j, hj⟩
theorem xor_bits (x m : Int) (j : Nat) (hx : 0 ≤ x ∧ x ≤ 255) (hj : j < 8) (hm : m = 2 ^ j) : ∃ y, bits .xor .u8 x m = y ∧ 0 ≤ y ∧ y ≤ 255 ∧ (y = x + 2 ^ j ∨ y = x - 2 ^ j) ∧ bits .xor .u8 y m = x := by
  obtain ⟨x, rfl⟩ := Int.eq_ofNat_of_zero_le hx.1
  have hp : ∀ j : Fin 8, 2 ^ j.val < 256 := by decide
  have hp' := hp ⟨j, hj⟩
  simp only at hp'
  have em : m = ((2 ^ j : Nat) : Int) := by rw [hm]; simp
  have hx' : x < 256 := by omega
  have hb := xor_bit x j hx' hj
  have hlt : (x ^^^ (2 ^ j)) < 256 := by
    rcases hb with h | h
    · exact h.2
    · exact Nat.lt_of_le_of_lt (Nat.le.intro h) hx'
  refine ⟨((x ^^^ 2 ^ j : Nat) : Int), ?_, by omega, by omega, ?_, ?_⟩
  · rw [em]; exact u8_xor_nat x (2 ^ j) hx' hp'
  · have e2 : (2 : Int) ^ j = ((2 ^ j : Nat) : Int) := by simp
    rw [e2]
    rcases hb with h | h
    · left; omega
    · right; omega
  · rw [em, u8_xor_nat _ _ hlt hp', Nat.xor_assoc, Nat.xor_self, Nat.xor_zero]

theorem getD_set (l : List Int) (k m : Nat) (y : Int) (hk : k < l.length) : (l.set k y).getD m 0 = if k = m then y else l.getD m 0 := by
  simp only [List.getD_eq_getElem?_getD, List.getElem?_set]
  by_cases h : k = m
  · subst h; simp [hk]
  · simp [h]
theorem sum_set (l : List Int) (hB : Byt l) (k : Nat) (y : Int) (hy : 0 ≤ y ∧ y ≤ 255) (hk : k < l.length) (h14 : 14 ≤ k) (n : Nat) :
    sumTo (ofL (l.set k y)) n = sumTo (ofL l) n + (if k < 14 + 2 * n then (y - l.getD k 0) * (if k % 2 = 0 then 256 else 1) else 0) := by
  induction n with
  | zero => simp only [sumTo]; rw [if_neg (by omega)]; rfl
  | succ n ih =>
    simp only [sumTo]
    rw [ih, num2L _ (hB.set k y hy), num2L _ hB, getD_set l k _ y hk, getD_set l k _ y hk]
    by_cases c1 : k < 14 + 2 * n
    · have e1 : ¬ k = 14 + 2 * n := by omega
      have e2 : ¬ k = 14 + 2 * n + 1 := by omega
      have e3 : k < 14 + 2 * (n + 1) := by omega
      rw [if_pos c1, if_pos e3, if_neg e1, if_neg e2]; omega
    · rw [if_neg c1]
      by_cases c2 : k = 14 + 2 * n
      · subst c2
        have e1 : ¬ 14 + 2 * n = 14 + 2 * n + 1 := by omega
        have e2 : 14 + 2 * n < 14 + 2 * (n + 1) := by omega
        have e3 : (14 + 2 * n) % 2 = 0 := by omega
        rw [if_pos rfl, if_neg e1, if_pos e2, if_pos e3]; omega
      · by_cases c3 : k = 14 + 2 * n + 1
        · subst c3
          have e2 : 14 + 2 * n + 1 < 14 + 2 * (n + 1) := by omega
          have e3 : ¬ (14 + 2 * n + 1) % 2 = 0 := by omega
          rw [if_neg c2, if_pos rfl, if_pos e2, if_neg e3]; omega
        · have e2 : ¬ k < 14 + 2 * (n + 1) := by omega
          rw [if_neg c2, if_neg c3, if_neg e2]; omega
theorem cls_zero_sum (s : ByteArray) (h : cls s = 0) : fold (sumTo s 10) = 65535 := by
  unfold cls at h
  repeat' split at h
  all_goals omega
theorem pow8 (j : Nat) (h : j < 8) : (2 : Int) ^ j = 1 ∨ (2 : Int) ^ j = 2 ∨ (2 : Int) ^ j = 4 ∨ (2 : Int) ^ j = 8 ∨ (2 : Int) ^ j = 16 ∨ (2 : Int) ^ j = 32 ∨ (2 : Int) ^ j = 64 ∨ (2 : Int) ^ j = 128 := by
  have h : ∀ j : Fin 8, (2 : Int) ^ j.val = 1 ∨ (2 : Int) ^ j.val = 2 ∨ (2 : Int) ^ j.val = 4 ∨ (2 : Int) ^ j.val = 8 ∨ (2 : Int) ^ j.val = 16 ∨ (2 : Int) ^ j.val = 32 ∨ (2 : Int) ^ j.val = 64 ∨ (2 : Int) ^ j.val = 128 := by decide
  exact h ⟨j, by omega⟩
/-- a frame that is fine is so no longer when a bit of its inner header is turned -/
theorem turned_cls (FL : List Int) (i j : Nat) (y : Int) (hB : Byt FL) (hl : 34 ≤ FL.length) (hi : i < 20) (hj : j < 8) (hy : 0 ≤ y ∧ y ≤ 255) (hxy : y = FL.getD (14 + i) 0 + 2 ^ j ∨ y = FL.getD (14 + i) 0 - 2 ^ j) (hF : cls (ofL FL) = 0) :
    cls (ofL (FL.set (14 + i) y)) ≠ 0 := by
  intro hc
  have h1 := cls_zero_sum _ hF
  have h2 := cls_zero_sum _ hc
  have b1 := sumTo_bd (ofL FL) 10
  have b2 := sumTo_bd (ofL (FL.set (14 + i) y)) 10
  have m1 := fold_mod _ b1.1 (by omega) h1
  have m2 := fold_mod _ b2.1 (by omega) h2
  rw [sum_set FL hB (14 + i) y hy (by omega) (by omega) 10, if_pos (by omega)] at m2
  have hp := pow8 j hj
  generalize sumTo (ofL FL) 10 = S at *
  generalize FL.getD (14 + i) 0 = x at *
  generalize (2 : Int) ^ j = z at *
  by_cases c : (14 + i) % 2 = 0
  · rw [if_pos c] at m2; omega
  · rw [if_neg c] at m2; omega
/-- .. nor when it is cut short -/
theorem cut_cls (FL : List Int) (r : Nat) (hB : Byt FL) (hr : r < FL.length) (ht : FL.getD 16 0 * 256 + FL.getD 17 0 = (FL.length : Int) - 14) : cls (ofL (FL.take r)) ≠ 0 := by
  intro hc
  obtain ⟨h34, _, hle, _⟩ := cls_zero _ hc
  have hB2 : Byt (FL.take r) := fun x hx => hB x (List.mem_of_mem_take hx)
  rw [num2L _ hB2] at hle
  rw [ofL_size, List.length_take, Nat.min_eq_left (by omega)] at h34 hle
  have e16 : (FL.take r).getD 16 0 = FL.getD 16 0 := by
    simp only [List.getD_eq_getElem?_getD]; rw [List.getElem?_take_of_lt (by omega)]
  have e17 : (FL.take r).getD (16 + 1) 0 = FL.getD 17 0 := by
    simp only [List.getD_eq_getElem?_getD]; rw [List.getElem?_take_of_lt (by omega)]
  rw [e16, e17] at hle
  omega
end Go.Proofs.YtclpnafiiobfhaaDoor

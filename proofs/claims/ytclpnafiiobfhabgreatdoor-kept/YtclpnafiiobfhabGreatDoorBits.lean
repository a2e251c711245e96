import Derived.Laws.BitsAllLaws
namespace Go.Proofs.YtclpnafiiobfhabGreatDoor
theorem or_add (i a b : Nat) (h : b < 2 ^ i) : (a * 2 ^ i) ||| b = a * 2 ^ i + b := by
  rw [Nat.mul_comm a, Nat.two_pow_add_eq_or_of_lt h]
theorem or16 (a b : Int) (ha : 0 ≤ a ∧ a ≤ 255) (hb : 0 ≤ b ∧ b ≤ 255) : bits .or .u16 (a * 256) b = 256 * a + b := by
  rw [u16_or _ _ (by omega) (by omega) (by omega) (by omega)]
  have e : (a * 256).toNat = a.toNat * 2 ^ 8 := by omega
  rw [e, or_add 8 a.toNat b.toNat (by omega)]
  omega
theorem or32 (a b : Int) (ha : 0 ≤ a ∧ a ≤ 65535) (hb : 0 ≤ b ∧ b ≤ 65535) : bits .or .u32 (a * 65536) b = 65536 * a + b := by
  rw [u32_or _ _ (by omega) (by omega) (by omega) (by omega)]
  have e : (a * 65536).toNat = a.toNat * 2 ^ 16 := by omega
  rw [e, or_add 16 a.toNat b.toNat (by omega)]
  omega
theorem and_u8 (n : Nat) (a m : Int) (ha : 0 ≤ a ∧ a ≤ 255) (hm : m = 2 ^ n - 1) (hn : n ≤ 8) : bits .and .u8 a m = a % 2 ^ n := by
  have h2 : (2 : Int) ^ n = ((2 ^ n : Nat) : Int) := by simp
  have hp : 0 < 2 ^ n := Nat.two_pow_pos n
  have hq : 2 ^ n ≤ 2 ^ 8 := Nat.pow_le_pow_right (by omega) hn
  rw [u8_and _ _ (by omega) (by omega) (by omega) (by omega)]
  have e : m.toNat = 2 ^ n - 1 := by omega
  rw [e, Nat.and_two_pow_sub_one_eq_mod, h2, Int.natCast_emod, Int.toNat_of_nonneg ha.1]
theorem and_u16 (n : Nat) (a m : Int) (ha : 0 ≤ a ∧ a ≤ 65535) (hm : m = 2 ^ n - 1) (hn : n ≤ 16) : bits .and .u16 a m = a % 2 ^ n := by
  have h2 : (2 : Int) ^ n = ((2 ^ n : Nat) : Int) := by simp
  have hp : 0 < 2 ^ n := Nat.two_pow_pos n
  have hq : 2 ^ n ≤ 2 ^ 16 := Nat.pow_le_pow_right (by omega) hn
  rw [u16_and _ _ (by omega) (by omega) (by omega) (by omega)]
  have e : m.toNat = 2 ^ n - 1 := by omega
  rw [e, Nat.and_two_pow_sub_one_eq_mod, h2, Int.natCast_emod, Int.toNat_of_nonneg ha.1]
theorem and_u32 (n : Nat) (a m : Int) (ha : 0 ≤ a ∧ a ≤ 4294967295) (hm : m = 2 ^ n - 1) (hn : n ≤ 32) : bits .and .u32 a m = a % 2 ^ n := by
  have h2 : (2 : Int) ^ n = ((2 ^ n : Nat) : Int) := by simp
  have hp : 0 < 2 ^ n := Nat.two_pow_pos n
  have hq : 2 ^ n ≤ 2 ^ 32 := Nat.pow_le_pow_right (by omega) hn
  rw [u32_and _ _ (by omega) (by omega) (by omega) (by omega)]
  have e : m.toNat = 2 ^ n - 1 := by omega
  rw [e, Nat.and_two_pow_sub_one_eq_mod, h2, Int.natCast_emod, Int.toNat_of_nonneg ha.1]
theorem and15 (a : Int) (ha : 0 ≤ a ∧ a ≤ 255) : bits .and .u8 a 15 = a % 16 := and_u8 4 a 15 ha (by decide) (by decide)
theorem and63 (a : Int) (ha : 0 ≤ a ∧ a ≤ 255) : bits .and .u8 a 63 = a % 64 := and_u8 6 a 63 ha (by decide) (by decide)
theorem and14 (a : Int) (ha : 0 ≤ a ∧ a ≤ 65535) : bits .and .u16 a 16383 = a % 16384 := and_u16 14 a 16383 ha (by decide) (by decide)
theorem and16 (a : Int) (ha : 0 ≤ a ∧ a ≤ 4294967295) : bits .and .u32 a 65535 = a % 65536 := and_u32 16 a 65535 ha (by decide) (by decide)
end Go.Proofs.YtclpnafiiobfhabGreatDoor

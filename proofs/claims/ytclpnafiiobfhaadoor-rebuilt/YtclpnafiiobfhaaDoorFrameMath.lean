import Derived.Test.YtclpnafiiobfhaaDoorRefBuilt
import Derived.Test.YtclpnafiiobfhaaDoorFrParse
namespace Go.Proofs.YtclpnafiiobfhaaDoor
open Go.RowKit
set_option linter.unusedVariables false
set_option linter.unusedSimpArgs false

/-- the first 34 bytes of a frame -/
def hd34 (a b p t v : Int) : List Int :=
  [0, 0, 0, 0, 0, 0, 0, 0, 0, 0, 0, 0, 8, 0, 69, 0, t / 256, t % 256, 0, 0, 0, 0, 64, p, v / 256, v % 256,
   a / 65536 / 256, a / 65536 % 256, a % 65536 / 256, a % 65536 % 256, b / 65536 / 256, b / 65536 % 256, b % 65536 / 256, b % 65536 % 256]
def inT (sp dp f : Int) : List Int := [sp / 256, sp % 256, dp / 256, dp % 256, 0, 0, 0, 0, 0, 0, 0, 0, 80, f, 0, 0, 0, 0, 0, 0]
def inU (sp dp n : Int) : List Int := [sp / 256, sp % 256, dp / 256, dp % 256, n / 256, n % 256, 0, 0]
def inI (sp f : Int) : List Int := [f, 0, 0, 0, sp / 256, sp % 256, 0, 0]

theorem num2L (l : List Int) (h : Byt l) (k : Nat) : numv (ofL l) k 2 = 256 * l.getD k 0 + l.getD (k + 1) 0 := by
  rw [numv_2, ofL_nth l h, ofL_nth l h]
theorem hd_sum (a b p t v : Int) (r : List Int) (h : Byt (hd34 a b p t v ++ r)) :
    sumTo (ofL (hd34 a b p t v ++ r)) 10 = 34048 + p + t + v + (a / 65536 + a % 65536) + (b / 65536 + b % 65536) := by
  simp only [sumTo, num2L _ h]
  have e14 : (hd34 a b p t v ++ r).getD 14 0 = 69 := rfl
  have e15 : (hd34 a b p t v ++ r).getD 15 0 = 0 := rfl
  have e16 : (hd34 a b p t v ++ r).getD 16 0 = t / 256 := rfl
  have e17 : (hd34 a b p t v ++ r).getD 17 0 = t % 256 := rfl
  have e18 : (hd34 a b p t v ++ r).getD 18 0 = 0 := rfl
  have e19 : (hd34 a b p t v ++ r).getD 19 0 = 0 := rfl
  have e20 : (hd34 a b p t v ++ r).getD 20 0 = 0 := rfl
  have e21 : (hd34 a b p t v ++ r).getD 21 0 = 0 := rfl
  have e22 : (hd34 a b p t v ++ r).getD 22 0 = 64 := rfl
  have e23 : (hd34 a b p t v ++ r).getD 23 0 = p := rfl
  have e24 : (hd34 a b p t v ++ r).getD 24 0 = v / 256 := rfl
  have e25 : (hd34 a b p t v ++ r).getD 25 0 = v % 256 := rfl
  have e26 : (hd34 a b p t v ++ r).getD 26 0 = a / 65536 / 256 := rfl
  have e27 : (hd34 a b p t v ++ r).getD 27 0 = a / 65536 % 256 := rfl
  have e28 : (hd34 a b p t v ++ r).getD 28 0 = a % 65536 / 256 := rfl
  have e29 : (hd34 a b p t v ++ r).getD 29 0 = a % 65536 % 256 := rfl
  have e30 : (hd34 a b p t v ++ r).getD 30 0 = b / 65536 / 256 := rfl
  have e31 : (hd34 a b p t v ++ r).getD 31 0 = b / 65536 % 256 := rfl
  have e32 : (hd34 a b p t v ++ r).getD 32 0 = b % 65536 / 256 := rfl
  have e33 : (hd34 a b p t v ++ r).getD 33 0 = b % 65536 % 256 := rfl
  simp only [Nat.mul_zero, Nat.add_zero, Nat.reduceMul, Nat.reduceAdd, e14, e15, e16, e17, e18, e19, e20, e21, e22, e23, e24, e25, e26, e27, e28, e29, e30, e31, e32, e33]
  omega
theorem fold_fix (c : Int) (h : 0 < c) (h1 : c ≤ 589815) : fold (c + (65535 - fold c)) = 65535 := by
  have e : fold c = if c ≤ 65535 then c else (if c % 65536 + c / 65536 ≤ 65535 then c % 65536 + c / 65536 else c % 65536 + c / 65536 - 65535) := by
    unfold fold fold1
    repeat' split
    all_goals omega
  by_cases h2 : c ≤ 65535
  · rw [e, if_pos h2, show c + (65535 - c) = 65535 from by omega]; rfl
  · rw [if_neg h2] at e
    generalize hq : c / 65536 = q at e
    generalize hr : c % 65536 = r at e
    have hc : c = 65536 * q + r := by omega
    have q0 : 1 ≤ q := by omega
    have q9 : q ≤ 8 := by omega
    have r0 : 0 ≤ r ∧ r ≤ 65535 := by omega
    by_cases h3 : r + q ≤ 65535
    · rw [if_pos h3] at e
      rw [e, hc]
      unfold fold fold1
      rw [if_pos (by omega : (65535 : Int) < 65536 * q + r + (65535 - (r + q)))]
      rw [show (65536 * q + r + (65535 - (r + q))) % 65536 + (65536 * q + r + (65535 - (r + q))) / 65536 = 65535 from by omega]
      rfl
    · rw [if_neg h3] at e
      rw [e, hc]
      unfold fold fold1
      rw [if_pos (by omega : (65535 : Int) < 65536 * q + r + (65535 - (r + q - 65535)))]
      rw [show (65536 * q + r + (65535 - (r + q - 65535))) % 65536 + (65536 * q + r + (65535 - (r + q - 65535))) / 65536 = 65535 from by omega]
      rfl
end Go.Proofs.YtclpnafiiobfhaaDoor

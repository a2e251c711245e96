import Derived.WalkKit
namespace Go.Proofs.YtclpnafiiobfhabGreatDoor
open Go.RowKit
set_option linter.unusedVariables false
set_option linter.unusedSimpArgs false

/-- byte i of a text, as a number (0 where there is none) -/
def nth (s : ByteArray) (i : Nat) : Int := ((s.data.toList.getD i 0).toNat : Int)
theorem nth_bd (s : ByteArray) (i : Nat) : 0 ≤ nth s i ∧ nth s i ≤ 255 := by
  unfold nth; have := (s.data.toList.getD i 0).toNat_lt; omega
theorem nth_at (s : ByteArray) (i : Nat) (h : i < s.size) : ((s[i]).toNat : Int) = nth s i := by
  unfold nth
  have h' : i < s.data.toList.length := by simpa using h
  rw [List.getD_eq_getElem?_getD, List.getElem?_eq_getElem h']
  rfl
/-- the number in n bytes from k on -/
def numv (s : ByteArray) (k : Nat) : Nat → Int
  | 0 => 0
  | n + 1 => 256 * numv s k n + nth s (k + n)
theorem numv_0 (s : ByteArray) (k : Nat) : numv s k 0 = 0 := rfl
theorem numv_s (s : ByteArray) (k n : Nat) : numv s k (n + 1) = 256 * numv s k n + nth s (k + n) := rfl
theorem numv_bd (s : ByteArray) (k n : Nat) : 0 ≤ numv s k n ∧ numv s k n < (256 : Int) ^ n := by
  induction n with
  | zero => simp [numv]
  | succ n ih =>
    have := nth_bd s (k + n)
    rw [numv_s]
    have e : (256 : Int) ^ (n + 1) = 256 ^ n * 256 := Int.pow_succ _ _
    omega
theorem numv_bd4 (s : ByteArray) (k n : Nat) (h : n ≤ 4) : 0 ≤ numv s k n ∧ numv s k n ≤ 4294967295 := by
  have hb := numv_bd s k n
  rcases n with _ | _ | _ | _ | _ | n
  · simp at hb ⊢; omega
  · simp at hb ⊢; omega
  · simp at hb ⊢; omega
  · simp at hb ⊢; omega
  · simp at hb ⊢; omega
  · omega
theorem numv_2 (s : ByteArray) (k : Nat) : numv s k 2 = 256 * nth s k + nth s (k + 1) := by simp [numv]
theorem numv_4 (s : ByteArray) (k : Nat) : numv s k 4 = 65536 * numv s k 2 + numv s (k + 2) 2 := by
  have e : k + 2 + 1 = k + 3 := rfl
  simp only [numv, Nat.add_zero, e]; omega
theorem numv_bd2 (s : ByteArray) (k : Nat) : 0 ≤ numv s k 2 ∧ numv s k 2 ≤ 65535 := by
  have h1 := nth_bd s k; have h2 := nth_bd s (k + 1); rw [numv_2]; omega
/-- the ten numbers from byte 14 on, added up (j of them) -/
def sumTo (s : ByteArray) : Nat → Int
  | 0 => 0
  | j + 1 => sumTo s j + numv s (14 + 2 * j) 2
theorem sumTo_bd (s : ByteArray) (j : Nat) : 0 ≤ sumTo s j ∧ sumTo s j ≤ 65535 * j := by
  induction j with
  | zero => simp [sumTo]
  | succ j ih => have := numv_bd2 s (14 + 2 * j); simp only [sumTo]; omega
def fold1 (v : Int) : Int := if 65535 < v then v % 65536 + v / 65536 else v
def fold (v : Int) : Int := fold1 (fold1 v)
theorem fold_stop (v : Int) (h : v ≤ 65535) : fold v = v := by unfold fold fold1; split <;> (try split) <;> omega
theorem fold_step (v : Int) (h : 65535 < v) (h1 : v ≤ 655350) : fold (v % 65536 + v / 65536) = fold v := by
  unfold fold fold1; repeat' split
  all_goals omega
/-- is what stands within broken? -/
def inn (s : ByteArray) (t : Int) : Bool :=
  if nth s 23 = 6 then decide (t < 40) || (decide (nth s 46 / 16 < 5) || decide (t - 20 < 4 * (nth s 46 / 16)))
  else if nth s 23 = 17 then decide (t < 28) || (decide (numv s 38 2 < 8) || decide (t - 20 < numv s 38 2))
  else if nth s 23 = 1 then decide (t < 28)
  else false
/-- the frame's class -/
def cls (s : ByteArray) : Int :=
  if s.size < 14 then 1
  else if numv s 12 2 ≠ 2048 then 2
  else if s.size < 34 then 3
  else if nth s 14 / 16 ≠ 4 then 4
  else if nth s 14 % 16 ≠ 5 then 5
  else if numv s 16 2 < 20 ∨ (s.size : Int) - 14 < numv s 16 2 then 6
  else if fold (sumTo s 10) ≠ 65535 then 7
  else if numv s 20 2 % 16384 ≠ 0 then 8
  else if inn s (numv s 16 2) then 9 else 0
theorem tn2 : (2 : Int).toNat = 2 := rfl
theorem tn4 : (4 : Int).toNat = 4 := rfl
theorem tn12 : (12 : Int).toNat = 12 := rfl
theorem tn16 : (16 : Int).toNat = 16 := rfl
theorem tn20 : (20 : Int).toNat = 20 := rfl
theorem tn26 : (26 : Int).toNat = 26 := rfl
theorem tn30 : (30 : Int).toNat = 30 := rfl
theorem tn34 : (34 : Int).toNat = 34 := rfl
theorem tn36 : (36 : Int).toNat = 36 := rfl
theorem tn38 : (38 : Int).toNat = 38 := rfl
/-- what a header's cells hold, of a frame that is Fine -/
def hdr (s : ByteArray) : Array Value :=
  let p := nth s 23
  let sp : Int := if p = 6 ∨ p = 17 then numv s 34 2 else if p = 1 ∧ (nth s 34 = 8 ∨ nth s 34 = 0) then numv s 38 2 else 0
  let dp : Int := if p = 6 ∨ p = 17 then numv s 36 2 else if p = 1 ∧ (nth s 34 = 8 ∨ nth s 34 = 0) then numv s 38 2 else 0
  let fl : Int := if p = 6 then nth s 47 % 64 else if p = 1 then nth s 34 else 0
  #[.int .u32 (numv s 26 4), .int .u32 (numv s 30 4), .int .u8 p, .int .u16 sp, .int .u16 dp, .int .u8 fl]
def hdr0 : Array Value := #[.int .u32 0, .int .u32 0, .int .u8 0, .int .u16 0, .int .u16 0, .int .u8 0]
theorem fold_bd (s : ByteArray) : 0 ≤ fold (sumTo s 10) ∧ fold (sumTo s 10) ≤ 65535 := by
  have h := sumTo_bd s 10
  generalize sumTo s 10 = v at *
  unfold fold fold1; repeat' split
  all_goals omega
theorem ret_int {k : IntKind} {a b : Int} (h : a = b) : Ending.returned (.int k a) = .returned (.int k b) := by rw [h]
theorem ret_bool {a b : Bool} (h : a = b) : Ending.returned (.bool a) = .returned (.bool b) := by rw [h]
end Go.Proofs.YtclpnafiiobfhabGreatDoor

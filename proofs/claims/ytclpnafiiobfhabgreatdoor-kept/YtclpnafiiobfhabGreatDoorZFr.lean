import Derived.Test.YtclpnafiiobfhabGreatDoorFrEcho
import Derived.Deep.RegionHeld3
import Derived.Deep.CutRange
import Derived.Test.YtclpnafiiobfhabGreatDoorPlain
import Derived.Test.YtclpnafiiobfhabGreatDoorKHead
import Derived.Test.YtclpnafiiobfhabGreatDoorPlBuild
import Derived.Lib.ConvBytes
import Derived.KernelRfl
namespace Go.Proofs.YtclpnafiiobfhabGreatDoor
open Go.RowKit
set_option linter.unusedVariables false
set_option linter.unusedSimpArgs false

set_option maxHeartbeats 400000 in
theorem word_any (s : ByteArray) (b off cap : Nat) (k : Int) (w : World) (hs : s.size ≤ maxLen) (hr : Row w b off s) (hk : 0 ≤ k) (h : k + 4 ≤ s.size) :
    Calls Tryz.prog 101 #[.slice (some ⟨b, off, none⟩) s.size cap, .int .i64 k] w fun e w' => e = .returned (.int .u32 (numv s k.toNat 4)) ∧ ∃ n, w' = w.drewN n := by
  have hs' := hs
  unfold maxLen at hs
  have b0 := numv_bd2 s k.toNat
  have b1 := numv_bd2 s (k.toNat + 2)
  have b2 := numv_bd2 s (k + 2).toNat
  go_enter Tryz.func101, Tryz.ntmps101
  go_wp2_with (go_at_call 98; refine (half_any s b off cap _ _ hs' (by exact hr) (by omega) (by omega)).mono ?_; rintro e w' ⟨rfl, n1, rfl⟩)
  go_ret
  exact ⟨ret_int (by rw [or32 _ _ b0 b2, numv_4, show (k + 2).toNat = k.toNat + 2 from by omega]), _, rfl⟩

set_option maxHeartbeats 400000 in
theorem totalFits_any (s : ByteArray) (b off cap : Nat) (w : World) (hs : s.size ≤ maxLen) (hr : Row w b off s) (h : 34 ≤ s.size) :
    Calls Tryz.prog 99 #[.slice (some ⟨b, off, none⟩) s.size cap] w fun e w' => e = .returned (.bool (decide (20 ≤ numv s 16 2) && decide (numv s 16 2 ≤ (s.size : Int) - 14))) ∧ ∃ n, w' = w.drewN n := by
  have hs' := hs
  unfold maxLen at hs
  have b0 := numv_bd2 s 16
  by_cases c : 20 ≤ numv s 16 2
  all_goals
    go_enter Tryz.func99, Tryz.ntmps99
    go_wp2_with (go_at_call 98; refine (half_any s b off cap _ _ hs' (by exact hr) (by omega) (by omega)).mono ?_; rintro e w' ⟨rfl, n1, rfl⟩; simp only [tn16])
    go_ret
    exact ⟨ret_bool (by first | (simp [c]; done) | (simp; omega)), _, rfl⟩

set_option maxHeartbeats 400000 in
theorem tcpFits_any (s : ByteArray) (b off cap : Nat) (t : Int) (w : World) (hs : s.size ≤ maxLen) (hr : Row w b off s) (h : 34 ≤ s.size) (ht : 0 ≤ t) (ht1 : t + 34 ≤ s.size) :
    Calls Tryz.prog 125 #[.slice (some ⟨b, off, none⟩) s.size cap, .int .i64 t] w fun e w' => e = .returned (.bool (decide (20 ≤ t) && (decide (5 ≤ nth s 46 / 16) && decide (4 * (nth s 46 / 16) ≤ t)))) ∧ ∃ n, w' = w.drewN n := by
  unfold maxLen at hs
  have b0 := nth_bd s 46
  by_cases c : 20 ≤ t
  · have c46 := hr 46 (by omega)
    have l : (46 : Int) < (s.size : Int) := by omega
    by_cases c' : 5 ≤ nth s 46 / 16
    · have c'' : 20 ≤ 4 * (nth s 46 / 16) := by omega
      go_enter Tryz.func125, Tryz.ntmps125
      go_wp2
      go_ret
      exact ⟨ret_bool (by simp [c, c', c'']), 0, rfl⟩
    · have c'' : ¬ 20 ≤ 4 * (nth s 46 / 16) := by omega
      go_enter Tryz.func125, Tryz.ntmps125
      go_wp2
      go_ret
      exact ⟨ret_bool (by simp; omega), 0, rfl⟩
  · go_enter Tryz.func125, Tryz.ntmps125
    go_wp2
    go_ret
    exact ⟨ret_bool (by simp; omega), 0, rfl⟩

set_option maxHeartbeats 400000 in
theorem udpFits_any (s : ByteArray) (b off cap : Nat) (t : Int) (w : World) (hs : s.size ≤ maxLen) (hr : Row w b off s) (h : 34 ≤ s.size) (ht : 0 ≤ t) (ht1 : t + 34 ≤ s.size) :
    Calls Tryz.prog 126 #[.slice (some ⟨b, off, none⟩) s.size cap, .int .i64 t] w fun e w' => e = .returned (.bool (decide (8 ≤ t) && (decide (8 ≤ numv s 38 2) && decide (numv s 38 2 ≤ t)))) ∧ ∃ n, w' = w.drewN n := by
  have hs' := hs
  unfold maxLen at hs
  have b0 := numv_bd2 s 38
  by_cases c : 8 ≤ t
  · by_cases c' : 8 ≤ numv s 38 2
    all_goals
      go_enter Tryz.func126, Tryz.ntmps126
      go_wp2_with (go_at_call 98; refine (half_any s b off cap _ _ hs' (by exact hr) (by omega) (by omega)).mono ?_; rintro e w' ⟨rfl, n1, rfl⟩; simp only [tn38])
      go_ret
      exact ⟨ret_bool (by first | (simp [c, c']; done) | (simp; omega)), _, rfl⟩
  · go_enter Tryz.func126, Tryz.ntmps126
    go_wp2
    go_ret
    exact ⟨ret_bool (by simp; omega), 0, rfl⟩

end Go.Proofs.YtclpnafiiobfhabGreatDoor
namespace Go.Proofs.YtclpnafiiobfhabGreatDoor
open Go.RowKit
set_option linter.unusedVariables false
set_option linter.unusedSimpArgs false

set_option maxHeartbeats 1600000 in
theorem innerFits_any (s : ByteArray) (b off cap : Nat) (w : World) (hs : s.size ≤ maxLen) (hr : Row w b off s) (h : 34 ≤ s.size) (ht0 : 20 ≤ numv s 16 2) (ht : numv s 16 2 ≤ (s.size : Int) - 14) :
    Calls Tryz.prog 100 #[.slice (some ⟨b, off, none⟩) s.size cap] w fun e w' => e = .returned (.bool (!inn s (numv s 16 2))) ∧ ∃ n, w' = w.drewN n := by
  have hs' := hs
  unfold maxLen at hs
  have bt := numv_bd2 s 16
  have c23 := hr 23 (by omega)
  have b23 := nth_bd s 23
  have l23 : (23 : Int) < (s.size : Int) := by omega

  by_cases p6 : nth s 23 = 6
  · have q6 : (nth s 23 == 6) = true := by simp [p6]
    have r : inn s (numv s 16 2) = (decide (numv s 16 2 < 40) || (decide (nth s 46 / 16 < 5) || decide (numv s 16 2 - 20 < 4 * (nth s 46 / 16)))) := by simp [inn, p6]
    rw [r]; clear r p6
    go_enter Tryz.func100, Tryz.ntmps100
    go_wp2_with (first | (go_at_call 98; refine (half_any s b off cap _ _ hs' (by exact hr) (by omega) (by omega)).mono ?_; rintro e w' ⟨rfl, n1, rfl⟩; simp only [tn12, tn16, tn20]) | (go_at_call 125; refine (tcpFits_any s b off cap _ _ hs' (by exact hr) (by omega) (by omega) (by omega)).mono ?_; rintro e w' ⟨rfl, n2, rfl⟩))
    go_ret
    exact ⟨ret_bool (by rw [Bool.eq_iff_iff]; simp; omega), _, rfl⟩
  · have q6 : (nth s 23 == 6) = false := by simp [p6]
    by_cases p17 : nth s 23 = 17
    · have q17 : (nth s 23 == 17) = true := by simp [p17]
      have r : inn s (numv s 16 2) = (decide (numv s 16 2 < 28) || (decide (numv s 38 2 < 8) || decide (numv s 16 2 - 20 < numv s 38 2))) := by simp [inn, p17]
      rw [r]; clear r p6 p17
      go_enter Tryz.func100, Tryz.ntmps100
      go_wp2_with (first | (go_at_call 98; refine (half_any s b off cap _ _ hs' (by exact hr) (by omega) (by omega)).mono ?_; rintro e w' ⟨rfl, n1, rfl⟩; simp only [tn12, tn16, tn20]) | (go_at_call 126; refine (udpFits_any s b off cap _ _ hs' (by exact hr) (by omega) (by omega) (by omega)).mono ?_; rintro e w' ⟨rfl, n2, rfl⟩))
      go_ret
      exact ⟨ret_bool (by rw [Bool.eq_iff_iff]; simp; omega), _, rfl⟩
    · have q17 : (nth s 23 == 17) = false := by simp [p17]
      by_cases p1 : nth s 23 = 1
      · have q1 : (nth s 23 == 1) = true := by simp [p1]
        have r : inn s (numv s 16 2) = decide (numv s 16 2 < 28) := by simp [inn, p1]
        rw [r]; clear r p6 p17 p1
        go_enter Tryz.func100, Tryz.ntmps100
        go_wp2_with (first | (go_at_call 98; refine (half_any s b off cap _ _ hs' (by exact hr) (by omega) (by omega)).mono ?_; rintro e w' ⟨rfl, n1, rfl⟩; simp only [tn12, tn16, tn20]))
        go_ret
        exact ⟨ret_bool (by rw [Bool.eq_iff_iff]; simp; omega), _, rfl⟩
      · have q1 : (nth s 23 == 1) = false := by simp [p1]
        have r : inn s (numv s 16 2) = false := by simp [inn, p1, p6, p17]
        rw [r]; clear r p6 p17 p1
        go_enter Tryz.func100, Tryz.ntmps100
        go_wp2_with (first | (go_at_call 98; refine (half_any s b off cap _ _ hs' (by exact hr) (by omega) (by omega)).mono ?_; rintro e w' ⟨rfl, n1, rfl⟩; simp only [tn12, tn16, tn20]))
        go_ret
        exact ⟨rfl, _, rfl⟩

set_option maxHeartbeats 1600000 in
theorem classOf_0 (s : ByteArray) (b off cap : Nat) (w : World) (hs : s.size ≤ maxLen) (hr : Row w b off s) (c0 : s.size < 14) :
    Calls Tryz.prog 64 #[.slice (some ⟨b, off, none⟩) s.size cap] w fun e w' => e = .returned (.int .u8 1) ∧ ∃ n, w' = w.drewN n := by
  have hs' := hs
  unfold maxLen at hs
  go_enter Tryz.func64, Tryz.ntmps64
  go_wp2
  go_ret
  exact ⟨rfl, 0, rfl⟩

set_option maxHeartbeats 1600000 in
theorem classOf_1 (s : ByteArray) (b off cap : Nat) (w : World) (hs : s.size ≤ maxLen) (hr : Row w b off s) (c0 : 14 ≤ s.size) (d1 : (numv s 12 2 != 2048) = true) :
    Calls Tryz.prog 64 #[.slice (some ⟨b, off, none⟩) s.size cap] w fun e w' => e = .returned (.int .u8 2) ∧ ∃ n, w' = w.drewN n := by
  have hs' := hs
  unfold maxLen at hs
  have b12 := numv_bd2 s 12
  go_enter Tryz.func64, Tryz.ntmps64
  go_wp2_with (first | (go_at_call 98; refine (half_any s b off cap _ _ hs' (by exact hr) (by omega) (by omega)).mono ?_; rintro e w' ⟨rfl, n1, rfl⟩; simp only [tn12, tn16, tn20]))
  go_ret
  exact ⟨rfl, _, rfl⟩

set_option maxHeartbeats 1600000 in
theorem classOf_2 (s : ByteArray) (b off cap : Nat) (w : World) (hs : s.size ≤ maxLen) (hr : Row w b off s) (c0 : 14 ≤ s.size) (d1 : (numv s 12 2 != 2048) = false) (c2 : s.size < 34) :
    Calls Tryz.prog 64 #[.slice (some ⟨b, off, none⟩) s.size cap] w fun e w' => e = .returned (.int .u8 3) ∧ ∃ n, w' = w.drewN n := by
  have hs' := hs
  unfold maxLen at hs
  have b12 := numv_bd2 s 12
  go_enter Tryz.func64, Tryz.ntmps64
  go_wp2_with (first | (go_at_call 98; refine (half_any s b off cap _ _ hs' (by exact hr) (by omega) (by omega)).mono ?_; rintro e w' ⟨rfl, n1, rfl⟩; simp only [tn12, tn16, tn20]))
  go_ret
  exact ⟨rfl, _, rfl⟩

set_option maxHeartbeats 1600000 in
theorem classOf_3 (s : ByteArray) (b off cap : Nat) (w : World) (hs : s.size ≤ maxLen) (hr : Row w b off s) (c0 : 14 ≤ s.size) (d1 : (numv s 12 2 != 2048) = false) (c2 : 34 ≤ s.size) (d3 : (nth s 14 / 16 != 4) = true) :
    Calls Tryz.prog 64 #[.slice (some ⟨b, off, none⟩) s.size cap] w fun e w' => e = .returned (.int .u8 4) ∧ ∃ n, w' = w.drewN n := by
  have hs' := hs
  unfold maxLen at hs
  have b12 := numv_bd2 s 12
  have c14 := hr 14 (by omega)
  have b14 := nth_bd s 14
  have l14 : (14 : Int) < (s.size : Int) := by omega
  go_enter Tryz.func64, Tryz.ntmps64
  go_wp2_with (first | (go_at_call 98; refine (half_any s b off cap _ _ hs' (by exact hr) (by omega) (by omega)).mono ?_; rintro e w' ⟨rfl, n1, rfl⟩; simp only [tn12, tn16, tn20]))
  go_ret
  exact ⟨rfl, _, rfl⟩

set_option maxHeartbeats 1600000 in
theorem classOf_4 (s : ByteArray) (b off cap : Nat) (w : World) (hs : s.size ≤ maxLen) (hr : Row w b off s) (c0 : 14 ≤ s.size) (d1 : (numv s 12 2 != 2048) = false) (c2 : 34 ≤ s.size) (d3 : (nth s 14 / 16 != 4) = false) (d4 : (nth s 14 % 16 != 5) = true) :
    Calls Tryz.prog 64 #[.slice (some ⟨b, off, none⟩) s.size cap] w fun e w' => e = .returned (.int .u8 5) ∧ ∃ n, w' = w.drewN n := by
  have hs' := hs
  unfold maxLen at hs
  have b12 := numv_bd2 s 12
  have c14 := hr 14 (by omega)
  have b14 := nth_bd s 14
  have l14 : (14 : Int) < (s.size : Int) := by omega
  have a14 := and15 (nth s 14) b14
  go_enter Tryz.func64, Tryz.ntmps64
  go_wp2_with (first | (go_at_call 98; refine (half_any s b off cap _ _ hs' (by exact hr) (by omega) (by omega)).mono ?_; rintro e w' ⟨rfl, n1, rfl⟩; simp only [tn12, tn16, tn20]))
  go_ret
  exact ⟨rfl, _, rfl⟩

set_option maxHeartbeats 1600000 in
theorem classOf_5 (s : ByteArray) (b off cap : Nat) (w : World) (hs : s.size ≤ maxLen) (hr : Row w b off s) (c0 : 14 ≤ s.size) (d1 : (numv s 12 2 != 2048) = false) (c2 : 34 ≤ s.size) (d3 : (nth s 14 / 16 != 4) = false) (d4 : (nth s 14 % 16 != 5) = false) (c5 : numv s 16 2 < 20 ∨ (s.size : Int) - 14 < numv s 16 2) :
    Calls Tryz.prog 64 #[.slice (some ⟨b, off, none⟩) s.size cap] w fun e w' => e = .returned (.int .u8 6) ∧ ∃ n, w' = w.drewN n := by
  have hs' := hs
  unfold maxLen at hs
  have b12 := numv_bd2 s 12
  have c14 := hr 14 (by omega)
  have b14 := nth_bd s 14
  have l14 : (14 : Int) < (s.size : Int) := by omega
  have a14 := and15 (nth s 14) b14
  have b16 := numv_bd2 s 16
  have T : (decide (20 ≤ numv s 16 2) && decide (numv s 16 2 ≤ (s.size : Int) - 14)) = false := by rw [Bool.eq_iff_iff]; simp; omega
  clear c5
  go_enter Tryz.func64, Tryz.ntmps64
  go_wp2_with (first | (go_at_call 98; refine (half_any s b off cap _ _ hs' (by exact hr) (by omega) (by omega)).mono ?_; rintro e w' ⟨rfl, n1, rfl⟩; simp only [tn12, tn16, tn20]) | (go_at_call 99; refine (totalFits_any s b off cap _ hs' (by exact hr) (by omega)).mono ?_; rintro e w' ⟨rfl, n2, rfl⟩; rw [T]))
  go_ret
  exact ⟨rfl, _, rfl⟩

set_option maxHeartbeats 1600000 in
theorem classOf_6 (s : ByteArray) (b off cap : Nat) (w : World) (hs : s.size ≤ maxLen) (hr : Row w b off s) (c0 : 14 ≤ s.size) (d1 : (numv s 12 2 != 2048) = false) (c2 : 34 ≤ s.size) (d3 : (nth s 14 / 16 != 4) = false) (d4 : (nth s 14 % 16 != 5) = false) (c5 : 20 ≤ numv s 16 2 ∧ numv s 16 2 ≤ (s.size : Int) - 14) (d7 : (fold (sumTo s 10) != 65535) = true) :
    Calls Tryz.prog 64 #[.slice (some ⟨b, off, none⟩) s.size cap] w fun e w' => e = .returned (.int .u8 7) ∧ ∃ n, w' = w.drewN n := by
  have hs' := hs
  unfold maxLen at hs
  have b12 := numv_bd2 s 12
  have c14 := hr 14 (by omega)
  have b14 := nth_bd s 14
  have l14 : (14 : Int) < (s.size : Int) := by omega
  have a14 := and15 (nth s 14) b14
  have b16 := numv_bd2 s 16
  have bf := fold_bd s
  have T : (decide (20 ≤ numv s 16 2) && decide (numv s 16 2 ≤ (s.size : Int) - 14)) = true := by rw [Bool.eq_iff_iff]; simp; omega
  go_enter Tryz.func64, Tryz.ntmps64
  go_wp2_with (first | (go_at_call 98; refine (half_any s b off cap _ _ hs' (by exact hr) (by omega) (by omega)).mono ?_; rintro e w' ⟨rfl, n1, rfl⟩; simp only [tn12, tn16, tn20]) | (go_at_call 99; refine (totalFits_any s b off cap _ hs' (by exact hr) (by omega)).mono ?_; rintro e w' ⟨rfl, n2, rfl⟩; rw [T]) | (go_at_call 94; refine (headSum_any s b off cap _ hs' (by exact hr) (by omega)).mono ?_; rintro e w' ⟨rfl, n3, rfl⟩))
  go_ret
  exact ⟨rfl, _, rfl⟩

set_option maxHeartbeats 1600000 in
theorem classOf_7 (s : ByteArray) (b off cap : Nat) (w : World) (hs : s.size ≤ maxLen) (hr : Row w b off s) (c0 : 14 ≤ s.size) (d1 : (numv s 12 2 != 2048) = false) (c2 : 34 ≤ s.size) (d3 : (nth s 14 / 16 != 4) = false) (d4 : (nth s 14 % 16 != 5) = false) (c5 : 20 ≤ numv s 16 2 ∧ numv s 16 2 ≤ (s.size : Int) - 14) (d7 : (fold (sumTo s 10) != 65535) = false) (d8 : (numv s 20 2 % 16384 != 0) = true) :
    Calls Tryz.prog 64 #[.slice (some ⟨b, off, none⟩) s.size cap] w fun e w' => e = .returned (.int .u8 8) ∧ ∃ n, w' = w.drewN n := by
  have hs' := hs
  unfold maxLen at hs
  have b12 := numv_bd2 s 12
  have c14 := hr 14 (by omega)
  have b14 := nth_bd s 14
  have l14 : (14 : Int) < (s.size : Int) := by omega
  have a14 := and15 (nth s 14) b14
  have b16 := numv_bd2 s 16
  have bf := fold_bd s
  have b20 := numv_bd2 s 20
  have a20 := and14 (numv s 20 2) b20
  have T : (decide (20 ≤ numv s 16 2) && decide (numv s 16 2 ≤ (s.size : Int) - 14)) = true := by rw [Bool.eq_iff_iff]; simp; omega
  go_enter Tryz.func64, Tryz.ntmps64
  go_wp2_with (first | (go_at_call 98; refine (half_any s b off cap _ _ hs' (by exact hr) (by omega) (by omega)).mono ?_; rintro e w' ⟨rfl, n1, rfl⟩; simp only [tn12, tn16, tn20]) | (go_at_call 99; refine (totalFits_any s b off cap _ hs' (by exact hr) (by omega)).mono ?_; rintro e w' ⟨rfl, n2, rfl⟩; rw [T]) | (go_at_call 94; refine (headSum_any s b off cap _ hs' (by exact hr) (by omega)).mono ?_; rintro e w' ⟨rfl, n3, rfl⟩))
  go_ret
  exact ⟨rfl, _, rfl⟩

set_option maxHeartbeats 1600000 in
theorem classOf_8 (s : ByteArray) (b off cap : Nat) (w : World) (hs : s.size ≤ maxLen) (hr : Row w b off s) (c0 : 14 ≤ s.size) (d1 : (numv s 12 2 != 2048) = false) (c2 : 34 ≤ s.size) (d3 : (nth s 14 / 16 != 4) = false) (d4 : (nth s 14 % 16 != 5) = false) (c5 : 20 ≤ numv s 16 2 ∧ numv s 16 2 ≤ (s.size : Int) - 14) (d7 : (fold (sumTo s 10) != 65535) = false) (d8 : (numv s 20 2 % 16384 != 0) = false) (d9 : inn s (numv s 16 2) = true) :
    Calls Tryz.prog 64 #[.slice (some ⟨b, off, none⟩) s.size cap] w fun e w' => e = .returned (.int .u8 9) ∧ ∃ n, w' = w.drewN n := by
  have hs' := hs
  unfold maxLen at hs
  have b12 := numv_bd2 s 12
  have c14 := hr 14 (by omega)
  have b14 := nth_bd s 14
  have l14 : (14 : Int) < (s.size : Int) := by omega
  have a14 := and15 (nth s 14) b14
  have b16 := numv_bd2 s 16
  have bf := fold_bd s
  have b20 := numv_bd2 s 20
  have a20 := and14 (numv s 20 2) b20
  have T : (decide (20 ≤ numv s 16 2) && decide (numv s 16 2 ≤ (s.size : Int) - 14)) = true := by rw [Bool.eq_iff_iff]; simp; omega
  have II : (!inn s (numv s 16 2)) = false := by rw [d9]; rfl
  clear d9
  go_enter Tryz.func64, Tryz.ntmps64
  go_wp2_with (first | (go_at_call 98; refine (half_any s b off cap _ _ hs' (by exact hr) (by omega) (by omega)).mono ?_; rintro e w' ⟨rfl, n1, rfl⟩; simp only [tn12, tn16, tn20]) | (go_at_call 99; refine (totalFits_any s b off cap _ hs' (by exact hr) (by omega)).mono ?_; rintro e w' ⟨rfl, n2, rfl⟩; rw [T]) | (go_at_call 94; refine (headSum_any s b off cap _ hs' (by exact hr) (by omega)).mono ?_; rintro e w' ⟨rfl, n3, rfl⟩) | (go_at_call 100; refine (innerFits_any s b off cap _ hs' (by exact hr) (by omega) (by omega) (by omega)).mono ?_; rintro e w' ⟨rfl, n4, rfl⟩; rw [II]))
  go_ret
  exact ⟨rfl, _, rfl⟩

set_option maxHeartbeats 1600000 in
theorem classOf_9 (s : ByteArray) (b off cap : Nat) (w : World) (hs : s.size ≤ maxLen) (hr : Row w b off s) (c0 : 14 ≤ s.size) (d1 : (numv s 12 2 != 2048) = false) (c2 : 34 ≤ s.size) (d3 : (nth s 14 / 16 != 4) = false) (d4 : (nth s 14 % 16 != 5) = false) (c5 : 20 ≤ numv s 16 2 ∧ numv s 16 2 ≤ (s.size : Int) - 14) (d7 : (fold (sumTo s 10) != 65535) = false) (d8 : (numv s 20 2 % 16384 != 0) = false) (d9 : inn s (numv s 16 2) = false) :
    Calls Tryz.prog 64 #[.slice (some ⟨b, off, none⟩) s.size cap] w fun e w' => e = .returned (.int .u8 0) ∧ ∃ n, w' = w.drewN n := by
  have hs' := hs
  unfold maxLen at hs
  have b12 := numv_bd2 s 12
  have c14 := hr 14 (by omega)
  have b14 := nth_bd s 14
  have l14 : (14 : Int) < (s.size : Int) := by omega
  have a14 := and15 (nth s 14) b14
  have b16 := numv_bd2 s 16
  have bf := fold_bd s
  have b20 := numv_bd2 s 20
  have a20 := and14 (numv s 20 2) b20
  have T : (decide (20 ≤ numv s 16 2) && decide (numv s 16 2 ≤ (s.size : Int) - 14)) = true := by rw [Bool.eq_iff_iff]; simp; omega
  have II : (!inn s (numv s 16 2)) = true := by rw [d9]; rfl
  clear d9
  go_enter Tryz.func64, Tryz.ntmps64
  go_wp2_with (first | (go_at_call 98; refine (half_any s b off cap _ _ hs' (by exact hr) (by omega) (by omega)).mono ?_; rintro e w' ⟨rfl, n1, rfl⟩; simp only [tn12, tn16, tn20]) | (go_at_call 99; refine (totalFits_any s b off cap _ hs' (by exact hr) (by omega)).mono ?_; rintro e w' ⟨rfl, n2, rfl⟩; rw [T]) | (go_at_call 94; refine (headSum_any s b off cap _ hs' (by exact hr) (by omega)).mono ?_; rintro e w' ⟨rfl, n3, rfl⟩) | (go_at_call 100; refine (innerFits_any s b off cap _ hs' (by exact hr) (by omega) (by omega) (by omega)).mono ?_; rintro e w' ⟨rfl, n4, rfl⟩; rw [II]))
  go_ret
  exact ⟨rfl, _, rfl⟩

theorem classOf_any (s : ByteArray) (b off cap : Nat) (w : World) (hs : s.size ≤ maxLen) (hr : Row w b off s) :
    Calls Tryz.prog 64 #[.slice (some ⟨b, off, none⟩) s.size cap] w fun e w' => e = .returned (.int .u8 (cls s)) ∧ ∃ n, w' = w.drewN n := by
  by_cases c0 : s.size < 14
  · rw [show cls s = 1 from by simp [cls, c0]]; exact classOf_0 s b off cap w hs hr c0
  by_cases c1 : ¬ numv s 12 2 = 2048
  · rw [show cls s = 2 from by simp [cls, c0, c1]]; exact classOf_1 s b off cap w hs hr (by omega) (by simp [c1])
  have d1 : (numv s 12 2 != 2048) = false := by simpa using c1
  by_cases c2 : s.size < 34
  · rw [show cls s = 3 from by simp [cls, c0, c1, c2]]; exact classOf_2 s b off cap w hs hr (by omega) d1 c2
  by_cases c3 : ¬ nth s 14 / 16 = 4
  · rw [show cls s = 4 from by simp [cls, c0, c1, c2, c3]]; exact classOf_3 s b off cap w hs hr (by omega) d1 (by omega) (by simp [c3])
  have d3 : (nth s 14 / 16 != 4) = false := by simpa using c3
  by_cases c4 : ¬ nth s 14 % 16 = 5
  · rw [show cls s = 5 from by simp [cls, c0, c1, c2, c3, c4]]; exact classOf_4 s b off cap w hs hr (by omega) d1 (by omega) d3 (by simp [c4])
  have d4 : (nth s 14 % 16 != 5) = false := by simpa using c4
  by_cases c5 : numv s 16 2 < 20 ∨ (s.size : Int) - 14 < numv s 16 2
  · rw [show cls s = 6 from by simp [cls, c0, c1, c2, c3, c4, c5]]; exact classOf_5 s b off cap w hs hr (by omega) d1 (by omega) d3 d4 c5
  by_cases c7 : ¬ fold (sumTo s 10) = 65535
  · rw [show cls s = 7 from by simp [cls, c0, c1, c2, c3, c4, c5, c7]]; exact classOf_6 s b off cap w hs hr (by omega) d1 (by omega) d3 d4 (by omega) (by simp [c7])
  have d7 : (fold (sumTo s 10) != 65535) = false := by simpa using c7
  by_cases c8 : ¬ numv s 20 2 % 16384 = 0
  · rw [show cls s = 8 from by simp [cls, c0, c1, c2, c3, c4, c5, c7, c8]]; exact classOf_7 s b off cap w hs hr (by omega) d1 (by omega) d3 d4 (by omega) d7 (by simp [c8])
  have d8 : (numv s 20 2 % 16384 != 0) = false := by simpa using c8
  by_cases c9 : inn s (numv s 16 2) = true
  · rw [show cls s = 9 from by simp [cls, c0, c1, c2, c3, c4, c5, c7, c8, c9]]; exact classOf_8 s b off cap w hs hr (by omega) d1 (by omega) d3 d4 (by omega) d7 d8 c9
  rw [show cls s = 0 from by simp [cls, c0, c1, c2, c3, c4, c5, c7, c8, c9]]; exact classOf_9 s b off cap w hs hr (by omega) d1 (by omega) d3 d4 (by omega) d7 d8 (by simpa using c9)
end Go.Proofs.YtclpnafiiobfhabGreatDoor
namespace Go.Proofs.YtclpnafiiobfhabGreatDoor
open Go.RowKit
set_option linter.unusedVariables false
set_option linter.unusedSimpArgs false

theorem Row.alloc {w : World} {b off : Nat} {s : ByteArray} (h : Row w b off s) (hb : b < w.heap.size) (o : Obj) : Row (w.alloc o) b off s := fun i hi => by
  rw [World.cell?_alloc_lt _ _ _ (by simpa using hb)]; exact h i hi
theorem Row.setCell {w : World} {b off : Nat} {s : ByteArray} (h : Row w b off s) {a : Addr} (ha : a.block ≠ b) (v : Value) : Row (w.setCell a v) b off s := fun i hi => by
  rw [World.cell?_setCell_other _ _ _ _ (by intro e; apply ha; rw [e])]; exact h i hi
theorem Row.drewN {w : World} {b off : Nat} {s : ByteArray} (h : Row w b off s) (n : Nat) : Row (w.drewN n) b off s := h
theorem Row.drew {w : World} {b off : Nat} {s : ByteArray} (h : Row w b off s) : Row w.drew b off s := h
theorem Row.below {w w' : World} {b off : Nat} {s : ByteArray} (h : Row w b off s) (hb : b < w.heap.size) (hw : Below w.heap.size w w') : Row w' b off s := fun i hi => by
  rw [hw.cell (p := ⟨b, off + i, none⟩) hb]; exact h i hi
theorem allocDrewN (w : World) (n : Nat) (o : Obj) : (w.drewN n).alloc o = (w.alloc o).drewN n := rfl
theorem setCellDrewN (w : World) (n : Nat) (a : Addr) (v : Value) : (w.drewN n).setCell a v = (w.setCell a v).drewN n := rfl
theorem ret_agg {a b : Array Value} (h : a = b) : Ending.returned (.agg a) = .returned (.agg b) := by rw [h]

set_option maxHeartbeats 1600000 in
theorem headerOf_tcp (s : ByteArray) (b off cap : Nat) (w : World) (hs : s.size ≤ maxLen) (hr : Row w b off s) (hb : b < w.heap.size) (h : 34 ≤ s.size) (q6 : (nth s 23 == 6) = true) (hz : 54 ≤ s.size) :
    Calls Tryz.prog 65 #[.slice (some ⟨b, off, none⟩) s.size cap] w fun e w' => e = .returned (.agg #[.int .u32 (numv s 26 4), .int .u32 (numv s 30 4), .int .u8 (nth s 23), .int .u16 (numv s 34 2), .int .u16 (numv s 36 2), .int .u8 (nth s 47 % 64)]) ∧ Below w.heap.size w w' := by
  have hs' := hs
  unfold maxLen at hs
  have c23 := hr 23 (by omega)
  have b23 := nth_bd s 23
  have l23 : (23 : Int) < (s.size : Int) := by omega
  have bn := Nat.ne_of_lt hb
  have bx0 : w.heap.size ≠ b := by omega
  have bx1 : w.heap.size + 1 ≠ b := by omega
  have bn1 : b ≠ w.heap.size + 1 := by omega
  have Hr : Hid (Row ((w.alloc (.cells #[.int .u32 0, .int .u32 0, .int .u8 0, .int .u16 0, .int .u16 0, .int .u8 0] 28)).alloc (.cells #[.int .u32 (numv s 26 4), .int .u32 (numv s 30 4), .int .u8 (nth s 23), .int .u16 0, .int .u16 0, .int .u8 0] 28)) b off s) := fun i hi => by
    rw [World.cell?_alloc_lt _ _ _ (by simp; omega), World.cell?_alloc_lt _ _ _ (by simpa using hb)]; exact hr i hi
  have Hw : Hid (Row w b off s) := hr
  have Hz : Hid (Row (w.alloc (.cells #[.int .u32 0, .int .u32 0, .int .u8 0, .int .u16 0, .int .u16 0, .int .u8 0] 28)) b off s) := fun i hi => by
    rw [World.cell?_alloc_lt _ _ _ (by simpa using hb)]; exact hr i hi
  have c47 := hr 47 (by omega)
  have b47 := nth_bd s 47
  have a47 := and63 (nth s 47) b47
  have l47 : (47 : Int) < (s.size : Int) := by omega
  go_enter Tryz.func65, Tryz.ntmps65
  go_upto_region 1 with fail
  go_cut [3] from 5 (fun v w' => v = .pointer (some ⟨w.heap.size + 1, 0, none⟩) ∧ ∃ n, w' = ((w.alloc (.cells #[.int .u32 0, .int .u32 0, .int .u8 0, .int .u16 0, .int .u16 0, .int .u8 0] 28)).alloc (.cells #[.int .u32 (numv s 26 4), .int .u32 (numv s 30 4), .int .u8 (nth s 23), .int .u16 0, .int .u16 0, .int .u8 0] 28)).drewN n)
  case first =>
    go_region_held3 (fun w' => w'.cell? ⟨b, off + 23, none⟩ = some (.int .u8 (nth s 23))) (go_keep) (first | (go_at_call 101; refine (word_any s b off cap _ _ hs' ?hrow (by omega) (by omega)).mono ?_; (case hrow => repeat (first | with_reducible exact Hw.out | with_reducible refine Row.drewN ?_ _ | with_reducible refine Row.drew ?_ | with_reducible refine Row.alloc ?_ (by first | omega | (simp; done) | (simp; omega)) _)); rintro e w' ⟨rfl, n1, rfl⟩; simp only [tn26, tn30]))
    all_goals
      go_wp2_with fail
      go_meet
      refine ⟨rfl, ?_⟩
      simp [allocDrewN, setCellDrewN, World.setCell_alloc_at, World.drewN_drewN]
      exact ⟨_, rfl⟩
  case rest =>
    obtain ⟨rfl, n0, rfl⟩ := hcut
    go_wp2_with (first | (go_at_call 98; refine (half_any s b off cap _ _ hs' ?hrow (by omega) (by omega)).mono ?_; (case hrow => repeat (first | with_reducible exact Hw.out | with_reducible refine Row.drewN ?_ _ | with_reducible refine Row.drew ?_ | with_reducible refine Row.alloc ?_ (by first | omega | (simp; done) | (simp; omega)) _ | with_reducible refine Row.setCell ?_ (by first | omega | (simp; done) | (simp; omega)) _)); rintro e w' ⟨rfl, n1, rfl⟩; simp only [tn34, tn36, tn38]))
    refine bodyPost_ret (v := .agg #[.int .u32 (numv s 26 4), .int .u32 (numv s 30 4), .int .u8 (nth s 23), .int .u16 (numv s 34 2), .int .u16 (numv s 36 2), .int .u8 (nth s 47 % 64)]) (by simp [results, Tryz.results65, go_sem]) rfl ⟨rfl, ?_⟩
    repeat (first | with_reducible exact Below.refl _ _ | with_reducible refine below_drewN ?_ _ | with_reducible refine Below.drew ?_ | with_reducible refine Below.alloc ?_ (by simp) _ | with_reducible refine Below.setCell ?_ (by simp) _)

set_option maxHeartbeats 1600000 in
theorem headerOf_udp (s : ByteArray) (b off cap : Nat) (w : World) (hs : s.size ≤ maxLen) (hr : Row w b off s) (hb : b < w.heap.size) (h : 34 ≤ s.size) (q6 : (nth s 23 == 6) = false) (q17 : (nth s 23 == 17) = true) (hz : 42 ≤ s.size) :
    Calls Tryz.prog 65 #[.slice (some ⟨b, off, none⟩) s.size cap] w fun e w' => e = .returned (.agg #[.int .u32 (numv s 26 4), .int .u32 (numv s 30 4), .int .u8 (nth s 23), .int .u16 (numv s 34 2), .int .u16 (numv s 36 2), .int .u8 0]) ∧ Below w.heap.size w w' := by
  have hs' := hs
  unfold maxLen at hs
  have c23 := hr 23 (by omega)
  have b23 := nth_bd s 23
  have l23 : (23 : Int) < (s.size : Int) := by omega
  have bn := Nat.ne_of_lt hb
  have bx0 : w.heap.size ≠ b := by omega
  have bx1 : w.heap.size + 1 ≠ b := by omega
  have bn1 : b ≠ w.heap.size + 1 := by omega
  have Hr : Hid (Row ((w.alloc (.cells #[.int .u32 0, .int .u32 0, .int .u8 0, .int .u16 0, .int .u16 0, .int .u8 0] 28)).alloc (.cells #[.int .u32 (numv s 26 4), .int .u32 (numv s 30 4), .int .u8 (nth s 23), .int .u16 0, .int .u16 0, .int .u8 0] 28)) b off s) := fun i hi => by
    rw [World.cell?_alloc_lt _ _ _ (by simp; omega), World.cell?_alloc_lt _ _ _ (by simpa using hb)]; exact hr i hi
  have Hw : Hid (Row w b off s) := hr
  have Hz : Hid (Row (w.alloc (.cells #[.int .u32 0, .int .u32 0, .int .u8 0, .int .u16 0, .int .u16 0, .int .u8 0] 28)) b off s) := fun i hi => by
    rw [World.cell?_alloc_lt _ _ _ (by simpa using hb)]; exact hr i hi
  skip
  go_enter Tryz.func65, Tryz.ntmps65
  go_upto_region 1 with fail
  go_cut [3] from 5 (fun v w' => v = .pointer (some ⟨w.heap.size + 1, 0, none⟩) ∧ ∃ n, w' = ((w.alloc (.cells #[.int .u32 0, .int .u32 0, .int .u8 0, .int .u16 0, .int .u16 0, .int .u8 0] 28)).alloc (.cells #[.int .u32 (numv s 26 4), .int .u32 (numv s 30 4), .int .u8 (nth s 23), .int .u16 0, .int .u16 0, .int .u8 0] 28)).drewN n)
  case first =>
    go_region_held3 (fun w' => w'.cell? ⟨b, off + 23, none⟩ = some (.int .u8 (nth s 23))) (go_keep) (first | (go_at_call 101; refine (word_any s b off cap _ _ hs' ?hrow (by omega) (by omega)).mono ?_; (case hrow => repeat (first | with_reducible exact Hw.out | with_reducible refine Row.drewN ?_ _ | with_reducible refine Row.drew ?_ | with_reducible refine Row.alloc ?_ (by first | omega | (simp; done) | (simp; omega)) _)); rintro e w' ⟨rfl, n1, rfl⟩; simp only [tn26, tn30]))
    all_goals
      go_wp2_with fail
      go_meet
      refine ⟨rfl, ?_⟩
      simp [allocDrewN, setCellDrewN, World.setCell_alloc_at, World.drewN_drewN]
      exact ⟨_, rfl⟩
  case rest =>
    obtain ⟨rfl, n0, rfl⟩ := hcut
    go_wp2_with (first | (go_at_call 98; refine (half_any s b off cap _ _ hs' ?hrow (by omega) (by omega)).mono ?_; (case hrow => repeat (first | with_reducible exact Hw.out | with_reducible refine Row.drewN ?_ _ | with_reducible refine Row.drew ?_ | with_reducible refine Row.alloc ?_ (by first | omega | (simp; done) | (simp; omega)) _ | with_reducible refine Row.setCell ?_ (by first | omega | (simp; done) | (simp; omega)) _)); rintro e w' ⟨rfl, n1, rfl⟩; simp only [tn34, tn36, tn38]))
    refine bodyPost_ret (v := .agg #[.int .u32 (numv s 26 4), .int .u32 (numv s 30 4), .int .u8 (nth s 23), .int .u16 (numv s 34 2), .int .u16 (numv s 36 2), .int .u8 0]) (by simp [results, Tryz.results65, go_sem]) rfl ⟨rfl, ?_⟩
    repeat (first | with_reducible exact Below.refl _ _ | with_reducible refine below_drewN ?_ _ | with_reducible refine Below.drew ?_ | with_reducible refine Below.alloc ?_ (by simp) _ | with_reducible refine Below.setCell ?_ (by simp) _)

set_option maxHeartbeats 1600000 in
theorem headerOf_icmpe (s : ByteArray) (b off cap : Nat) (w : World) (hs : s.size ≤ maxLen) (hr : Row w b off s) (hb : b < w.heap.size) (h : 34 ≤ s.size) (q6 : (nth s 23 == 6) = false) (q17 : (nth s 23 == 17) = false) (q1 : (nth s 23 == 1) = true) (qe : (nth s 34 == 8 || nth s 34 == 0) = true) (hz : 42 ≤ s.size) :
    Calls Tryz.prog 65 #[.slice (some ⟨b, off, none⟩) s.size cap] w fun e w' => e = .returned (.agg #[.int .u32 (numv s 26 4), .int .u32 (numv s 30 4), .int .u8 (nth s 23), .int .u16 (numv s 38 2), .int .u16 (numv s 38 2), .int .u8 (nth s 34)]) ∧ Below w.heap.size w w' := by
  have hs' := hs
  unfold maxLen at hs
  have c23 := hr 23 (by omega)
  have b23 := nth_bd s 23
  have l23 : (23 : Int) < (s.size : Int) := by omega
  have bn := Nat.ne_of_lt hb
  have bx0 : w.heap.size ≠ b := by omega
  have bx1 : w.heap.size + 1 ≠ b := by omega
  have bn1 : b ≠ w.heap.size + 1 := by omega
  have Hr : Hid (Row ((w.alloc (.cells #[.int .u32 0, .int .u32 0, .int .u8 0, .int .u16 0, .int .u16 0, .int .u8 0] 28)).alloc (.cells #[.int .u32 (numv s 26 4), .int .u32 (numv s 30 4), .int .u8 (nth s 23), .int .u16 0, .int .u16 0, .int .u8 0] 28)) b off s) := fun i hi => by
    rw [World.cell?_alloc_lt _ _ _ (by simp; omega), World.cell?_alloc_lt _ _ _ (by simpa using hb)]; exact hr i hi
  have Hw : Hid (Row w b off s) := hr
  have Hz : Hid (Row (w.alloc (.cells #[.int .u32 0, .int .u32 0, .int .u8 0, .int .u16 0, .int .u16 0, .int .u8 0] 28)) b off s) := fun i hi => by
    rw [World.cell?_alloc_lt _ _ _ (by simpa using hb)]; exact hr i hi
  have c34 := hr 34 (by omega)
  have b34 := nth_bd s 34
  have l34 : (34 : Int) < (s.size : Int) := by omega
  have HQ : Hid ((nth s 34 == 8 || nth s 34 == 0) = true) := qe
  clear qe
  go_enter Tryz.func65, Tryz.ntmps65
  go_upto_region 1 with fail
  go_cut [3] from 5 (fun v w' => v = .pointer (some ⟨w.heap.size + 1, 0, none⟩) ∧ ∃ n, w' = ((w.alloc (.cells #[.int .u32 0, .int .u32 0, .int .u8 0, .int .u16 0, .int .u16 0, .int .u8 0] 28)).alloc (.cells #[.int .u32 (numv s 26 4), .int .u32 (numv s 30 4), .int .u8 (nth s 23), .int .u16 0, .int .u16 0, .int .u8 0] 28)).drewN n)
  case first =>
    go_region_held3 (fun w' => w'.cell? ⟨b, off + 23, none⟩ = some (.int .u8 (nth s 23))) (go_keep) (first | (go_at_call 101; refine (word_any s b off cap _ _ hs' ?hrow (by omega) (by omega)).mono ?_; (case hrow => repeat (first | with_reducible exact Hw.out | with_reducible refine Row.drewN ?_ _ | with_reducible refine Row.drew ?_ | with_reducible refine Row.alloc ?_ (by first | omega | (simp; done) | (simp; omega)) _)); rintro e w' ⟨rfl, n1, rfl⟩; simp only [tn26, tn30]))
    all_goals
      go_wp2_with fail
      go_meet
      refine ⟨rfl, ?_⟩
      simp [allocDrewN, setCellDrewN, World.setCell_alloc_at, World.drewN_drewN]
      exact ⟨_, rfl⟩
  case rest =>
    obtain ⟨rfl, n0, rfl⟩ := hcut
    go_wp2_with (first | (go_at_call 98; refine (half_any s b off cap _ _ hs' ?hrow (by omega) (by omega)).mono ?_; (case hrow => repeat (first | with_reducible exact Hw.out | with_reducible refine Row.drewN ?_ _ | with_reducible refine Row.drew ?_ | with_reducible refine Row.alloc ?_ (by first | omega | (simp; done) | (simp; omega)) _ | with_reducible refine Row.setCell ?_ (by first | omega | (simp; done) | (simp; omega)) _)); rintro e w' ⟨rfl, n1, rfl⟩; simp only [tn34, tn36, tn38]) | (go_at_call 91; refine (isEcho_is _ _ _ HQ.out).mono ?_; rintro e w' ⟨rfl, rfl⟩))
    refine bodyPost_ret (v := .agg #[.int .u32 (numv s 26 4), .int .u32 (numv s 30 4), .int .u8 (nth s 23), .int .u16 (numv s 38 2), .int .u16 (numv s 38 2), .int .u8 (nth s 34)]) (by simp [results, Tryz.results65, go_sem]) rfl ⟨rfl, ?_⟩
    repeat (first | with_reducible exact Below.refl _ _ | with_reducible refine below_drewN ?_ _ | with_reducible refine Below.drew ?_ | with_reducible refine Below.alloc ?_ (by simp) _ | with_reducible refine Below.setCell ?_ (by simp) _)

set_option maxHeartbeats 1600000 in
theorem headerOf_icmpn (s : ByteArray) (b off cap : Nat) (w : World) (hs : s.size ≤ maxLen) (hr : Row w b off s) (hb : b < w.heap.size) (h : 34 ≤ s.size) (q6 : (nth s 23 == 6) = false) (q17 : (nth s 23 == 17) = false) (q1 : (nth s 23 == 1) = true) (qe : (nth s 34 == 8 || nth s 34 == 0) = false) (hz : 42 ≤ s.size) :
    Calls Tryz.prog 65 #[.slice (some ⟨b, off, none⟩) s.size cap] w fun e w' => e = .returned (.agg #[.int .u32 (numv s 26 4), .int .u32 (numv s 30 4), .int .u8 (nth s 23), .int .u16 0, .int .u16 0, .int .u8 (nth s 34)]) ∧ Below w.heap.size w w' := by
  have hs' := hs
  unfold maxLen at hs
  have c23 := hr 23 (by omega)
  have b23 := nth_bd s 23
  have l23 : (23 : Int) < (s.size : Int) := by omega
  have bn := Nat.ne_of_lt hb
  have bx0 : w.heap.size ≠ b := by omega
  have bx1 : w.heap.size + 1 ≠ b := by omega
  have bn1 : b ≠ w.heap.size + 1 := by omega
  have Hr : Hid (Row ((w.alloc (.cells #[.int .u32 0, .int .u32 0, .int .u8 0, .int .u16 0, .int .u16 0, .int .u8 0] 28)).alloc (.cells #[.int .u32 (numv s 26 4), .int .u32 (numv s 30 4), .int .u8 (nth s 23), .int .u16 0, .int .u16 0, .int .u8 0] 28)) b off s) := fun i hi => by
    rw [World.cell?_alloc_lt _ _ _ (by simp; omega), World.cell?_alloc_lt _ _ _ (by simpa using hb)]; exact hr i hi
  have Hw : Hid (Row w b off s) := hr
  have Hz : Hid (Row (w.alloc (.cells #[.int .u32 0, .int .u32 0, .int .u8 0, .int .u16 0, .int .u16 0, .int .u8 0] 28)) b off s) := fun i hi => by
    rw [World.cell?_alloc_lt _ _ _ (by simpa using hb)]; exact hr i hi
  have c34 := hr 34 (by omega)
  have b34 := nth_bd s 34
  have l34 : (34 : Int) < (s.size : Int) := by omega
  have HQ : Hid ((nth s 34 == 8 || nth s 34 == 0) = false) := qe
  clear qe
  go_enter Tryz.func65, Tryz.ntmps65
  go_upto_region 1 with fail
  go_cut [3] from 5 (fun v w' => v = .pointer (some ⟨w.heap.size + 1, 0, none⟩) ∧ ∃ n, w' = ((w.alloc (.cells #[.int .u32 0, .int .u32 0, .int .u8 0, .int .u16 0, .int .u16 0, .int .u8 0] 28)).alloc (.cells #[.int .u32 (numv s 26 4), .int .u32 (numv s 30 4), .int .u8 (nth s 23), .int .u16 0, .int .u16 0, .int .u8 0] 28)).drewN n)
  case first =>
    go_region_held3 (fun w' => w'.cell? ⟨b, off + 23, none⟩ = some (.int .u8 (nth s 23))) (go_keep) (first | (go_at_call 101; refine (word_any s b off cap _ _ hs' ?hrow (by omega) (by omega)).mono ?_; (case hrow => repeat (first | with_reducible exact Hw.out | with_reducible refine Row.drewN ?_ _ | with_reducible refine Row.drew ?_ | with_reducible refine Row.alloc ?_ (by first | omega | (simp; done) | (simp; omega)) _)); rintro e w' ⟨rfl, n1, rfl⟩; simp only [tn26, tn30]))
    all_goals
      go_wp2_with fail
      go_meet
      refine ⟨rfl, ?_⟩
      simp [allocDrewN, setCellDrewN, World.setCell_alloc_at, World.drewN_drewN]
      exact ⟨_, rfl⟩
  case rest =>
    obtain ⟨rfl, n0, rfl⟩ := hcut
    go_wp2_with (first | (go_at_call 98; refine (half_any s b off cap _ _ hs' ?hrow (by omega) (by omega)).mono ?_; (case hrow => repeat (first | with_reducible exact Hw.out | with_reducible refine Row.drewN ?_ _ | with_reducible refine Row.drew ?_ | with_reducible refine Row.alloc ?_ (by first | omega | (simp; done) | (simp; omega)) _ | with_reducible refine Row.setCell ?_ (by first | omega | (simp; done) | (simp; omega)) _)); rintro e w' ⟨rfl, n1, rfl⟩; simp only [tn34, tn36, tn38]) | (go_at_call 91; refine (isEcho_is _ _ _ HQ.out).mono ?_; rintro e w' ⟨rfl, rfl⟩))
    refine bodyPost_ret (v := .agg #[.int .u32 (numv s 26 4), .int .u32 (numv s 30 4), .int .u8 (nth s 23), .int .u16 0, .int .u16 0, .int .u8 (nth s 34)]) (by simp [results, Tryz.results65, go_sem]) rfl ⟨rfl, ?_⟩
    repeat (first | with_reducible exact Below.refl _ _ | with_reducible refine below_drewN ?_ _ | with_reducible refine Below.drew ?_ | with_reducible refine Below.alloc ?_ (by simp) _ | with_reducible refine Below.setCell ?_ (by simp) _)

set_option maxHeartbeats 1600000 in
theorem headerOf_other (s : ByteArray) (b off cap : Nat) (w : World) (hs : s.size ≤ maxLen) (hr : Row w b off s) (hb : b < w.heap.size) (h : 34 ≤ s.size) (q6 : (nth s 23 == 6) = false) (q17 : (nth s 23 == 17) = false) (q1 : (nth s 23 == 1) = false) :
    Calls Tryz.prog 65 #[.slice (some ⟨b, off, none⟩) s.size cap] w fun e w' => e = .returned (.agg #[.int .u32 (numv s 26 4), .int .u32 (numv s 30 4), .int .u8 (nth s 23), .int .u16 0, .int .u16 0, .int .u8 0]) ∧ Below w.heap.size w w' := by
  have hs' := hs
  unfold maxLen at hs
  have c23 := hr 23 (by omega)
  have b23 := nth_bd s 23
  have l23 : (23 : Int) < (s.size : Int) := by omega
  have bn := Nat.ne_of_lt hb
  have bx0 : w.heap.size ≠ b := by omega
  have bx1 : w.heap.size + 1 ≠ b := by omega
  have bn1 : b ≠ w.heap.size + 1 := by omega
  have Hr : Hid (Row ((w.alloc (.cells #[.int .u32 0, .int .u32 0, .int .u8 0, .int .u16 0, .int .u16 0, .int .u8 0] 28)).alloc (.cells #[.int .u32 (numv s 26 4), .int .u32 (numv s 30 4), .int .u8 (nth s 23), .int .u16 0, .int .u16 0, .int .u8 0] 28)) b off s) := fun i hi => by
    rw [World.cell?_alloc_lt _ _ _ (by simp; omega), World.cell?_alloc_lt _ _ _ (by simpa using hb)]; exact hr i hi
  have Hw : Hid (Row w b off s) := hr
  have Hz : Hid (Row (w.alloc (.cells #[.int .u32 0, .int .u32 0, .int .u8 0, .int .u16 0, .int .u16 0, .int .u8 0] 28)) b off s) := fun i hi => by
    rw [World.cell?_alloc_lt _ _ _ (by simpa using hb)]; exact hr i hi
  skip
  go_enter Tryz.func65, Tryz.ntmps65
  go_upto_region 1 with fail
  go_cut [3] from 5 (fun v w' => v = .pointer (some ⟨w.heap.size + 1, 0, none⟩) ∧ ∃ n, w' = ((w.alloc (.cells #[.int .u32 0, .int .u32 0, .int .u8 0, .int .u16 0, .int .u16 0, .int .u8 0] 28)).alloc (.cells #[.int .u32 (numv s 26 4), .int .u32 (numv s 30 4), .int .u8 (nth s 23), .int .u16 0, .int .u16 0, .int .u8 0] 28)).drewN n)
  case first =>
    go_region_held3 (fun w' => w'.cell? ⟨b, off + 23, none⟩ = some (.int .u8 (nth s 23))) (go_keep) (first | (go_at_call 101; refine (word_any s b off cap _ _ hs' ?hrow (by omega) (by omega)).mono ?_; (case hrow => repeat (first | with_reducible exact Hw.out | with_reducible refine Row.drewN ?_ _ | with_reducible refine Row.drew ?_ | with_reducible refine Row.alloc ?_ (by first | omega | (simp; done) | (simp; omega)) _)); rintro e w' ⟨rfl, n1, rfl⟩; simp only [tn26, tn30]))
    all_goals
      go_wp2_with fail
      go_meet
      refine ⟨rfl, ?_⟩
      simp [allocDrewN, setCellDrewN, World.setCell_alloc_at, World.drewN_drewN]
      exact ⟨_, rfl⟩
  case rest =>
    obtain ⟨rfl, n0, rfl⟩ := hcut
    go_wp2_with (first | (go_at_call 98; refine (half_any s b off cap _ _ hs' ?hrow (by omega) (by omega)).mono ?_; (case hrow => repeat (first | with_reducible exact Hw.out | with_reducible refine Row.drewN ?_ _ | with_reducible refine Row.drew ?_ | with_reducible refine Row.alloc ?_ (by first | omega | (simp; done) | (simp; omega)) _ | with_reducible refine Row.setCell ?_ (by first | omega | (simp; done) | (simp; omega)) _)); rintro e w' ⟨rfl, n1, rfl⟩; simp only [tn34, tn36, tn38]))
    refine bodyPost_ret (v := .agg #[.int .u32 (numv s 26 4), .int .u32 (numv s 30 4), .int .u8 (nth s 23), .int .u16 0, .int .u16 0, .int .u8 0]) (by simp [results, Tryz.results65, go_sem]) rfl ⟨rfl, ?_⟩
    repeat (first | with_reducible exact Below.refl _ _ | with_reducible refine below_drewN ?_ _ | with_reducible refine Below.drew ?_ | with_reducible refine Below.alloc ?_ (by simp) _ | with_reducible refine Below.setCell ?_ (by simp) _)

end Go.Proofs.YtclpnafiiobfhabGreatDoor
namespace Go.Proofs.YtclpnafiiobfhabGreatDoor
open Go.RowKit
set_option linter.unusedVariables false
set_option linter.unusedSimpArgs false

theorem cls_zero (s : ByteArray) (h : cls s = 0) : 34 ≤ s.size ∧ 20 ≤ numv s 16 2 ∧ numv s 16 2 ≤ (s.size : Int) - 14 ∧ inn s (numv s 16 2) = false := by
  unfold cls at h
  repeat' split at h
  all_goals first | omega | skip
  rename_i c1 c2 c3 c4 c5 c6 c7 c8 c9
  refine ⟨by omega, by omega, by omega, by simpa using c9⟩
def parsedAs (s : ByteArray) : Value := .tuple #[.agg (if cls s = 0 then hdr s else hdr0), .int .u8 (cls s)]
theorem parsedAs_form (s : ByteArray) : ∃ x0 x1 x2 x3 x4 x5 : Int, parsedAs s = .tuple #[.agg #[.int .u32 x0, .int .u32 x1, .int .u8 x2, .int .u16 x3, .int .u16 x4, .int .u8 x5], .int .u8 (cls s)] := by
  unfold parsedAs
  by_cases hc : cls s = 0
  · rw [if_pos hc]; exact ⟨_, _, _, _, _, _, rfl⟩
  · rw [if_neg hc]; exact ⟨_, _, _, _, _, _, rfl⟩
end Go.Proofs.YtclpnafiiobfhabGreatDoor
namespace Go.Proofs.YtclpnafiiobfhabGreatDoor
open Go.RowKit
set_option linter.unusedVariables false
set_option linter.unusedSimpArgs false

theorem headerOf_any (s : ByteArray) (b off cap : Nat) (w : World) (hs : s.size ≤ maxLen) (hr : Row w b off s) (hb : b < w.heap.size) (hc : cls s = 0) :
    Calls Tryz.prog 65 #[.slice (some ⟨b, off, none⟩) s.size cap] w fun e w' => e = .returned (.agg (hdr s)) ∧ Below w.heap.size w w' := by
  obtain ⟨h34, h20, hle, hin⟩ := cls_zero s hc
  by_cases p6 : nth s 23 = 6
  · have hz : 54 ≤ s.size := by
      have : ¬ numv s 16 2 < 40 := by intro h; simp [inn, p6, h] at hin
      omega
    have e : hdr s = #[.int .u32 (numv s 26 4), .int .u32 (numv s 30 4), .int .u8 (nth s 23), .int .u16 (numv s 34 2), .int .u16 (numv s 36 2), .int .u8 (nth s 47 % 64)] := by simp [hdr, p6]
    rw [e]
    exact headerOf_tcp s b off cap w hs hr hb h34 (by simp [p6]) hz
  by_cases p17 : nth s 23 = 17
  · have hz : 42 ≤ s.size := by
      have : ¬ numv s 16 2 < 28 := by intro h; simp [inn, p17, h] at hin
      omega
    have e : hdr s = #[.int .u32 (numv s 26 4), .int .u32 (numv s 30 4), .int .u8 (nth s 23), .int .u16 (numv s 34 2), .int .u16 (numv s 36 2), .int .u8 0] := by simp [hdr, p17]
    rw [e]
    exact headerOf_udp s b off cap w hs hr hb h34 (by simp [p17]) (by simp [p17]) hz
  by_cases p1 : nth s 23 = 1
  · have hz : 42 ≤ s.size := by
      have : ¬ numv s 16 2 < 28 := by intro h; simp [inn, p1, h] at hin
      omega
    by_cases pe : nth s 34 = 8 ∨ nth s 34 = 0
    · have e : hdr s = #[.int .u32 (numv s 26 4), .int .u32 (numv s 30 4), .int .u8 (nth s 23), .int .u16 (numv s 38 2), .int .u16 (numv s 38 2), .int .u8 (nth s 34)] := by simp [hdr, p1, pe]
      rw [e]
      exact headerOf_icmpe s b off cap w hs hr hb h34 (by simp [p1]) (by simp [p1]) (by simp [p1]) (by simpa using pe) hz
    · have e : hdr s = #[.int .u32 (numv s 26 4), .int .u32 (numv s 30 4), .int .u8 (nth s 23), .int .u16 0, .int .u16 0, .int .u8 (nth s 34)] := by simp [hdr, p1, pe]
      rw [e]
      exact headerOf_icmpn s b off cap w hs hr hb h34 (by simp [p1]) (by simp [p1]) (by simp [p1]) (by simpa using pe) hz
  · have e : hdr s = #[.int .u32 (numv s 26 4), .int .u32 (numv s 30 4), .int .u8 (nth s 23), .int .u16 0, .int .u16 0, .int .u8 0] := by simp [hdr, p6, p17, p1]
    rw [e]
    exact headerOf_other s b off cap w hs hr hb h34 (by simp [p6]) (by simp [p17]) (by simp [p1])

set_option maxHeartbeats 800000 in
theorem frParse_bad (s : ByteArray) (b off cap : Nat) (w : World) (hs : s.size ≤ maxLen) (hr : Row w b off s) (hb : b < w.heap.size) (hc : (cls s != 0) = true) :
    Calls Tryz.prog 40 #[.slice (some ⟨b, off, none⟩) s.size cap] w fun e w' => e = .returned (.tuple #[.agg hdr0, .int .u8 (cls s)]) ∧ Below w.heap.size w w' := by
  have Hr : Hid (Row w b off s) := hr
  clear hr
  go_enter Tryz.func40, Tryz.ntmps40
  go_wp2_with fail
  refine (classOf_any s b off cap _ hs (Hr.out.alloc hb _)).mono ?_
  rintro e w1 ⟨rfl, n, rfl⟩
  go_wp2
  refine bodyPost_ret (v := .tuple #[.agg hdr0, .int .u8 (cls s)]) (by simp [results, Tryz.results40, go_sem, hdr0]) rfl ⟨rfl, ?_⟩
  repeat (first | with_reducible exact Below.refl _ _ | with_reducible refine below_drewN ?_ _ | with_reducible refine Below.setCell ?_ (by simp) _ | with_reducible refine Below.alloc ?_ (by simp) _)

set_option maxHeartbeats 800000 in
theorem frParse_fine (s : ByteArray) (b off cap : Nat) (w : World) (hs : s.size ≤ maxLen) (hr : Row w b off s) (hb : b < w.heap.size) (hc : cls s = 0) :
    Calls Tryz.prog 40 #[.slice (some ⟨b, off, none⟩) s.size cap] w fun e w' => e = .returned (.tuple #[.agg (hdr s), .int .u8 0]) ∧ Below w.heap.size w w' := by
  have Hr : Hid (Row w b off s) := hr
  have Hc : Hid (cls s = 0) := hc
  have hq : (cls s != 0) = false := by simp [hc]
  obtain ⟨x0, x1, x2, x3, x4, x5, hx⟩ : ∃ x0 x1 x2 x3 x4 x5 : Int, hdr s = #[.int .u32 x0, .int .u32 x1, .int .u8 x2, .int .u16 x3, .int .u16 x4, .int .u8 x5] := ⟨_, _, _, _, _, _, rfl⟩
  have HX := Hid.out (p := True) trivial
  clear hr hc HX
  rw [hx]
  have HX : Hid (hdr s = #[.int .u32 x0, .int .u32 x1, .int .u8 x2, .int .u16 x3, .int .u16 x4, .int .u8 x5]) := hx
  clear hx
  go_enter Tryz.func40, Tryz.ntmps40
  go_wp2_with fail
  refine (classOf_any s b off cap _ hs (Hr.out.alloc hb _)).mono ?_
  rintro e w1 ⟨rfl, n, rfl⟩
  go_wp2_with fail
  refine (headerOf_any s b off cap _ hs ((Hr.out.alloc hb _).drewN _) (by simp; omega) Hc.out).mono ?_
  rintro e w1 ⟨rfl, hb1⟩
  rw [HX.out]
  have hsz := hb1.size
  have q0 := hb1.cell (p := ⟨w.heap.size, 0, none⟩) (by simp)
  have q1 := hb1.cell (p := ⟨w.heap.size, 1, none⟩) (by simp)
  have q2 := hb1.cell (p := ⟨w.heap.size, 2, none⟩) (by simp)
  have q3 := hb1.cell (p := ⟨w.heap.size, 3, none⟩) (by simp)
  have q4 := hb1.cell (p := ⟨w.heap.size, 4, none⟩) (by simp)
  have q5 := hb1.cell (p := ⟨w.heap.size, 5, none⟩) (by simp)
  have f0 := hb1.frozen (p := ⟨w.heap.size, 0, none⟩) (by simp)
  have f1 := hb1.frozen (p := ⟨w.heap.size, 1, none⟩) (by simp)
  have f2 := hb1.frozen (p := ⟨w.heap.size, 2, none⟩) (by simp)
  have f3 := hb1.frozen (p := ⟨w.heap.size, 3, none⟩) (by simp)
  have f4 := hb1.frozen (p := ⟨w.heap.size, 4, none⟩) (by simp)
  have f5 := hb1.frozen (p := ⟨w.heap.size, 5, none⟩) (by simp)
  simp at q0 q1 q2 q3 q4 q5 f0 f1 f2 f3 f4 f5 hsz
  have HB : Hid (Below w.heap.size w w1) := by
    refine Below.trans ?_ (hb1.mono (by simp))
    repeat (first | with_reducible exact Below.refl _ _ | with_reducible refine below_drewN ?_ _ | with_reducible refine Below.alloc ?_ (by simp) _)
  clear hb1
  go_wp2
  refine bodyPost_ret (v := .tuple #[.agg #[.int .u32 x0, .int .u32 x1, .int .u8 x2, .int .u16 x3, .int .u16 x4, .int .u8 x5], .int .u8 0]) (by simp [results, Tryz.results40, go_sem, *]) rfl ⟨rfl, ?_⟩
  repeat (first | with_reducible exact HB.out | with_reducible refine below_drewN ?_ _ | with_reducible refine Below.setCell ?_ (by simp) _)

theorem frParse_any (s : ByteArray) (b off cap : Nat) (w : World) (hs : s.size ≤ maxLen) (hr : Row w b off s) (hb : b < w.heap.size) :
    Calls Tryz.prog 40 #[.slice (some ⟨b, off, none⟩) s.size cap] w fun e w' => e = .returned (parsedAs s) ∧ Below w.heap.size w w' := by
  by_cases hc : cls s = 0
  · rw [show parsedAs s = .tuple #[.agg (hdr s), .int .u8 0] from by simp [parsedAs, hc]]
    exact frParse_fine s b off cap w hs hr hb hc
  · rw [show parsedAs s = .tuple #[.agg hdr0, .int .u8 (cls s)] from by simp [parsedAs, hc]]
    exact frParse_bad s b off cap w hs hr hb (by simpa using hc)
end Go.Proofs.YtclpnafiiobfhabGreatDoor
namespace Go.Proofs.YtclpnafiiobfhabGreatDoor
open Go.RowKit
set_option linter.unusedVariables false
set_option linter.unusedSimpArgs false

/-- the first 34 bytes of a frame -/
def hd34 (a b p t v : Int) : List Int :=
  [0, 0, 0, 0, 0, 0, 0, 0, 0, 0, 0, 0, 8, 0, 69, 0, t / 256, t % 256, 0, 0, 0, 0, 64, p, v / 256, v % 256,
   a / 65536 / 256, a / 65536 % 256, a % 65536 / 256, a % 65536 % 256, b / 65536 / 256, b / 65536 % 256, b % 65536 / 256, b % 65536 % 256]
def inT (sp dp f : Int) : List Int := [sp / 256, sp % 256, dp / 256, dp % 256, 0, 0, 0, 0, 0, 0, 0, 0, 80, f, 0, 0, 0, 0, 0, 0]
def inU (sp dp n : Int) : List Int := [sp / 256, sp % 256, dp / 256, dp % 256, n / 256, n % 256, 0, 0]
def inI (sp f : Int) : List Int := [f, 0, 0, 0, sp / 256, sp % 256, 0, 0]

theorem num2L (l : List Int) (h : Byt l) (k : Nat) : numv (ofL l) k 2 = 256 * l.getD k 0 + l.getD (k + 1) 0 := by
  rw [numv_2, ofL_nth l h, ofL_nth l h]
theorem hd_sum (a b p t v : Int) (r : List Int) (h : Byt (hd34 a b p t v ++ r)) :
    sumTo (ofL (hd34 a b p t v ++ r)) 10 = 34048 + p + t + v + (a / 65536 + a % 65536) + (b / 65536 + b % 65536) := by
  simp only [sumTo, num2L _ h]
  have e14 : (hd34 a b p t v ++ r).getD 14 0 = 69 := rfl
  have e15 : (hd34 a b p t v ++ r).getD 15 0 = 0 := rfl
  have e16 : (hd34 a b p t v ++ r).getD 16 0 = t / 256 := rfl
  have e17 : (hd34 a b p t v ++ r).getD 17 0 = t % 256 := rfl
  have e18 : (hd34 a b p t v ++ r).getD 18 0 = 0 := rfl
  have e19 : (hd34 a b p t v ++ r).getD 19 0 = 0 := rfl
  have e20 : (hd34 a b p t v ++ r).getD 20 0 = 0 := rfl
  have e21 : (hd34 a b p t v ++ r).getD 21 0 = 0 := rfl
  have e22 : (hd34 a b p t v ++ r).getD 22 0 = 64 := rfl
  have e23 : (hd34 a b p t v ++ r).getD 23 0 = p := rfl
  have e24 : (hd34 a b p t v ++ r).getD 24 0 = v / 256 := rfl
  have e25 : (hd34 a b p t v ++ r).getD 25 0 = v % 256 := rfl
  have e26 : (hd34 a b p t v ++ r).getD 26 0 = a / 65536 / 256 := rfl
  have e27 : (hd34 a b p t v ++ r).getD 27 0 = a / 65536 % 256 := rfl
  have e28 : (hd34 a b p t v ++ r).getD 28 0 = a % 65536 / 256 := rfl
  have e29 : (hd34 a b p t v ++ r).getD 29 0 = a % 65536 % 256 := rfl
  have e30 : (hd34 a b p t v ++ r).getD 30 0 = b / 65536 / 256 := rfl
  have e31 : (hd34 a b p t v ++ r).getD 31 0 = b / 65536 % 256 := rfl
  have e32 : (hd34 a b p t v ++ r).getD 32 0 = b % 65536 / 256 := rfl
  have e33 : (hd34 a b p t v ++ r).getD 33 0 = b % 65536 % 256 := rfl
  simp only [Nat.mul_zero, Nat.add_zero, Nat.reduceMul, Nat.reduceAdd, e14, e15, e16, e17, e18, e19, e20, e21, e22, e23, e24, e25, e26, e27, e28, e29, e30, e31, e32, e33]
  omega
theorem fold_fix (c : Int) (h : 0 < c) (h1 : c ≤ 589815) : fold (c + (65535 - fold c)) = 65535 := by
  have e : fold c = if c ≤ 65535 then c else (if c % 65536 + c / 65536 ≤ 65535 then c % 65536 + c / 65536 else c % 65536 + c / 65536 - 65535) := by
    unfold fold fold1
    repeat' split
    all_goals omega
  by_cases h2 : c ≤ 65535
  · rw [e, if_pos h2, show c + (65535 - c) = 65535 from by omega]; rfl
  · rw [if_neg h2] at e
    generalize hq : c / 65536 = q at e
    generalize hr : c % 65536 = r at e
    have hc : c = 65536 * q + r := by omega
    have q0 : 1 ≤ q := by omega
    have q9 : q ≤ 8 := by omega
    have r0 : 0 ≤ r ∧ r ≤ 65535 := by omega
    by_cases h3 : r + q ≤ 65535
    · rw [if_pos h3] at e
      rw [e, hc]
      unfold fold fold1
      rw [if_pos (by omega : (65535 : Int) < 65536 * q + r + (65535 - (r + q)))]
      rw [show (65536 * q + r + (65535 - (r + q))) % 65536 + (65536 * q + r + (65535 - (r + q))) / 65536 = 65535 from by omega]
      rfl
    · rw [if_neg h3] at e
      rw [e, hc]
      unfold fold fold1
      rw [if_pos (by omega : (65535 : Int) < 65536 * q + r + (65535 - (r + q - 65535)))]
      rw [show (65536 * q + r + (65535 - (r + q - 65535))) % 65536 + (65536 * q + r + (65535 - (r + q - 65535))) / 65536 = 65535 from by omega]
      rfl
end Go.Proofs.YtclpnafiiobfhabGreatDoor
namespace Go.Proofs.YtclpnafiiobfhabGreatDoor
open Go.RowKit
set_option linter.unusedVariables false
set_option linter.unusedSimpArgs false

/-- what the class of such a frame asks of what stands behind the head -/
theorem cls_fine (a b p t c : Int) (r : List Int) (hB : Byt (hd34 a b p t (65535 - fold c) ++ r)) (hp : 0 ≤ p ∧ p ≤ 255) (ha : 0 ≤ a ∧ a ≤ 4294967295) (hb : 0 ≤ b ∧ b ≤ 4294967295) (ht : 20 ≤ t ∧ t ≤ 2000)
    (hc : c = 34048 + p + t + (a / 65536 + a % 65536) + (b / 65536 + b % 65536)) (hlen : t ≤ 20 + (r.length : Int)) (hin : inn (ofL (hd34 a b p t (65535 - fold c) ++ r)) t = false) :
    cls (ofL (hd34 a b p t (65535 - fold c) ++ r)) = 0 := by
  have hs : (ofL (hd34 a b p t (65535 - fold c) ++ r)).size = 34 + r.length := by rw [ofL_size]; simp [hd34]; omega
  have n12 : numv (ofL (hd34 a b p t (65535 - fold c) ++ r)) 12 2 = 2048 := by rw [num2L _ hB]; rfl
  have n14 : nth (ofL (hd34 a b p t (65535 - fold c) ++ r)) 14 = 69 := by rw [ofL_nth _ hB]; rfl
  have n16 : numv (ofL (hd34 a b p t (65535 - fold c) ++ r)) 16 2 = t := by
    rw [num2L _ hB]
    show 256 * (t / 256) + t % 256 = t
    omega
  have n20 : numv (ofL (hd34 a b p t (65535 - fold c) ++ r)) 20 2 = 0 := by rw [num2L _ hB]; rfl
  have nf : fold (sumTo (ofL (hd34 a b p t (65535 - fold c) ++ r)) 10) = 65535 := by
    rw [hd_sum a b p t _ r hB, show 34048 + p + t + (65535 - fold c) + (a / 65536 + a % 65536) + (b / 65536 + b % 65536) = c + (65535 - fold c) from by omega]
    exact fold_fix c (by omega) (by omega)
  unfold cls
  rw [hs, n12, n14, n16, n20, nf, hin, if_neg (by omega), if_neg (by simp), if_neg (by omega), if_neg (by simp), if_neg (by simp), if_neg (by omega), if_neg (by simp), if_neg (by simp), if_neg (by simp)]

theorem n26 (a b p t v : Int) (r : List Int) (hB : Byt (hd34 a b p t v ++ r)) (ha : 0 ≤ a ∧ a ≤ 4294967295) : numv (ofL (hd34 a b p t v ++ r)) 26 4 = a := by
  rw [numv_4, num2L _ hB, num2L _ hB]
  show 65536 * (256 * (a / 65536 / 256) + a / 65536 % 256) + (256 * (a % 65536 / 256) + a % 65536 % 256) = a
  omega
theorem n30 (a b p t v : Int) (r : List Int) (hB : Byt (hd34 a b p t v ++ r)) (hb : 0 ≤ b ∧ b ≤ 4294967295) : numv (ofL (hd34 a b p t v ++ r)) 30 4 = b := by
  rw [numv_4, num2L _ hB, num2L _ hB]
  show 65536 * (256 * (b / 65536 / 256) + b / 65536 % 256) + (256 * (b % 65536 / 256) + b % 65536 % 256) = b
  omega
theorem n23 (a b p t v : Int) (r : List Int) (hB : Byt (hd34 a b p t v ++ r)) : nth (ofL (hd34 a b p t v ++ r)) 23 = p := by rw [ofL_nth _ hB]; rfl

theorem parse_tcp (a b t c sp dp f : Int) (q : List Int) (hB : Byt (hd34 a b 6 t (65535 - fold c) ++ (inT sp dp f ++ q))) (ha : 0 ≤ a ∧ a ≤ 4294967295) (hb : 0 ≤ b ∧ b ≤ 4294967295) (hsp : 0 ≤ sp ∧ sp ≤ 65535) (hdp : 0 ≤ dp ∧ dp ≤ 65535) (hf : 0 ≤ f ∧ f ≤ 63) (ht : 40 ≤ t ∧ t ≤ 2000)
    (hc : c = 34048 + 6 + t + (a / 65536 + a % 65536) + (b / 65536 + b % 65536)) (hlen : t ≤ 40 + (q.length : Int)) :
    parsedAs (ofL (hd34 a b 6 t (65535 - fold c) ++ (inT sp dp f ++ q))) = .tuple #[.agg #[.int .u32 a, .int .u32 b, .int .u8 6, .int .u16 sp, .int .u16 dp, .int .u8 f], .int .u8 0] := by
  have m23 := n23 a b 6 t _ _ hB
  have m46 : nth (ofL (hd34 a b 6 t (65535 - fold c) ++ (inT sp dp f ++ q))) 46 = 80 := by rw [ofL_nth _ hB]; rfl
  have m47 : nth (ofL (hd34 a b 6 t (65535 - fold c) ++ (inT sp dp f ++ q))) 47 = f := by rw [ofL_nth _ hB]; rfl
  have m34 : numv (ofL (hd34 a b 6 t (65535 - fold c) ++ (inT sp dp f ++ q))) 34 2 = sp := by
    rw [num2L _ hB]; show 256 * (sp / 256) + sp % 256 = sp; omega
  have m36 : numv (ofL (hd34 a b 6 t (65535 - fold c) ++ (inT sp dp f ++ q))) 36 2 = dp := by
    rw [num2L _ hB]; show 256 * (dp / 256) + dp % 256 = dp; omega
  have hcl := cls_fine a b 6 t c _ hB (by omega) ha hb (by omega) hc (by simp [inT]; omega) (by simp [inn, m23, m46]; omega)
  have m26 := n26 a b 6 t _ _ hB ha
  have m30 := n30 a b 6 t _ _ hB hb
  unfold parsedAs hdr
  rw [hcl]
  simp only [if_true, m23, m26, m30, m34, m36, m47]
  simp
  omega
theorem parse_udp (a b t c sp dp n : Int) (q : List Int) (hB : Byt (hd34 a b 17 t (65535 - fold c) ++ (inU sp dp n ++ q))) (ha : 0 ≤ a ∧ a ≤ 4294967295) (hb : 0 ≤ b ∧ b ≤ 4294967295) (hsp : 0 ≤ sp ∧ sp ≤ 65535) (hdp : 0 ≤ dp ∧ dp ≤ 65535) (ht : t ≤ 2000) (hn : 8 ≤ n) (hnt : n = t - 20)
    (hc : c = 34048 + 17 + t + (a / 65536 + a % 65536) + (b / 65536 + b % 65536)) (hlen : t ≤ 28 + (q.length : Int)) :
    parsedAs (ofL (hd34 a b 17 t (65535 - fold c) ++ (inU sp dp n ++ q))) = .tuple #[.agg #[.int .u32 a, .int .u32 b, .int .u8 17, .int .u16 sp, .int .u16 dp, .int .u8 0], .int .u8 0] := by
  have m23 := n23 a b 17 t _ _ hB
  have m38 : numv (ofL (hd34 a b 17 t (65535 - fold c) ++ (inU sp dp n ++ q))) 38 2 = n := by
    rw [num2L _ hB]; show 256 * (n / 256) + n % 256 = n; omega
  have m34 : numv (ofL (hd34 a b 17 t (65535 - fold c) ++ (inU sp dp n ++ q))) 34 2 = sp := by
    rw [num2L _ hB]; show 256 * (sp / 256) + sp % 256 = sp; omega
  have m36 : numv (ofL (hd34 a b 17 t (65535 - fold c) ++ (inU sp dp n ++ q))) 36 2 = dp := by
    rw [num2L _ hB]; show 256 * (dp / 256) + dp % 256 = dp; omega
  have hcl := cls_fine a b 17 t c _ hB (by omega) ha hb (by omega) hc (by simp [inU]; omega) (by simp [inn, m23, m38]; omega)
  have m26 := n26 a b 17 t _ _ hB ha
  have m30 := n30 a b 17 t _ _ hB hb
  unfold parsedAs hdr
  rw [hcl]
  simp only [if_true, m23, m26, m30, m34, m36]
  simp
theorem parse_icmp (a b t c sp : Int) (q : List Int) (hB : Byt (hd34 a b 1 t (65535 - fold c) ++ (inI sp 8 ++ q))) (ha : 0 ≤ a ∧ a ≤ 4294967295) (hb : 0 ≤ b ∧ b ≤ 4294967295) (hsp : 0 ≤ sp ∧ sp ≤ 65535) (ht : 28 ≤ t ∧ t ≤ 2000)
    (hc : c = 34048 + 1 + t + (a / 65536 + a % 65536) + (b / 65536 + b % 65536)) (hlen : t ≤ 28 + (q.length : Int)) :
    parsedAs (ofL (hd34 a b 1 t (65535 - fold c) ++ (inI sp 8 ++ q))) = .tuple #[.agg #[.int .u32 a, .int .u32 b, .int .u8 1, .int .u16 sp, .int .u16 sp, .int .u8 8], .int .u8 0] := by
  have m23 := n23 a b 1 t _ _ hB
  have m34 : nth (ofL (hd34 a b 1 t (65535 - fold c) ++ (inI sp 8 ++ q))) 34 = 8 := by rw [ofL_nth _ hB]; rfl
  have m38 : numv (ofL (hd34 a b 1 t (65535 - fold c) ++ (inI sp 8 ++ q))) 38 2 = sp := by
    rw [num2L _ hB]; show 256 * (sp / 256) + sp % 256 = sp; omega
  have hcl := cls_fine a b 1 t c _ hB (by omega) ha hb (by omega) hc (by simp [inI]; omega) (by simp [inn, m23]; omega)
  have m26 := n26 a b 1 t _ _ hB ha
  have m30 := n30 a b 1 t _ _ hB hb
  unfold parsedAs hdr
  rw [hcl]
  simp only [if_true, m23, m26, m30, m34, m38]
  simp
theorem parse_other (a b t c : Int) (q : List Int) (hB : Byt (hd34 a b 89 t (65535 - fold c) ++ q)) (ha : 0 ≤ a ∧ a ≤ 4294967295) (hb : 0 ≤ b ∧ b ≤ 4294967295) (ht : 20 ≤ t ∧ t ≤ 2000)
    (hc : c = 34048 + 89 + t + (a / 65536 + a % 65536) + (b / 65536 + b % 65536)) (hlen : t ≤ 20 + (q.length : Int)) :
    parsedAs (ofL (hd34 a b 89 t (65535 - fold c) ++ q)) = .tuple #[.agg #[.int .u32 a, .int .u32 b, .int .u8 89, .int .u16 0, .int .u16 0, .int .u8 0], .int .u8 0] := by
  have m23 := n23 a b 89 t _ _ hB
  have hcl := cls_fine a b 89 t c _ hB (by omega) ha hb (by omega) hc hlen (by simp [inn, m23])
  have m26 := n26 a b 89 t _ _ hB ha
  have m30 := n30 a b 89 t _ _ hB hb
  unfold parsedAs hdr
  rw [hcl]
  simp only [if_true, m23, m26, m30]
  simp
end Go.Proofs.YtclpnafiiobfhabGreatDoor
namespace Go.Proofs.YtclpnafiiobfhabGreatDoor
open Go.RowKit
set_option linter.unusedVariables false
set_option linter.unusedSimpArgs false

set_option maxHeartbeats 1600000 in
theorem kheader_0 (a b c d : Int) (w : World) (hc : -9223372036854775808 ≤ c ∧ c ≤ 9223372036854775807) (hd : -9223372036854775808 ≤ d ∧ d ≤ 9223372036854775807) (hk : pk d 4 = 0) :
    Calls Tryz.prog 9 #[.int .i64 a, .int .i64 b, .int .i64 c, .int .i64 d] w fun e w' => (∃ x0 x1 x2 x3 x4 x5 : Int, e = .returned (.agg #[.int .u32 x0, .int .u32 x1, .int .u8 x2, .int .u16 x3, .int .u16 x4, .int .u8 x5]) ∧ Ranges x0 x1 x2 x3 x4 x5 ∧ Hdr4 x2 x3 x4 x5) ∧ Below w.heap.size w w' := by
  have HK : Hid (pk d 4 = 0) := hk
  have hb := pk_bd (c / 4294967296) 64 (by omega)
  have hcb : -9223372036854775808 ≤ c / 4294967296 ∧ c / 4294967296 ≤ 9223372036854775807 := by omega
  clear hk
  go_enter Tryz.func9, Tryz.ntmps9
  go_wp2_with fail
  refine (pick_any d 4 _ hd (by omega)).mono ?_
  rintro e w1 ⟨rfl, rfl⟩
  rw [HK.out]
  go_wp2_with fail
  refine (pick_any (c / 4294967296) 64 _ hcb (by omega)).mono ?_
  rintro e w1 ⟨rfl, rfl⟩
  go_wp2
  refine bodyPost_ret (v := .agg #[.int .u32 (a % 4294967296), .int .u32 (b % 4294967296), .int .u8 6, .int .u16 (IntKind.u16.wrap c), .int .u16 (IntKind.u16.wrap (c / 65536)), .int .u8 (pk (c / 4294967296) 64)]) (by simp [results, Tryz.results9, go_sem]) rfl ⟨⟨_, _, _, _, _, _, rfl, ⟨by omega, by omega, by omega, by first | omega | (rw [IntKind.wrap_u16]; omega), by first | omega | (rw [IntKind.wrap_u16]; omega), by omega⟩, .inl ⟨rfl, by omega⟩⟩, ?_⟩
  exact ((Below.refl _ _).alloc (Nat.le_refl _) _).alloc (by simp) _
set_option maxHeartbeats 1600000 in
theorem kheader_1 (a b c d : Int) (w : World) (hc : -9223372036854775808 ≤ c ∧ c ≤ 9223372036854775807) (hd : -9223372036854775808 ≤ d ∧ d ≤ 9223372036854775807) (hk : pk d 4 = 1) :
    Calls Tryz.prog 9 #[.int .i64 a, .int .i64 b, .int .i64 c, .int .i64 d] w fun e w' => (∃ x0 x1 x2 x3 x4 x5 : Int, e = .returned (.agg #[.int .u32 x0, .int .u32 x1, .int .u8 x2, .int .u16 x3, .int .u16 x4, .int .u8 x5]) ∧ Ranges x0 x1 x2 x3 x4 x5 ∧ Hdr4 x2 x3 x4 x5) ∧ Below w.heap.size w w' := by
  have HK : Hid (pk d 4 = 1) := hk
  have hb := pk_bd (c / 4294967296) 64 (by omega)
  have hcb : -9223372036854775808 ≤ c / 4294967296 ∧ c / 4294967296 ≤ 9223372036854775807 := by omega
  clear hk
  go_enter Tryz.func9, Tryz.ntmps9
  go_wp2_with fail
  refine (pick_any d 4 _ hd (by omega)).mono ?_
  rintro e w1 ⟨rfl, rfl⟩
  rw [HK.out]
  go_wp2
  refine bodyPost_ret (v := .agg #[.int .u32 (a % 4294967296), .int .u32 (b % 4294967296), .int .u8 17, .int .u16 (IntKind.u16.wrap c), .int .u16 (IntKind.u16.wrap (c / 65536)), .int .u8 0]) (by simp [results, Tryz.results9, go_sem]) rfl ⟨⟨_, _, _, _, _, _, rfl, ⟨by omega, by omega, by omega, by first | omega | (rw [IntKind.wrap_u16]; omega), by first | omega | (rw [IntKind.wrap_u16]; omega), by omega⟩, .inr (.inl ⟨rfl, rfl⟩)⟩, ?_⟩
  exact ((Below.refl _ _).alloc (Nat.le_refl _) _).alloc (by simp) _
set_option maxHeartbeats 1600000 in
theorem kheader_2 (a b c d : Int) (w : World) (hc : -9223372036854775808 ≤ c ∧ c ≤ 9223372036854775807) (hd : -9223372036854775808 ≤ d ∧ d ≤ 9223372036854775807) (hk : pk d 4 = 2) :
    Calls Tryz.prog 9 #[.int .i64 a, .int .i64 b, .int .i64 c, .int .i64 d] w fun e w' => (∃ x0 x1 x2 x3 x4 x5 : Int, e = .returned (.agg #[.int .u32 x0, .int .u32 x1, .int .u8 x2, .int .u16 x3, .int .u16 x4, .int .u8 x5]) ∧ Ranges x0 x1 x2 x3 x4 x5 ∧ Hdr4 x2 x3 x4 x5) ∧ Below w.heap.size w w' := by
  have HK : Hid (pk d 4 = 2) := hk
  have hb := pk_bd (c / 4294967296) 64 (by omega)
  have hcb : -9223372036854775808 ≤ c / 4294967296 ∧ c / 4294967296 ≤ 9223372036854775807 := by omega
  clear hk
  go_enter Tryz.func9, Tryz.ntmps9
  go_wp2_with fail
  refine (pick_any d 4 _ hd (by omega)).mono ?_
  rintro e w1 ⟨rfl, rfl⟩
  rw [HK.out]
  go_wp2
  refine bodyPost_ret (v := .agg #[.int .u32 (a % 4294967296), .int .u32 (b % 4294967296), .int .u8 1, .int .u16 (IntKind.u16.wrap c), .int .u16 (IntKind.u16.wrap c), .int .u8 8]) (by simp [results, Tryz.results9, go_sem]) rfl ⟨⟨_, _, _, _, _, _, rfl, ⟨by omega, by omega, by omega, by first | omega | (rw [IntKind.wrap_u16]; omega), by first | omega | (rw [IntKind.wrap_u16]; omega), by omega⟩, .inr (.inr (.inl ⟨rfl, rfl, rfl⟩))⟩, ?_⟩
  exact ((Below.refl _ _).alloc (Nat.le_refl _) _).alloc (by simp) _
set_option maxHeartbeats 1600000 in
theorem kheader_3 (a b c d : Int) (w : World) (hc : -9223372036854775808 ≤ c ∧ c ≤ 9223372036854775807) (hd : -9223372036854775808 ≤ d ∧ d ≤ 9223372036854775807) (hk : pk d 4 = 3) :
    Calls Tryz.prog 9 #[.int .i64 a, .int .i64 b, .int .i64 c, .int .i64 d] w fun e w' => (∃ x0 x1 x2 x3 x4 x5 : Int, e = .returned (.agg #[.int .u32 x0, .int .u32 x1, .int .u8 x2, .int .u16 x3, .int .u16 x4, .int .u8 x5]) ∧ Ranges x0 x1 x2 x3 x4 x5 ∧ Hdr4 x2 x3 x4 x5) ∧ Below w.heap.size w w' := by
  have HK : Hid (pk d 4 = 3) := hk
  have hb := pk_bd (c / 4294967296) 64 (by omega)
  have hcb : -9223372036854775808 ≤ c / 4294967296 ∧ c / 4294967296 ≤ 9223372036854775807 := by omega
  clear hk
  go_enter Tryz.func9, Tryz.ntmps9
  go_wp2_with fail
  refine (pick_any d 4 _ hd (by omega)).mono ?_
  rintro e w1 ⟨rfl, rfl⟩
  rw [HK.out]
  go_wp2
  refine bodyPost_ret (v := .agg #[.int .u32 (a % 4294967296), .int .u32 (b % 4294967296), .int .u8 89, .int .u16 0, .int .u16 0, .int .u8 0]) (by simp [results, Tryz.results9, go_sem]) rfl ⟨⟨_, _, _, _, _, _, rfl, ⟨by omega, by omega, by omega, by first | omega | (rw [IntKind.wrap_u16]; omega), by first | omega | (rw [IntKind.wrap_u16]; omega), by omega⟩, .inr (.inr (.inr ⟨rfl, rfl, rfl, rfl⟩))⟩, ?_⟩
  exact ((Below.refl _ _).alloc (Nat.le_refl _) _).alloc (by simp) _
theorem kheader_any (a b c d : Int) (w : World) (hc : -9223372036854775808 ≤ c ∧ c ≤ 9223372036854775807) (hd : -9223372036854775808 ≤ d ∧ d ≤ 9223372036854775807) :
    Calls Tryz.prog 9 #[.int .i64 a, .int .i64 b, .int .i64 c, .int .i64 d] w fun e w' => (∃ x0 x1 x2 x3 x4 x5 : Int, e = .returned (.agg #[.int .u32 x0, .int .u32 x1, .int .u8 x2, .int .u16 x3, .int .u16 x4, .int .u8 x5]) ∧ Ranges x0 x1 x2 x3 x4 x5 ∧ Hdr4 x2 x3 x4 x5) ∧ Below w.heap.size w w' := by
  have h := pk_bd d 4 (by omega)
  by_cases h0 : pk d 4 = 0
  · exact kheader_0 a b c d w hc hd h0
  by_cases h1 : pk d 4 = 1
  · exact kheader_1 a b c d w hc hd h1
  by_cases h2 : pk d 4 = 2
  · exact kheader_2 a b c d w hc hd h2
  · exact kheader_3 a b c d w hc hd (by omega)

theorem take_set2 (l : List Int) (K i : Nat) (n : Int) : (set2 l i n).take K = set2 (l.take K) i n := by simp [set2, List.take_set]
theorem take_set4 (l : List Int) (K i : Nat) (n : Int) : (set4 l i n).take K = set4 (l.take K) i n := by simp [set4, take_set2]
theorem take_zeros (K m : Nat) : (List.replicate (K + m) (0 : Int)).take K = List.replicate K 0 := by simp [List.take_replicate]
theorem frameI_form (a b p sp dp f : Int) (K : Nat) (pl r : List Int) (hr : Ranges a b p sp dp f) (hm : pl.length ≤ 1000) (hY : Byt pl) (hK : (K : Int) = 34 + isz p) (t : Int) (ht : t = ((K + pl.length : Nat) : Int) - 14)
    (e : headOf ((innerOf (List.replicate (K + pl.length) 0) p sp dp f pl.length).take K ++ pl) t a b p = hd34 a b p t 0 ++ r) :
    frameI a b p sp dp f K pl = hd34 a b p t (65535 - fold (34048 + p + t + (a / 65536 + a % 65536) + (b / 65536 + b % 65536))) ++ r := by
  have hz := isz_bd p
  have hB : Byt ((innerOf (List.replicate (K + pl.length) 0) p sp dp f pl.length).take K ++ pl) := Byt.append (fun x hx => innerOf_byt (Byt.zeros _) p sp dp f pl.length hr.sp hr.dp hr.f (by omega) x (List.mem_of_mem_take hx)) hY
  have hB2 : Byt (hd34 a b p t 0 ++ r) := by rw [← e]; exact headOf_byt hB _ _ _ _ (by omega) hr.a hr.b hr.p
  unfold frameI headed
  rw [← ht, e, hd_sum a b p t 0 r hB2, Int.add_zero]
  generalize 65535 - fold (34048 + p + t + (a / 65536 + a % 65536) + (b / 65536 + b % 65536)) = v
  rfl

theorem form_tcp (a b sp dp f t : Int) (m : Nat) (pl : List Int) :
    headOf ((((set2 (set2 (List.replicate (54 + m) 0) 34 sp) 36 dp).set 46 80).set 47 f).take 54 ++ pl) t a b 6 = hd34 a b 6 t 0 ++ (inT sp dp f ++ pl) := by
  simp only [List.take_set, take_set2, take_set4, take_zeros]
  kernel_rfl
theorem form_udp (a b sp dp n t : Int) (m : Nat) (pl : List Int) :
    headOf ((set2 (set2 (set2 (List.replicate (42 + m) 0) 34 sp) 36 dp) 38 n).take 42 ++ pl) t a b 17 = hd34 a b 17 t 0 ++ (inU sp dp n ++ pl) := by
  simp only [List.take_set, take_set2, take_set4, take_zeros]
  kernel_rfl
theorem form_icmp (a b sp f t : Int) (m : Nat) (pl : List Int) :
    headOf ((set2 ((List.replicate (42 + m) 0).set 34 f) 38 sp).take 42 ++ pl) t a b 1 = hd34 a b 1 t 0 ++ (inI sp f ++ pl) := by
  simp only [List.take_set, take_set2, take_set4, take_zeros]
  kernel_rfl
theorem form_other (a b t : Int) (m : Nat) (pl : List Int) :
    headOf ((List.replicate (34 + m) 0).take 34 ++ pl) t a b 89 = hd34 a b 89 t 0 ++ pl := by
  simp only [take_zeros]
  kernel_rfl

/-- what is built is taken apart as it was, whatever stands behind -/
theorem frame_parse (a b p sp dp f : Int) (K : Nat) (pl q : List Int) (hr : Ranges a b p sp dp f) (h4 : Hdr4 p sp dp f) (hm : pl.length ≤ 1000) (hY : Byt pl) (hQ : Byt q) (hK : (K : Int) = 34 + isz p) :
    parsedAs (ofL (frameI a b p sp dp f K pl ++ q)) = .tuple #[.agg #[.int .u32 a, .int .u32 b, .int .u8 p, .int .u16 sp, .int .u16 dp, .int .u8 f], .int .u8 0] := by
  have hB : Byt (frameI a b p sp dp f K pl ++ q) := (frame_byt a b p sp dp f K pl hr hm hY hK).append hQ
  rcases h4 with ⟨rfl, h⟩ | ⟨rfl, rfl⟩ | ⟨rfl, rfl, rfl⟩ | ⟨rfl, rfl, rfl, rfl⟩
  · obtain rfl : K = 54 := by simp [isz] at hK; omega
    have e := frameI_form a b 6 sp dp f 54 pl (inT sp dp f ++ pl) hr hm hY hK (40 + (pl.length : Int)) (by omega) (by rw [show innerOf (List.replicate (54 + pl.length) 0) 6 sp dp f pl.length = (((set2 (set2 (List.replicate (54 + pl.length) 0) 34 sp) 36 dp).set 46 80).set 47 f) from by simp [innerOf]]; exact form_tcp a b sp dp f _ _ pl)
    rw [e] at hB ⊢
    rw [List.append_assoc, List.append_assoc] at hB ⊢
    exact parse_tcp a b _ _ sp dp f (pl ++ q) hB hr.a hr.b hr.sp hr.dp (by have := hr.f; omega) (by omega) rfl (by simp; omega)
  · obtain rfl : K = 42 := by simp [isz] at hK; omega
    have e := frameI_form a b 17 sp dp 0 42 pl (inU sp dp (8 + pl.length) ++ pl) hr hm hY hK (28 + (pl.length : Int)) (by omega) (by rw [show innerOf (List.replicate (42 + pl.length) 0) 17 sp dp 0 pl.length = set2 (set2 (set2 (List.replicate (42 + pl.length) 0) 34 sp) 36 dp) 38 (8 + pl.length) from by simp [innerOf]]; exact form_udp a b sp dp _ _ _ pl)
    rw [e] at hB ⊢
    rw [List.append_assoc, List.append_assoc] at hB ⊢
    exact parse_udp a b _ _ sp dp _ (pl ++ q) hB hr.a hr.b hr.sp hr.dp (by omega) (by omega) (by omega) rfl (by simp; omega)
  · obtain rfl : K = 42 := by simp [isz] at hK; omega
    have e := frameI_form a b 1 sp sp 8 42 pl (inI sp 8 ++ pl) hr hm hY hK (28 + (pl.length : Int)) (by omega) (by rw [show innerOf (List.replicate (42 + pl.length) 0) 1 sp sp 8 pl.length = set2 ((List.replicate (42 + pl.length) 0).set 34 8) 38 sp from by simp [innerOf]]; exact form_icmp a b sp 8 _ _ pl)
    rw [e] at hB ⊢
    rw [List.append_assoc, List.append_assoc] at hB ⊢
    exact parse_icmp a b _ _ sp (pl ++ q) hB hr.a hr.b hr.sp (by omega) rfl (by simp; omega)
  · obtain rfl : K = 34 := by simp [isz] at hK; omega
    have e := frameI_form a b 89 0 0 0 34 pl pl hr hm hY hK (20 + (pl.length : Int)) (by omega) (by rw [show innerOf (List.replicate (34 + pl.length) 0) 89 0 0 0 pl.length = List.replicate (34 + pl.length) 0 from by simp [innerOf]]; exact form_other a b _ _ pl)
    rw [e] at hB ⊢
    rw [List.append_assoc] at hB ⊢
    exact parse_other a b _ _ (pl ++ q) hB hr.a hr.b (by omega) rfl (by simp; omega)
end Go.Proofs.YtclpnafiiobfhabGreatDoor

import Derived.Test.YtclpnafiiobfhaaFrFits
namespace Go.Proofs.Ytclpnafiiobfhaa
open Go.RowKit
set_option linter.unusedVariables false
set_option linter.unusedSimpArgs false

set_option maxHeartbeats 1600000 in
theorem innerFits_any (s : ByteArray) (b off cap : Nat) (w : World) (hs : s.size ≤ maxLen) (hr : Row w b off s) (h : 34 ≤ s.size) (ht0 : 20 ≤ numv s 16 2) (ht : numv s 16 2 ≤ (s.size : Int) - 14) :
    Calls Try.prog 19 #[.slice (some ⟨b, off, none⟩) s.size cap] w fun e w' => e = .returned (.bool (!inn s (numv s 16 2))) ∧ ∃ n, w' = w.drewN n := by
  have hs' := hs
  unfold maxLen at hs
  have bt := numv_bd2 s 16
  have c23 := hr 23 (by omega)
  have b23 := nth_bd s 23
  have l23 : (23 : Int) < (s.size : Int) := by omega

  by_cases p6 : nth s 23 = 6
  · have q6 : (nth s 23 == 6) = true := by simp [p6]
    have r : inn s (numv s 16 2) = (decide (numv s 16 2 < 40) || (decide (nth s 46 / 16 < 5) || decide (numv s 16 2 - 20 < 4 * (nth s 46 / 16)))) := by simp [inn, p6]
    rw [r]; clear r p6
    go_enter Try.func19, Try.ntmps19
    go_wp2_with (first | (go_at_call 16; refine (half_any s b off cap _ _ hs' (by exact hr) (by omega) (by omega)).mono ?_; rintro e w' ⟨rfl, n1, rfl⟩; simp only [tn12, tn16, tn20]) | (go_at_call 22; refine (tcpFits_any s b off cap _ _ hs' (by exact hr) (by omega) (by omega) (by omega)).mono ?_; rintro e w' ⟨rfl, n2, rfl⟩))
    go_ret
    exact ⟨ret_bool (by rw [Bool.eq_iff_iff]; simp; omega), _, rfl⟩
  · have q6 : (nth s 23 == 6) = false := by simp [p6]
    by_cases p17 : nth s 23 = 17
    · have q17 : (nth s 23 == 17) = true := by simp [p17]
      have r : inn s (numv s 16 2) = (decide (numv s 16 2 < 28) || (decide (numv s 38 2 < 8) || decide (numv s 16 2 - 20 < numv s 38 2))) := by simp [inn, p17]
      rw [r]; clear r p6 p17
      go_enter Try.func19, Try.ntmps19
      go_wp2_with (first | (go_at_call 16; refine (half_any s b off cap _ _ hs' (by exact hr) (by omega) (by omega)).mono ?_; rintro e w' ⟨rfl, n1, rfl⟩; simp only [tn12, tn16, tn20]) | (go_at_call 23; refine (udpFits_any s b off cap _ _ hs' (by exact hr) (by omega) (by omega) (by omega)).mono ?_; rintro e w' ⟨rfl, n2, rfl⟩))
      go_ret
      exact ⟨ret_bool (by rw [Bool.eq_iff_iff]; simp; omega), _, rfl⟩
    · have q17 : (nth s 23 == 17) = false := by simp [p17]
      by_cases p1 : nth s 23 = 1
      · have q1 : (nth s 23 == 1) = true := by simp [p1]
        have r : inn s (numv s 16 2) = decide (numv s 16 2 < 28) := by simp [inn, p1]
        rw [r]; clear r p6 p17 p1
        go_enter Try.func19, Try.ntmps19
        go_wp2_with (first | (go_at_call 16; refine (half_any s b off cap _ _ hs' (by exact hr) (by omega) (by omega)).mono ?_; rintro e w' ⟨rfl, n1, rfl⟩; simp only [tn12, tn16, tn20]))
        go_ret
        exact ⟨ret_bool (by rw [Bool.eq_iff_iff]; simp; omega), _, rfl⟩
      · have q1 : (nth s 23 == 1) = false := by simp [p1]
        have r : inn s (numv s 16 2) = false := by simp [inn, p1, p6, p17]
        rw [r]; clear r p6 p17 p1
        go_enter Try.func19, Try.ntmps19
        go_wp2_with (first | (go_at_call 16; refine (half_any s b off cap _ _ hs' (by exact hr) (by omega) (by omega)).mono ?_; rintro e w' ⟨rfl, n1, rfl⟩; simp only [tn12, tn16, tn20]))
        go_ret
        exact ⟨rfl, _, rfl⟩

set_option maxHeartbeats 1600000 in
theorem classOf_0 (s : ByteArray) (b off cap : Nat) (w : World) (hs : s.size ≤ maxLen) (hr : Row w b off s) (c0 : s.size < 14) :
    Calls Try.prog 12 #[.slice (some ⟨b, off, none⟩) s.size cap] w fun e w' => e = .returned (.int .u8 1) ∧ ∃ n, w' = w.drewN n := by
  have hs' := hs
  unfold maxLen at hs
  go_enter Try.func12, Try.ntmps12
  go_wp2
  go_ret
  exact ⟨rfl, 0, rfl⟩

set_option maxHeartbeats 1600000 in
theorem classOf_1 (s : ByteArray) (b off cap : Nat) (w : World) (hs : s.size ≤ maxLen) (hr : Row w b off s) (c0 : 14 ≤ s.size) (d1 : (numv s 12 2 != 2048) = true) :
    Calls Try.prog 12 #[.slice (some ⟨b, off, none⟩) s.size cap] w fun e w' => e = .returned (.int .u8 2) ∧ ∃ n, w' = w.drewN n := by
  have hs' := hs
  unfold maxLen at hs
  have b12 := numv_bd2 s 12
  go_enter Try.func12, Try.ntmps12
  go_wp2_with (first | (go_at_call 16; refine (half_any s b off cap _ _ hs' (by exact hr) (by omega) (by omega)).mono ?_; rintro e w' ⟨rfl, n1, rfl⟩; simp only [tn12, tn16, tn20]))
  go_ret
  exact ⟨rfl, _, rfl⟩

set_option maxHeartbeats 1600000 in
theorem classOf_2 (s : ByteArray) (b off cap : Nat) (w : World) (hs : s.size ≤ maxLen) (hr : Row w b off s) (c0 : 14 ≤ s.size) (d1 : (numv s 12 2 != 2048) = false) (c2 : s.size < 34) :
    Calls Try.prog 12 #[.slice (some ⟨b, off, none⟩) s.size cap] w fun e w' => e = .returned (.int .u8 3) ∧ ∃ n, w' = w.drewN n := by
  have hs' := hs
  unfold maxLen at hs
  have b12 := numv_bd2 s 12
  go_enter Try.func12, Try.ntmps12
  go_wp2_with (first | (go_at_call 16; refine (half_any s b off cap _ _ hs' (by exact hr) (by omega) (by omega)).mono ?_; rintro e w' ⟨rfl, n1, rfl⟩; simp only [tn12, tn16, tn20]))
  go_ret
  exact ⟨rfl, _, rfl⟩

set_option maxHeartbeats 1600000 in
theorem classOf_3 (s : ByteArray) (b off cap : Nat) (w : World) (hs : s.size ≤ maxLen) (hr : Row w b off s) (c0 : 14 ≤ s.size) (d1 : (numv s 12 2 != 2048) = false) (c2 : 34 ≤ s.size) (d3 : (nth s 14 / 16 != 4) = true) :
    Calls Try.prog 12 #[.slice (some ⟨b, off, none⟩) s.size cap] w fun e w' => e = .returned (.int .u8 4) ∧ ∃ n, w' = w.drewN n := by
  have hs' := hs
  unfold maxLen at hs
  have b12 := numv_bd2 s 12
  have c14 := hr 14 (by omega)
  have b14 := nth_bd s 14
  have l14 : (14 : Int) < (s.size : Int) := by omega
  go_enter Try.func12, Try.ntmps12
  go_wp2_with (first | (go_at_call 16; refine (half_any s b off cap _ _ hs' (by exact hr) (by omega) (by omega)).mono ?_; rintro e w' ⟨rfl, n1, rfl⟩; simp only [tn12, tn16, tn20]))
  go_ret
  exact ⟨rfl, _, rfl⟩

set_option maxHeartbeats 1600000 in
theorem classOf_4 (s : ByteArray) (b off cap : Nat) (w : World) (hs : s.size ≤ maxLen) (hr : Row w b off s) (c0 : 14 ≤ s.size) (d1 : (numv s 12 2 != 2048) = false) (c2 : 34 ≤ s.size) (d3 : (nth s 14 / 16 != 4) = false) (d4 : (nth s 14 % 16 != 5) = true) :
    Calls Try.prog 12 #[.slice (some ⟨b, off, none⟩) s.size cap] w fun e w' => e = .returned (.int .u8 5) ∧ ∃ n, w' = w.drewN n := by
  have hs' := hs
  unfold maxLen at hs
  have b12 := numv_bd2 s 12
  have c14 := hr 14 (by omega)
  have b14 := nth_bd s 14
  have l14 : (14 : Int) < (s.size : Int) := by omega
  have a14 := and15 (nth s 14) b14
  go_enter Try.func12, Try.ntmps12
  go_wp2_with (first | (go_at_call 16; refine (half_any s b off cap _ _ hs' (by exact hr) (by omega) (by omega)).mono ?_; rintro e w' ⟨rfl, n1, rfl⟩; simp only [tn12, tn16, tn20]))
  go_ret
  exact ⟨rfl, _, rfl⟩

set_option maxHeartbeats 1600000 in
theorem classOf_5 (s : ByteArray) (b off cap : Nat) (w : World) (hs : s.size ≤ maxLen) (hr : Row w b off s) (c0 : 14 ≤ s.size) (d1 : (numv s 12 2 != 2048) = false) (c2 : 34 ≤ s.size) (d3 : (nth s 14 / 16 != 4) = false) (d4 : (nth s 14 % 16 != 5) = false) (c5 : numv s 16 2 < 20 ∨ (s.size : Int) - 14 < numv s 16 2) :
    Calls Try.prog 12 #[.slice (some ⟨b, off, none⟩) s.size cap] w fun e w' => e = .returned (.int .u8 6) ∧ ∃ n, w' = w.drewN n := by
  have hs' := hs
  unfold maxLen at hs
  have b12 := numv_bd2 s 12
  have c14 := hr 14 (by omega)
  have b14 := nth_bd s 14
  have l14 : (14 : Int) < (s.size : Int) := by omega
  have a14 := and15 (nth s 14) b14
  have b16 := numv_bd2 s 16
  have T : (decide (20 ≤ numv s 16 2) && decide (numv s 16 2 ≤ (s.size : Int) - 14)) = false := by rw [Bool.eq_iff_iff]; simp; omega
  clear c5
  go_enter Try.func12, Try.ntmps12
  go_wp2_with (first | (go_at_call 16; refine (half_any s b off cap _ _ hs' (by exact hr) (by omega) (by omega)).mono ?_; rintro e w' ⟨rfl, n1, rfl⟩; simp only [tn12, tn16, tn20]) | (go_at_call 17; refine (totalFits_any s b off cap _ hs' (by exact hr) (by omega)).mono ?_; rintro e w' ⟨rfl, n2, rfl⟩; rw [T]))
  go_ret
  exact ⟨rfl, _, rfl⟩

set_option maxHeartbeats 1600000 in
theorem classOf_6 (s : ByteArray) (b off cap : Nat) (w : World) (hs : s.size ≤ maxLen) (hr : Row w b off s) (c0 : 14 ≤ s.size) (d1 : (numv s 12 2 != 2048) = false) (c2 : 34 ≤ s.size) (d3 : (nth s 14 / 16 != 4) = false) (d4 : (nth s 14 % 16 != 5) = false) (c5 : 20 ≤ numv s 16 2 ∧ numv s 16 2 ≤ (s.size : Int) - 14) (d7 : (fold (sumTo s 10) != 65535) = true) :
    Calls Try.prog 12 #[.slice (some ⟨b, off, none⟩) s.size cap] w fun e w' => e = .returned (.int .u8 7) ∧ ∃ n, w' = w.drewN n := by
  have hs' := hs
  unfold maxLen at hs
  have b12 := numv_bd2 s 12
  have c14 := hr 14 (by omega)
  have b14 := nth_bd s 14
  have l14 : (14 : Int) < (s.size : Int) := by omega
  have a14 := and15 (nth s 14) b14
  have b16 := numv_bd2 s 16
  have bf := fold_bd s
  have T : (decide (20 ≤ numv s 16 2) && decide (numv s 16 2 ≤ (s.size : Int) - 14)) = true := by rw [Bool.eq_iff_iff]; simp; omega
  go_enter Try.func12, Try.ntmps12
  go_wp2_with (first | (go_at_call 16; refine (half_any s b off cap _ _ hs' (by exact hr) (by omega) (by omega)).mono ?_; rintro e w' ⟨rfl, n1, rfl⟩; simp only [tn12, tn16, tn20]) | (go_at_call 17; refine (totalFits_any s b off cap _ hs' (by exact hr) (by omega)).mono ?_; rintro e w' ⟨rfl, n2, rfl⟩; rw [T]) | (go_at_call 18; refine (headSum_any s b off cap _ hs' (by exact hr) (by omega)).mono ?_; rintro e w' ⟨rfl, n3, rfl⟩))
  go_ret
  exact ⟨rfl, _, rfl⟩

set_option maxHeartbeats 1600000 in
theorem classOf_7 (s : ByteArray) (b off cap : Nat) (w : World) (hs : s.size ≤ maxLen) (hr : Row w b off s) (c0 : 14 ≤ s.size) (d1 : (numv s 12 2 != 2048) = false) (c2 : 34 ≤ s.size) (d3 : (nth s 14 / 16 != 4) = false) (d4 : (nth s 14 % 16 != 5) = false) (c5 : 20 ≤ numv s 16 2 ∧ numv s 16 2 ≤ (s.size : Int) - 14) (d7 : (fold (sumTo s 10) != 65535) = false) (d8 : (numv s 20 2 % 16384 != 0) = true) :
    Calls Try.prog 12 #[.slice (some ⟨b, off, none⟩) s.size cap] w fun e w' => e = .returned (.int .u8 8) ∧ ∃ n, w' = w.drewN n := by
  have hs' := hs
  unfold maxLen at hs
  have b12 := numv_bd2 s 12
  have c14 := hr 14 (by omega)
  have b14 := nth_bd s 14
  have l14 : (14 : Int) < (s.size : Int) := by omega
  have a14 := and15 (nth s 14) b14
  have b16 := numv_bd2 s 16
  have bf := fold_bd s
  have b20 := numv_bd2 s 20
  have a20 := and14 (numv s 20 2) b20
  have T : (decide (20 ≤ numv s 16 2) && decide (numv s 16 2 ≤ (s.size : Int) - 14)) = true := by rw [Bool.eq_iff_iff]; simp; omega
  go_enter Try.func12, Try.ntmps12
  go_wp2_with (first | (go_at_call 16; refine (half_any s b off cap _ _ hs' (by exact hr) (by omega) (by omega)).mono ?_; rintro e w' ⟨rfl, n1, rfl⟩; simp only [tn12, tn16, tn20]) | (go_at_call 17; refine (totalFits_any s b off cap _ hs' (by exact hr) (by omega)).mono ?_; rintro e w' ⟨rfl, n2, rfl⟩; rw [T]) | (go_at_call 18; refine (headSum_any s b off cap _ hs' (by exact hr) (by omega)).mono ?_; rintro e w' ⟨rfl, n3, rfl⟩))
  go_ret
  exact ⟨rfl, _, rfl⟩

set_option maxHeartbeats 1600000 in
theorem classOf_8 (s : ByteArray) (b off cap : Nat) (w : World) (hs : s.size ≤ maxLen) (hr : Row w b off s) (c0 : 14 ≤ s.size) (d1 : (numv s 12 2 != 2048) = false) (c2 : 34 ≤ s.size) (d3 : (nth s 14 / 16 != 4) = false) (d4 : (nth s 14 % 16 != 5) = false) (c5 : 20 ≤ numv s 16 2 ∧ numv s 16 2 ≤ (s.size : Int) - 14) (d7 : (fold (sumTo s 10) != 65535) = false) (d8 : (numv s 20 2 % 16384 != 0) = false) (d9 : inn s (numv s 16 2) = true) :
    Calls Try.prog 12 #[.slice (some ⟨b, off, none⟩) s.size cap] w fun e w' => e = .returned (.int .u8 9) ∧ ∃ n, w' = w.drewN n := by
  have hs' := hs
  unfold maxLen at hs
  have b12 := numv_bd2 s 12
  have c14 := hr 14 (by omega)
  have b14 := nth_bd s 14
  have l14 : (14 : Int) < (s.size : Int) := by omega
  have a14 := and15 (nth s 14) b14
  have b16 := numv_bd2 s 16
  have bf := fold_bd s
  have b20 := numv_bd2 s 20
  have a20 := and14 (numv s 20 2) b20
  have T : (decide (20 ≤ numv s 16 2) && decide (numv s 16 2 ≤ (s.size : Int) - 14)) = true := by rw [Bool.eq_iff_iff]; simp; omega
  have II : (!inn s (numv s 16 2)) = false := by rw [d9]; rfl
  clear d9
  go_enter Try.func12, Try.ntmps12
  go_wp2_with (first | (go_at_call 16; refine (half_any s b off cap _ _ hs' (by exact hr) (by omega) (by omega)).mono ?_; rintro e w' ⟨rfl, n1, rfl⟩; simp only [tn12, tn16, tn20]) | (go_at_call 17; refine (totalFits_any s b off cap _ hs' (by exact hr) (by omega)).mono ?_; rintro e w' ⟨rfl, n2, rfl⟩; rw [T]) | (go_at_call 18; refine (headSum_any s b off cap _ hs' (by exact hr) (by omega)).mono ?_; rintro e w' ⟨rfl, n3, rfl⟩) | (go_at_call 19; refine (innerFits_any s b off cap _ hs' (by exact hr) (by omega) (by omega) (by omega)).mono ?_; rintro e w' ⟨rfl, n4, rfl⟩; rw [II]))
  go_ret
  exact ⟨rfl, _, rfl⟩

set_option maxHeartbeats 1600000 in
theorem classOf_9 (s : ByteArray) (b off cap : Nat) (w : World) (hs : s.size ≤ maxLen) (hr : Row w b off s) (c0 : 14 ≤ s.size) (d1 : (numv s 12 2 != 2048) = false) (c2 : 34 ≤ s.size) (d3 : (nth s 14 / 16 != 4) = false) (d4 : (nth s 14 % 16 != 5) = false) (c5 : 20 ≤ numv s 16 2 ∧ numv s 16 2 ≤ (s.size : Int) - 14) (d7 : (fold (sumTo s 10) != 65535) = false) (d8 : (numv s 20 2 % 16384 != 0) = false) (d9 : inn s (numv s 16 2) = false) :
    Calls Try.prog 12 #[.slice (some ⟨b, off, none⟩) s.size cap] w fun e w' => e = .returned (.int .u8 0) ∧ ∃ n, w' = w.drewN n := by
  have hs' := hs
  unfold maxLen at hs
  have b12 := numv_bd2 s 12
  have c14 := hr 14 (by omega)
  have b14 := nth_bd s 14
  have l14 : (14 : Int) < (s.size : Int) := by omega
  have a14 := and15 (nth s 14) b14
  have b16 := numv_bd2 s 16
  have bf := fold_bd s
  have b20 := numv_bd2 s 20
  have a20 := and14 (numv s 20 2) b20
  have T : (decide (20 ≤ numv s 16 2) && decide (numv s 16 2 ≤ (s.size : Int) - 14)) = true := by rw [Bool.eq_iff_iff]; simp; omega
  have II : (!inn s (numv s 16 2)) = true := by rw [d9]; rfl
  clear d9
  go_enter Try.func12, Try.ntmps12
  go_wp2_with (first | (go_at_call 16; refine (half_any s b off cap _ _ hs' (by exact hr) (by omega) (by omega)).mono ?_; rintro e w' ⟨rfl, n1, rfl⟩; simp only [tn12, tn16, tn20]) | (go_at_call 17; refine (totalFits_any s b off cap _ hs' (by exact hr) (by omega)).mono ?_; rintro e w' ⟨rfl, n2, rfl⟩; rw [T]) | (go_at_call 18; refine (headSum_any s b off cap _ hs' (by exact hr) (by omega)).mono ?_; rintro e w' ⟨rfl, n3, rfl⟩) | (go_at_call 19; refine (innerFits_any s b off cap _ hs' (by exact hr) (by omega) (by omega) (by omega)).mono ?_; rintro e w' ⟨rfl, n4, rfl⟩; rw [II]))
  go_ret
  exact ⟨rfl, _, rfl⟩

theorem classOf_any (s : ByteArray) (b off cap : Nat) (w : World) (hs : s.size ≤ maxLen) (hr : Row w b off s) :
    Calls Try.prog 12 #[.slice (some ⟨b, off, none⟩) s.size cap] w fun e w' => e = .returned (.int .u8 (cls s)) ∧ ∃ n, w' = w.drewN n := by
  by_cases c0 : s.size < 14
  · rw [show cls s = 1 from by simp [cls, c0]]; exact classOf_0 s b off cap w hs hr c0
  by_cases c1 : ¬ numv s 12 2 = 2048
  · rw [show cls s = 2 from by simp [cls, c0, c1]]; exact classOf_1 s b off cap w hs hr (by omega) (by simp [c1])
  have d1 : (numv s 12 2 != 2048) = false := by simpa using c1
  by_cases c2 : s.size < 34
  · rw [show cls s = 3 from by simp [cls, c0, c1, c2]]; exact classOf_2 s b off cap w hs hr (by omega) d1 c2
  by_cases c3 : ¬ nth s 14 / 16 = 4
  · rw [show cls s = 4 from by simp [cls, c0, c1, c2, c3]]; exact classOf_3 s b off cap w hs hr (by omega) d1 (by omega) (by simp [c3])
  have d3 : (nth s 14 / 16 != 4) = false := by simpa using c3
  by_cases c4 : ¬ nth s 14 % 16 = 5
  · rw [show cls s = 5 from by simp [cls, c0, c1, c2, c3, c4]]; exact classOf_4 s b off cap w hs hr (by omega) d1 (by omega) d3 (by simp [c4])
  have d4 : (nth s 14 % 16 != 5) = false := by simpa using c4
  by_cases c5 : numv s 16 2 < 20 ∨ (s.size : Int) - 14 < numv s 16 2
  · rw [show cls s = 6 from by simp [cls, c0, c1, c2, c3, c4, c5]]; exact classOf_5 s b off cap w hs hr (by omega) d1 (by omega) d3 d4 c5
  by_cases c7 : ¬ fold (sumTo s 10) = 65535
  · rw [show cls s = 7 from by simp [cls, c0, c1, c2, c3, c4, c5, c7]]; exact classOf_6 s b off cap w hs hr (by omega) d1 (by omega) d3 d4 (by omega) (by simp [c7])
  have d7 : (fold (sumTo s 10) != 65535) = false := by simpa using c7
  by_cases c8 : ¬ numv s 20 2 % 16384 = 0
  · rw [show cls s = 8 from by simp [cls, c0, c1, c2, c3, c4, c5, c7, c8]]; exact classOf_7 s b off cap w hs hr (by omega) d1 (by omega) d3 d4 (by omega) d7 (by simp [c8])
  have d8 : (numv s 20 2 % 16384 != 0) = false := by simpa using c8
  by_cases c9 : inn s (numv s 16 2) = true
  · rw [show cls s = 9 from by simp [cls, c0, c1, c2, c3, c4, c5, c7, c8, c9]]; exact classOf_8 s b off cap w hs hr (by omega) d1 (by omega) d3 d4 (by omega) d7 d8 c9
  rw [show cls s = 0 from by simp [cls, c0, c1, c2, c3, c4, c5, c7, c8, c9]]; exact classOf_9 s b off cap w hs hr (by omega) d1 (by omega) d3 d4 (by omega) d7 d8 (by simpa using c9)
end Go.Proofs.Ytclpnafiiobfhaa
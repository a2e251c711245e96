import Derived.Test.YtclpnafiiobfhaaGreatDoorRefInner
namespace Go.Proofs.YtclpnafiiobfhaaGreatDoor
open Go.RowKit
set_option linter.unusedVariables false
set_option linter.unusedSimpArgs false

set_option maxHeartbeats 1600000 in
theorem class_0 (s : ByteArray) (w : World) (hs : s.size ≤ maxLen) (c0 : s.size < 14) :
    Calls Tryz.prog 31 #[.string s] w fun e w' => e = .returned (.int .u8 1) ∧ w' = w := by
  have hs' := hs
  unfold maxLen at hs
  go_enter Tryz.func31, Tryz.ntmps31
  go_wp2_with (first | (go_at_call 32; refine (num_any s _ 2 _ hs' (by omega) (by omega) (by omega) (by omega)).mono ?_; rintro e w' ⟨rfl, rfl⟩; simp only [tn2, tn12, tn16, tn20]))
  go_ret
  exact ⟨rfl, rfl⟩

set_option maxHeartbeats 1600000 in
theorem class_1 (s : ByteArray) (w : World) (hs : s.size ≤ maxLen) (c0 : 14 ≤ s.size) (d1 : (numv s 12 2 != 2048) = true) :
    Calls Tryz.prog 31 #[.string s] w fun e w' => e = .returned (.int .u8 2) ∧ w' = w := by
  have hs' := hs
  unfold maxLen at hs
  have b12 := numv_bd2 s 12
  go_enter Tryz.func31, Tryz.ntmps31
  go_wp2_with (first | (go_at_call 32; refine (num_any s _ 2 _ hs' (by omega) (by omega) (by omega) (by omega)).mono ?_; rintro e w' ⟨rfl, rfl⟩; simp only [tn2, tn12, tn16, tn20]))
  go_ret
  exact ⟨rfl, rfl⟩

set_option maxHeartbeats 1600000 in
theorem class_2 (s : ByteArray) (w : World) (hs : s.size ≤ maxLen) (c0 : 14 ≤ s.size) (d1 : (numv s 12 2 != 2048) = false) (c2 : s.size < 34) :
    Calls Tryz.prog 31 #[.string s] w fun e w' => e = .returned (.int .u8 3) ∧ w' = w := by
  have hs' := hs
  unfold maxLen at hs
  have b12 := numv_bd2 s 12
  go_enter Tryz.func31, Tryz.ntmps31
  go_wp2_with (first | (go_at_call 32; refine (num_any s _ 2 _ hs' (by omega) (by omega) (by omega) (by omega)).mono ?_; rintro e w' ⟨rfl, rfl⟩; simp only [tn2, tn12, tn16, tn20]))
  go_ret
  exact ⟨rfl, rfl⟩

set_option maxHeartbeats 1600000 in
theorem class_3 (s : ByteArray) (w : World) (hs : s.size ≤ maxLen) (c0 : 14 ≤ s.size) (d1 : (numv s 12 2 != 2048) = false) (c2 : 34 ≤ s.size) (d3 : (nth s 14 / 16 != 4) = true) :
    Calls Tryz.prog 31 #[.string s] w fun e w' => e = .returned (.int .u8 4) ∧ w' = w := by
  have hs' := hs
  unfold maxLen at hs
  have b12 := numv_bd2 s 12
  have e14 := nth_at s 14 (by omega)
  have b14 := nth_bd s 14
  go_enter Tryz.func31, Tryz.ntmps31
  go_wp2_with (first | (go_at_call 32; refine (num_any s _ 2 _ hs' (by omega) (by omega) (by omega) (by omega)).mono ?_; rintro e w' ⟨rfl, rfl⟩; simp only [tn2, tn12, tn16, tn20]))
  go_ret
  exact ⟨rfl, rfl⟩

set_option maxHeartbeats 1600000 in
theorem class_4 (s : ByteArray) (w : World) (hs : s.size ≤ maxLen) (c0 : 14 ≤ s.size) (d1 : (numv s 12 2 != 2048) = false) (c2 : 34 ≤ s.size) (d3 : (nth s 14 / 16 != 4) = false) (d4 : (nth s 14 % 16 != 5) = true) :
    Calls Tryz.prog 31 #[.string s] w fun e w' => e = .returned (.int .u8 5) ∧ w' = w := by
  have hs' := hs
  unfold maxLen at hs
  have b12 := numv_bd2 s 12
  have e14 := nth_at s 14 (by omega)
  have b14 := nth_bd s 14
  go_enter Tryz.func31, Tryz.ntmps31
  go_wp2_with (first | (go_at_call 32; refine (num_any s _ 2 _ hs' (by omega) (by omega) (by omega) (by omega)).mono ?_; rintro e w' ⟨rfl, rfl⟩; simp only [tn2, tn12, tn16, tn20]))
  go_ret
  exact ⟨rfl, rfl⟩

set_option maxHeartbeats 1600000 in
theorem class_5 (s : ByteArray) (w : World) (hs : s.size ≤ maxLen) (c0 : 14 ≤ s.size) (d1 : (numv s 12 2 != 2048) = false) (c2 : 34 ≤ s.size) (d3 : (nth s 14 / 16 != 4) = false) (d4 : (nth s 14 % 16 != 5) = false) (c5 : numv s 16 2 < 20) :
    Calls Tryz.prog 31 #[.string s] w fun e w' => e = .returned (.int .u8 6) ∧ w' = w := by
  have hs' := hs
  unfold maxLen at hs
  have b12 := numv_bd2 s 12
  have e14 := nth_at s 14 (by omega)
  have b14 := nth_bd s 14
  have b16 := numv_bd2 s 16
  go_enter Tryz.func31, Tryz.ntmps31
  go_wp2_with (first | (go_at_call 32; refine (num_any s _ 2 _ hs' (by omega) (by omega) (by omega) (by omega)).mono ?_; rintro e w' ⟨rfl, rfl⟩; simp only [tn2, tn12, tn16, tn20]))
  go_ret
  exact ⟨rfl, rfl⟩

set_option maxHeartbeats 1600000 in
theorem class_6 (s : ByteArray) (w : World) (hs : s.size ≤ maxLen) (c0 : 14 ≤ s.size) (d1 : (numv s 12 2 != 2048) = false) (c2 : 34 ≤ s.size) (d3 : (nth s 14 / 16 != 4) = false) (d4 : (nth s 14 % 16 != 5) = false) (c5 : 20 ≤ numv s 16 2) (c6 : (s.size : Int) - 14 < numv s 16 2) :
    Calls Tryz.prog 31 #[.string s] w fun e w' => e = .returned (.int .u8 6) ∧ w' = w := by
  have hs' := hs
  unfold maxLen at hs
  have b12 := numv_bd2 s 12
  have e14 := nth_at s 14 (by omega)
  have b14 := nth_bd s 14
  have b16 := numv_bd2 s 16
  go_enter Tryz.func31, Tryz.ntmps31
  go_wp2_with (first | (go_at_call 32; refine (num_any s _ 2 _ hs' (by omega) (by omega) (by omega) (by omega)).mono ?_; rintro e w' ⟨rfl, rfl⟩; simp only [tn2, tn12, tn16, tn20]))
  go_ret
  exact ⟨rfl, rfl⟩

set_option maxHeartbeats 1600000 in
theorem class_7 (s : ByteArray) (w : World) (hs : s.size ≤ maxLen) (c0 : 14 ≤ s.size) (d1 : (numv s 12 2 != 2048) = false) (c2 : 34 ≤ s.size) (d3 : (nth s 14 / 16 != 4) = false) (d4 : (nth s 14 % 16 != 5) = false) (c5 : 20 ≤ numv s 16 2) (c6 : numv s 16 2 ≤ (s.size : Int) - 14) (d7 : (fold (sumTo s 10) != 65535) = true) :
    Calls Tryz.prog 31 #[.string s] w fun e w' => e = .returned (.int .u8 7) ∧ w' = w := by
  have hs' := hs
  unfold maxLen at hs
  have b12 := numv_bd2 s 12
  have e14 := nth_at s 14 (by omega)
  have b14 := nth_bd s 14
  have b16 := numv_bd2 s 16
  have bf := fold_bd s
  go_enter Tryz.func31, Tryz.ntmps31
  go_wp2_with (first | (go_at_call 32; refine (num_any s _ 2 _ hs' (by omega) (by omega) (by omega) (by omega)).mono ?_; rintro e w' ⟨rfl, rfl⟩; simp only [tn2, tn12, tn16, tn20]) | (go_at_call 49; refine (folded_any s _ hs' (by omega)).mono ?_; rintro e w' ⟨rfl, rfl⟩))
  go_ret
  exact ⟨rfl, rfl⟩

set_option maxHeartbeats 1600000 in
theorem class_8 (s : ByteArray) (w : World) (hs : s.size ≤ maxLen) (c0 : 14 ≤ s.size) (d1 : (numv s 12 2 != 2048) = false) (c2 : 34 ≤ s.size) (d3 : (nth s 14 / 16 != 4) = false) (d4 : (nth s 14 % 16 != 5) = false) (c5 : 20 ≤ numv s 16 2) (c6 : numv s 16 2 ≤ (s.size : Int) - 14) (d7 : (fold (sumTo s 10) != 65535) = false) (d8 : (numv s 20 2 % 16384 != 0) = true) :
    Calls Tryz.prog 31 #[.string s] w fun e w' => e = .returned (.int .u8 8) ∧ w' = w := by
  have hs' := hs
  unfold maxLen at hs
  have b12 := numv_bd2 s 12
  have e14 := nth_at s 14 (by omega)
  have b14 := nth_bd s 14
  have b16 := numv_bd2 s 16
  have bf := fold_bd s
  have b20 := numv_bd2 s 20
  go_enter Tryz.func31, Tryz.ntmps31
  go_wp2_with (first | (go_at_call 32; refine (num_any s _ 2 _ hs' (by omega) (by omega) (by omega) (by omega)).mono ?_; rintro e w' ⟨rfl, rfl⟩; simp only [tn2, tn12, tn16, tn20]) | (go_at_call 49; refine (folded_any s _ hs' (by omega)).mono ?_; rintro e w' ⟨rfl, rfl⟩))
  go_ret
  exact ⟨rfl, rfl⟩

set_option maxHeartbeats 1600000 in
theorem class_9 (s : ByteArray) (w : World) (hs : s.size ≤ maxLen) (c0 : 14 ≤ s.size) (d1 : (numv s 12 2 != 2048) = false) (c2 : 34 ≤ s.size) (d3 : (nth s 14 / 16 != 4) = false) (d4 : (nth s 14 % 16 != 5) = false) (c5 : 20 ≤ numv s 16 2) (c6 : numv s 16 2 ≤ (s.size : Int) - 14) (d7 : (fold (sumTo s 10) != 65535) = false) (d8 : (numv s 20 2 % 16384 != 0) = false) (d9 : inn s (numv s 16 2) = true) :
    Calls Tryz.prog 31 #[.string s] w fun e w' => e = .returned (.int .u8 9) ∧ w' = w := by
  have hs' := hs
  unfold maxLen at hs
  have b12 := numv_bd2 s 12
  have e14 := nth_at s 14 (by omega)
  have b14 := nth_bd s 14
  have b16 := numv_bd2 s 16
  have bf := fold_bd s
  have b20 := numv_bd2 s 20
  go_enter Tryz.func31, Tryz.ntmps31
  go_wp2_with (first | (go_at_call 32; refine (num_any s _ 2 _ hs' (by omega) (by omega) (by omega) (by omega)).mono ?_; rintro e w' ⟨rfl, rfl⟩; simp only [tn2, tn12, tn16, tn20]) | (go_at_call 49; refine (folded_any s _ hs' (by omega)).mono ?_; rintro e w' ⟨rfl, rfl⟩) | (go_at_call 50; refine (inner_any s _ _ hs' (by omega) (by omega) (by omega)).mono ?_; rintro e w' ⟨rfl, rfl⟩))
  go_ret
  exact ⟨rfl, rfl⟩

set_option maxHeartbeats 1600000 in
theorem class_10 (s : ByteArray) (w : World) (hs : s.size ≤ maxLen) (c0 : 14 ≤ s.size) (d1 : (numv s 12 2 != 2048) = false) (c2 : 34 ≤ s.size) (d3 : (nth s 14 / 16 != 4) = false) (d4 : (nth s 14 % 16 != 5) = false) (c5 : 20 ≤ numv s 16 2) (c6 : numv s 16 2 ≤ (s.size : Int) - 14) (d7 : (fold (sumTo s 10) != 65535) = false) (d8 : (numv s 20 2 % 16384 != 0) = false) (d9 : inn s (numv s 16 2) = false) :
    Calls Tryz.prog 31 #[.string s] w fun e w' => e = .returned (.int .u8 0) ∧ w' = w := by
  have hs' := hs
  unfold maxLen at hs
  have b12 := numv_bd2 s 12
  have e14 := nth_at s 14 (by omega)
  have b14 := nth_bd s 14
  have b16 := numv_bd2 s 16
  have bf := fold_bd s
  have b20 := numv_bd2 s 20
  go_enter Tryz.func31, Tryz.ntmps31
  go_wp2_with (first | (go_at_call 32; refine (num_any s _ 2 _ hs' (by omega) (by omega) (by omega) (by omega)).mono ?_; rintro e w' ⟨rfl, rfl⟩; simp only [tn2, tn12, tn16, tn20]) | (go_at_call 49; refine (folded_any s _ hs' (by omega)).mono ?_; rintro e w' ⟨rfl, rfl⟩) | (go_at_call 50; refine (inner_any s _ _ hs' (by omega) (by omega) (by omega)).mono ?_; rintro e w' ⟨rfl, rfl⟩))
  go_ret
  exact ⟨rfl, rfl⟩

theorem class_any (s : ByteArray) (w : World) (hs : s.size ≤ maxLen) :
    Calls Tryz.prog 31 #[.string s] w fun e w' => e = .returned (.int .u8 (cls s)) ∧ w' = w := by
  by_cases c0 : s.size < 14
  · rw [show cls s = 1 from by simp [cls, c0]]; exact class_0 s w hs c0
  by_cases c1 : ¬ numv s 12 2 = 2048
  · rw [show cls s = 2 from by simp [cls, c0, c1]]; exact class_1 s w hs (by omega) (by simp [c1])
  have d1 : (numv s 12 2 != 2048) = false := by simpa using c1
  by_cases c2 : s.size < 34
  · rw [show cls s = 3 from by simp [cls, c0, c1, c2]]; exact class_2 s w hs (by omega) d1 c2
  by_cases c3 : ¬ nth s 14 / 16 = 4
  · rw [show cls s = 4 from by simp [cls, c0, c1, c2, c3]]; exact class_3 s w hs (by omega) d1 (by omega) (by simp [c3])
  have d3 : (nth s 14 / 16 != 4) = false := by simpa using c3
  by_cases c4 : ¬ nth s 14 % 16 = 5
  · rw [show cls s = 5 from by simp [cls, c0, c1, c2, c3, c4]]; exact class_4 s w hs (by omega) d1 (by omega) d3 (by simp [c4])
  have d4 : (nth s 14 % 16 != 5) = false := by simpa using c4
  by_cases c5 : numv s 16 2 < 20
  · rw [show cls s = 6 from by simp [cls, c0, c1, c2, c3, c4, c5]]; exact class_5 s w hs (by omega) d1 (by omega) d3 d4 c5
  by_cases c6 : (s.size : Int) - 14 < numv s 16 2
  · rw [show cls s = 6 from by simp [cls, c0, c1, c2, c3, c4, c5, c6]]; exact class_6 s w hs (by omega) d1 (by omega) d3 d4 (by omega) c6
  by_cases c7 : ¬ fold (sumTo s 10) = 65535
  · rw [show cls s = 7 from by simp [cls, c0, c1, c2, c3, c4, c5, c6, c7]]; exact class_7 s w hs (by omega) d1 (by omega) d3 d4 (by omega) (by omega) (by simp [c7])
  have d7 : (fold (sumTo s 10) != 65535) = false := by simpa using c7
  by_cases c8 : ¬ numv s 20 2 % 16384 = 0
  · rw [show cls s = 8 from by simp [cls, c0, c1, c2, c3, c4, c5, c6, c7, c8]]; exact class_8 s w hs (by omega) d1 (by omega) d3 d4 (by omega) (by omega) d7 (by simp [c8])
  have d8 : (numv s 20 2 % 16384 != 0) = false := by simpa using c8
  by_cases c9 : inn s (numv s 16 2) = true
  · rw [show cls s = 9 from by simp [cls, c0, c1, c2, c3, c4, c5, c6, c7, c8, c9]]; exact class_9 s w hs (by omega) d1 (by omega) d3 d4 (by omega) (by omega) d7 d8 c9
  rw [show cls s = 0 from by simp [cls, c0, c1, c2, c3, c4, c5, c6, c7, c8, c9]]; exact class_10 s w hs (by omega) d1 (by omega) d3 d4 (by omega) (by omega) d7 d8 (by simpa using c9)
end Go.Proofs.YtclpnafiiobfhaaGreatDoor
import Derived.Test.YtclpnafiiobfhaaGreatDoorRefNum
namespace Go.Proofs.YtclpnafiiobfhaaGreatDoor
open Go.RowKit
set_option linter.unusedVariables false
set_option linter.unusedSimpArgs false

set_option maxHeartbeats 1600000 in
theorem inner_any (s : ByteArray) (t : Int) (w : World) (hs : s.size ≤ maxLen) (h : 34 ≤ s.size) (ht : t + 14 ≤ s.size) (ht0 : 20 ≤ t) :
    Calls Tryz.prog 50 #[.string s, .int .i64 t] w fun e w' => e = .returned (.bool (inn s t)) ∧ w' = w := by
  have hs' := hs
  unfold maxLen at hs
  have e23 := nth_at s 23 (by omega)
  have b23 := nth_bd s 23
  by_cases p6 : nth s 23 = 6
  · have q6 : (nth s 23 == 6) = true := by simp [p6]
    by_cases t40 : t < 40
    · have r : inn s t = true := by simp [inn, p6, t40]
      rw [r]; clear r p6
      go_enter Tryz.func50, Tryz.ntmps50
      go_wp2
      go_ret
      exact ⟨rfl, rfl⟩
    · have e46 := nth_at s 46 (by omega)
      have b46 := nth_bd s 46
      have r : inn s t = (decide (nth s 46 / 16 < 5) || decide (t - 20 < 4 * (nth s 46 / 16))) := by simp [inn, p6, t40]
      rw [r]; clear r p6
      by_cases n5 : nth s 46 / 16 < 5
      all_goals
        go_enter Tryz.func50, Tryz.ntmps50
        go_wp2
        go_ret
        exact ⟨ret_bool (by first | (simp [n5]; done) | (simp; omega)), rfl⟩
  · have q6 : (nth s 23 == 6) = false := by simp [p6]
    by_cases p17 : nth s 23 = 17
    · have q17 : (nth s 23 == 17) = true := by simp [p17]
      by_cases t28 : t < 28
      · have r : inn s t = true := by simp [inn, p17, t28]
        rw [r]; clear r p17 p6
        go_enter Tryz.func50, Tryz.ntmps50
        go_wp2
        go_ret
        exact ⟨rfl, rfl⟩
      · have r : inn s t = (decide (numv s 38 2 < 8) || decide (t - 20 < numv s 38 2)) := by simp [inn, p17, t28]
        have b38 := numv_bd2 s 38
        rw [r]; clear r p17 p6
        by_cases n8 : numv s 38 2 < 8
        all_goals
          go_enter Tryz.func50, Tryz.ntmps50
          go_wp2_with (go_at_call 32; refine (num_any s 38 2 _ hs' (by omega) (by omega) (by omega) (by omega)).mono ?_; rintro e w' ⟨rfl, rfl⟩; rw [show ((38 : Int)).toNat = 38 from rfl, show ((2 : Int)).toNat = 2 from rfl])
          go_ret
          exact ⟨ret_bool (by first | (simp [n8]; done) | (simp; omega)), rfl⟩
    · have q17 : (nth s 23 == 17) = false := by simp [p17]
      by_cases p1 : nth s 23 = 1
      · have q1 : (nth s 23 == 1) = true := by simp [p1]
        have r : inn s t = decide (t < 28) := by simp [inn, p1]
        rw [r]; clear r p17 p6 p1
        go_enter Tryz.func50, Tryz.ntmps50
        go_wp2
        go_ret
        exact ⟨rfl, rfl⟩
      · have q1 : (nth s 23 == 1) = false := by simp [p1]
        have r : inn s t = false := by simp [inn, p1, p6, p17]
        rw [r]; clear r p17 p6 p1
        go_enter Tryz.func50, Tryz.ntmps50
        go_wp2
        go_ret
        exact ⟨rfl, rfl⟩
end Go.Proofs.YtclpnafiiobfhaaGreatDoor

import Derived.Test.YtclpnafiiobfhaaDoorPlain
import Derived.Test.YtclpnafiiobfhaaDoorProg
import Derived.WalkKit
import Derived.WalkSpells
import Derived.WalkLawsBesides
namespace Go.Proofs.YtclpnafiiobfhaaDoor
open Go.RowKit
set_option linter.unusedVariables false
set_option linter.unusedSimpArgs false

set_option maxHeartbeats 400000 in
theorem num_any (s : ByteArray) (k n : Int) (w : World) (hs : s.size ≤ maxLen) (hk : 0 ≤ k) (hn : 0 ≤ n) (hn4 : n ≤ 4) (h : k + n ≤ s.size) :
    Calls Tryd.prog 43 #[.string s, .int .i64 k, .int .i64 n] w fun e w' => e = .returned (.int .i64 (numv s k.toNat n.toNat)) ∧ w' = w := by
  unfold maxLen at hs
  obtain ⟨k, rfl⟩ := Int.eq_ofNat_of_zero_le hk
  obtain ⟨n, rfl⟩ := Int.eq_ofNat_of_zero_le hn
  rw [Int.toNat_natCast, Int.toNat_natCast]
  go_enter Tryd.func43, Tryd.ntmps43
  go_wp2
  go_loop [7, 8] (fun v i => ∃ j : Nat, j ≤ n ∧ i = .int .i64 j ∧ v = .int .i64 (numv s k j)) (fun _ i => n - (intOf i).toNat)
  case atStart => exact ⟨0, Nat.zero_le _, rfl, rfl⟩
  case round =>
    obtain ⟨j, hj, rfl, rfl⟩ := hrel
    have hb := numv_bd4 s k j (by omega)
    by_cases hlt : j < n
    · have hx := nth_at s (k + j) (by omega)
      have hy := nth_bd s (k + j)
      go_wp2
      go_round
      case rel => exact ⟨j + 1, by omega, by go_num, rfl⟩
      case measure => simp [intOf]; omega
    · have e : j = n := by omega
      subst e
      go_wp2
      go_ret
      exact ⟨rfl, rfl⟩

set_option maxHeartbeats 800000 in
theorem folded_any (s : ByteArray) (w : World) (hs : s.size ≤ maxLen) (h : 34 ≤ s.size) :
    Calls Tryd.prog 34 #[.string s] w fun e w' => e = .returned (.int .i64 (fold (sumTo s 10))) ∧ w' = w := by
  go_enter Tryd.func34, Tryd.ntmps34
  go_wp2
  go_loop [3, 4] (fun v i => ∃ j : Nat, j ≤ 10 ∧ i = .int .i64 j ∧ v = .int .i64 (sumTo s j)) (fun _ i => 10 - (intOf i).toNat)
  case atStart => exact ⟨0, Nat.zero_le _, rfl, rfl⟩
  case round =>
    obtain ⟨j, hj, rfl, rfl⟩ := hrel
    have hb := sumTo_bd s j
    by_cases hlt : j < 10
    · have hx := numv_bd2 s (14 + 2 * j)
      go_wp2_with (go_at_call 43; refine (num_any s _ 2 _ hs (by omega) (by omega) (by omega) (by omega)).mono ?_; rintro e w' ⟨rfl, rfl⟩; rw [show ((14 : Int) + 2 * (j : Int)).toNat = 14 + 2 * j from by omega, show ((2 : Int)).toNat = 2 from rfl])
      go_round
      case rel => exact ⟨j + 1, by omega, by go_num, rfl⟩
      case measure => simp [intOf]; omega
    · have e : j = 10 := by omega
      subst e
      go_wp2
      go_loop [3] (fun v => ∃ x : Int, 0 ≤ x ∧ x ≤ 655350 ∧ fold x = fold (sumTo s 10) ∧ v = .int .i64 x) (fun v => (intOf v).toNat)
      case atStart => exact ⟨_, by omega, by omega, rfl, rfl⟩
      case round =>
        obtain ⟨x, hx0, hx1, hx2, rfl⟩ := hrel
        have HX : Hid (fold x = fold (sumTo s 10)) := hx2
        clear hx2
        by_cases hgt : 65535 < x
        · go_wp2
          go_round
          case rel => exact ⟨_, by omega, by omega, by rw [fold_step x hgt hx1]; exact HX.out, rfl⟩
          case measure => simp [intOf]; omega
        · go_wp2
          go_ret
          exact ⟨ret_int (by rw [← HX.out, fold_stop x (by omega)]), rfl⟩

end Go.Proofs.YtclpnafiiobfhaaDoor

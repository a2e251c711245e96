import Derived.Test.YtclpnafiiobfhabGreatDoorFrHalf
namespace Go.Proofs.YtclpnafiiobfhabGreatDoor
open Go.RowKit
set_option linter.unusedVariables false
set_option linter.unusedSimpArgs false

set_option maxHeartbeats 400000 in
theorem isEcho_any (f : Int) (w : World) :
    Calls Tryz.prog 91 #[.int .u8 f] w fun e w' => e = .returned (.bool (f == 8 || f == 0)) ∧ w' = w := by
  by_cases c : f = 8
  · subst c
    go_enter Tryz.func91, Tryz.ntmps91
    go_wp2
    go_ret
    exact ⟨rfl, rfl⟩
  · have d : (f == 8) = false := by simpa using c
    go_enter Tryz.func91, Tryz.ntmps91
    go_wp2
    go_ret
    exact ⟨ret_bool (by simp [d]), rfl⟩

theorem isEcho_is (f : Int) (t : Bool) (w : World) (h : (f == 8 || f == 0) = t) :
    Calls Tryz.prog 91 #[.int .u8 f] w fun e w' => e = .returned (.bool t) ∧ w' = w := by
  rw [← h]; exact isEcho_any f w

set_option maxHeartbeats 800000 in
theorem headSum_any (s : ByteArray) (b off cap : Nat) (w : World) (hs : s.size ≤ maxLen) (hr : Row w b off s) (h : 34 ≤ s.size) :
    Calls Tryz.prog 94 #[.slice (some ⟨b, off, none⟩) s.size cap] w fun e w' => e = .returned (.int .u16 (fold (sumTo s 10))) ∧ ∃ n, w' = w.drewN n := by
  have hs' := hs
  unfold maxLen at hs
  go_enter Tryz.func94, Tryz.ntmps94
  go_wp2
  go_loopw [3, 4] (fun v i wr => ∃ j : Nat, j ≤ 10 ∧ i = .int .i64 (14 + 2 * j : Int) ∧ v = .int .u32 (sumTo s j) ∧ ∃ n, wr = w.drewN n) (fun _ i _ => 34 - (intOf i).toNat)
  case atStart => exact ⟨0, Nat.zero_le _, rfl, rfl, 0, rfl⟩
  case round =>
    obtain ⟨j, hj, rfl, rfl, n0, rfl⟩ := hrel
    have hb := sumTo_bd s j
    by_cases hlt : j < 10
    · have hx := numv_bd2 s (14 + 2 * j)
      go_wp2_with (go_at_call 98; refine (half_any s b off cap _ _ hs' (by exact hr) (by omega) (by omega)).mono ?_; rintro e w' ⟨rfl, n1, rfl⟩; rw [show ((14 : Int) + 2 * (j : Int)).toNat = 14 + 2 * j from by omega])
      go_roundw
      case rel => exact ⟨j + 1, by omega, by go_num, rfl, _, rfl⟩
      case measure => simp [intOf]; omega
    · have e : j = 10 := by omega
      subst e
      go_wp2
      go_loopw [3] (fun v wr => ∃ x : Int, 0 ≤ x ∧ x ≤ 655350 ∧ fold x = fold (sumTo s 10) ∧ v = .int .u32 x ∧ ∃ n, wr = w.drewN n) (fun v _ => (intOf v).toNat)
      case atStart => exact ⟨_, by omega, by omega, rfl, rfl, _, rfl⟩
      case round =>
        obtain ⟨x, hx0, hx1, hx2, rfl, n2, rfl⟩ := hrel
        have HX : Hid (fold x = fold (sumTo s 10)) := hx2
        clear hx2
        by_cases hgt : 65535 < x
        · have ex := and16 x (by omega)
          go_wp2
          go_roundw
          case rel => exact ⟨_, by omega, by omega, by rw [fold_step x hgt hx1]; exact HX.out, rfl, _, rfl⟩
          case measure => simp [intOf]; omega
        · go_wp2
          go_ret
          exact ⟨ret_int (by rw [← HX.out, fold_stop x (by omega)]), _, rfl⟩
end Go.Proofs.YtclpnafiiobfhabGreatDoor

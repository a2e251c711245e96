import Derived.Test.YtclpnafiiobfhaaDoorFrEcho
namespace Go.Proofs.YtclpnafiiobfhaaDoor
open Go.RowKit
set_option linter.unusedVariables false
set_option linter.unusedSimpArgs false

set_option maxHeartbeats 400000 in
theorem word_any (s : ByteArray) (b off cap : Nat) (k : Int) (w : World) (hs : s.size ≤ maxLen) (hr : Row w b off s) (hk : 0 ≤ k) (h : k + 4 ≤ s.size) :
    Calls Tryd.prog 63 #[.slice (some ⟨b, off, none⟩) s.size cap, .int .i64 k] w fun e w' => e = .returned (.int .u32 (numv s k.toNat 4)) ∧ ∃ n, w' = w.drewN n := by
  have hs' := hs
  unfold maxLen at hs
  have b0 := numv_bd2 s k.toNat
  have b1 := numv_bd2 s (k.toNat + 2)
  have b2 := numv_bd2 s (k + 2).toNat
  go_enter Tryd.func63, Tryd.ntmps63
  go_wp2_with (go_at_call 59; refine (half_any s b off cap _ _ hs' (by exact hr) (by omega) (by omega)).mono ?_; rintro e w' ⟨rfl, n1, rfl⟩)
  go_ret
  exact ⟨ret_int (by rw [or32 _ _ b0 b2, numv_4, show (k + 2).toNat = k.toNat + 2 from by omega]), _, rfl⟩

set_option maxHeartbeats 400000 in
theorem totalFits_any (s : ByteArray) (b off cap : Nat) (w : World) (hs : s.size ≤ maxLen) (hr : Row w b off s) (h : 34 ≤ s.size) :
    Calls Tryd.prog 60 #[.slice (some ⟨b, off, none⟩) s.size cap] w fun e w' => e = .returned (.bool (decide (20 ≤ numv s 16 2) && decide (numv s 16 2 ≤ (s.size : Int) - 14))) ∧ ∃ n, w' = w.drewN n := by
  have hs' := hs
  unfold maxLen at hs
  have b0 := numv_bd2 s 16
  by_cases c : 20 ≤ numv s 16 2
  all_goals
    go_enter Tryd.func60, Tryd.ntmps60
    go_wp2_with (go_at_call 59; refine (half_any s b off cap _ _ hs' (by exact hr) (by omega) (by omega)).mono ?_; rintro e w' ⟨rfl, n1, rfl⟩; simp only [tn16])
    go_ret
    exact ⟨ret_bool (by first | (simp [c]; done) | (simp; omega)), _, rfl⟩

set_option maxHeartbeats 400000 in
theorem tcpFits_any (s : ByteArray) (b off cap : Nat) (t : Int) (w : World) (hs : s.size ≤ maxLen) (hr : Row w b off s) (h : 34 ≤ s.size) (ht : 0 ≤ t) (ht1 : t + 34 ≤ s.size) :
    Calls Tryd.prog 75 #[.slice (some ⟨b, off, none⟩) s.size cap, .int .i64 t] w fun e w' => e = .returned (.bool (decide (20 ≤ t) && (decide (5 ≤ nth s 46 / 16) && decide (4 * (nth s 46 / 16) ≤ t)))) ∧ ∃ n, w' = w.drewN n := by
  unfold maxLen at hs
  have b0 := nth_bd s 46
  by_cases c : 20 ≤ t
  · have c46 := hr 46 (by omega)
    have l : (46 : Int) < (s.size : Int) := by omega
    by_cases c' : 5 ≤ nth s 46 / 16
    · have c'' : 20 ≤ 4 * (nth s 46 / 16) := by omega
      go_enter Tryd.func75, Tryd.ntmps75
      go_wp2
      go_ret
      exact ⟨ret_bool (by simp [c, c', c'']), 0, rfl⟩
    · have c'' : ¬ 20 ≤ 4 * (nth s 46 / 16) := by omega
      go_enter Tryd.func75, Tryd.ntmps75
      go_wp2
      go_ret
      exact ⟨ret_bool (by simp; omega), 0, rfl⟩
  · go_enter Tryd.func75, Tryd.ntmps75
    go_wp2
    go_ret
    exact ⟨ret_bool (by simp; omega), 0, rfl⟩

set_option maxHeartbeats 400000 in
theorem udpFits_any (s : ByteArray) (b off cap : Nat) (t : Int) (w : World) (hs : s.size ≤ maxLen) (hr : Row w b off s) (h : 34 ≤ s.size) (ht : 0 ≤ t) (ht1 : t + 34 ≤ s.size) :
    Calls Tryd.prog 76 #[.slice (some ⟨b, off, none⟩) s.size cap, .int .i64 t] w fun e w' => e = .returned (.bool (decide (8 ≤ t) && (decide (8 ≤ numv s 38 2) && decide (numv s 38 2 ≤ t)))) ∧ ∃ n, w' = w.drewN n := by
  have hs' := hs
  unfold maxLen at hs
  have b0 := numv_bd2 s 38
  by_cases c : 8 ≤ t
  · by_cases c' : 8 ≤ numv s 38 2
    all_goals
      go_enter Tryd.func76, Tryd.ntmps76
      go_wp2_with (go_at_call 59; refine (half_any s b off cap _ _ hs' (by exact hr) (by omega) (by omega)).mono ?_; rintro e w' ⟨rfl, n1, rfl⟩; simp only [tn38])
      go_ret
      exact ⟨ret_bool (by first | (simp [c, c']; done) | (simp; omega)), _, rfl⟩
  · go_enter Tryd.func76, Tryd.ntmps76
    go_wp2
    go_ret
    exact ⟨ret_bool (by simp; omega), 0, rfl⟩

end Go.Proofs.YtclpnafiiobfhaaDoor

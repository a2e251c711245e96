import Derived.Test.YtclpnafiiobfhabGreatDoorMIns
namespace Go.Proofs.YtclpnafiiobfhabGreatDoor
open Go.RowKit
set_option linter.unusedVariables false
set_option linter.unusedSimpArgs false

set_option maxHeartbeats 400000 in
theorem fits_r (x : Ins) (w : World) (hr : 4 ≤ x.r) :
    Calls Tryz.prog 118 #[insV x] w fun e w' => e = .returned (.bool false) ∧ Below w.heap.size w w' := by
  obtain ⟨op, r, t, f, k⟩ := x
  unfold insV
  dsimp only at hr
  go_enter Tryz.func118, Tryz.ntmps118
  go_wp2
  go_ret
  exact ⟨rfl, (Below.refl _ _).alloc (Nat.le_refl _) _⟩
set_option maxHeartbeats 400000 in
theorem fits_t (x : Ins) (w : World) (hr : x.r < 4) (hb : x.branch = false) (ht : (x.t != 0) = true) :
    Calls Tryz.prog 118 #[insV x] w fun e w' => e = .returned (.bool false) ∧ Below w.heap.size w w' := by
  have hB := fun w => isBranch_is x _ w hb
  obtain ⟨op, r, t, f, k⟩ := x
  unfold insV insO at *
  dsimp only at *
  clear hb
  go_enter Tryz.func118, Tryz.ntmps118
  go_wp2_with fail
  refine (hB _).mono ?_
  rintro e w' ⟨rfl, rfl⟩
  go_wp2
  go_ret
  exact ⟨rfl, ((Below.refl _ _).alloc (Nat.le_refl _) _).alloc (by simp) _⟩
set_option maxHeartbeats 400000 in
theorem fits_f (x : Ins) (w : World) (hr : x.r < 4) (hb : x.branch = false) (ht : x.t = 0) (hf : (x.f != 0) = true) :
    Calls Tryz.prog 118 #[insV x] w fun e w' => e = .returned (.bool false) ∧ Below w.heap.size w w' := by
  have hB := fun w => isBranch_is x _ w hb
  obtain ⟨op, r, t, f, k⟩ := x
  unfold insV insO at *
  dsimp only at *
  clear hb
  subst ht
  go_enter Tryz.func118, Tryz.ntmps118
  go_wp2_with fail
  refine (hB _).mono ?_
  rintro e w' ⟨rfl, rfl⟩
  go_wp2
  go_ret
  exact ⟨rfl, ((Below.refl _ _).alloc (Nat.le_refl _) _).alloc (by simp) _⟩
/-- what the switch asks of k and r -/
def Ins.tail (x : Ins) : Bool :=
  if x.op = 0 then x.r == 0 && decide (x.k < 3) else if x.op = 4 then decide (x.k < 2) else if x.op = 5 then x.k == 0 else if x.op = 7 then decide (x.k < 32) else if x.op = 11 then x.r == 0 else decide (x.op < 11)
set_option maxHeartbeats 400000 in
theorem fits_b (x : Ins) (w : World) (hr : x.r < 4) (hb : x.branch = true) :
    Calls Tryz.prog 118 #[insV x] w fun e w' => e = .returned (.bool true) ∧ Below w.heap.size w w' := by
  have hB := fun w => isBranch_is x _ w hb
  obtain ⟨op, r, t, f, k⟩ := x
  unfold insV insO Ins.branch at *
  dsimp only at *
  have : op = 8 ∨ op = 9 ∨ op = 10 := by simpa [or_assoc] using hb
  clear hb
  rcases this with rfl | rfl | rfl
  all_goals
    go_enter Tryz.func118, Tryz.ntmps118
    go_wp2_with fail
    refine (hB _).mono ?_
    rintro e w' ⟨rfl, rfl⟩
    go_wp2
    go_ret
    exact ⟨rfl, ((Below.refl _ _).alloc (Nat.le_refl _) _).alloc (by simp) _⟩
set_option maxHeartbeats 800000 in
theorem fits_z (x : Ins) (w : World) (hr : x.r < 4) (hb : x.branch = false) (ht : x.t = 0) (hf : x.f = 0) :
    Calls Tryz.prog 118 #[insV x] w fun e w' => e = .returned (.bool x.tail) ∧ Below w.heap.size w w' := by
  have hB := fun w => isBranch_is x _ w hb
  obtain ⟨b, hbt⟩ : ∃ b, x.tail = b := ⟨_, rfl⟩
  rw [hbt]
  have HT : Hid (x.tail = b) := hbt
  clear hbt
  obtain ⟨op, r, t, f, k⟩ := x
  unfold insV insO at *
  dsimp only at *
  clear hb
  subst ht
  subst hf
  cases h0 : op == 0
  · cases h4 : op == 4
    · cases h5 : op == 5
      · cases h7 : op == 7
        · cases h11 : op == 11
          · go_enter Tryz.func118, Tryz.ntmps118
            go_wp2_with fail
            refine (hB _).mono ?_
            rintro e w' ⟨rfl, rfl⟩
            go_wp2
            go_ret
            exact ⟨ret_bool (by rw [← HT.out]; unfold Ins.tail; rw [beq_eq_false_iff_ne] at *; simp [h0, h4, h5, h7, h11]), ((Below.refl _ _).alloc (Nat.le_refl _) _).alloc (by simp) _⟩
          · have e11 : op = 11 := by simpa using h11
            subst e11
            clear h0 h4 h5 h7 h11
            go_enter Tryz.func118, Tryz.ntmps118
            go_wp2_with fail
            refine (hB _).mono ?_
            rintro e w' ⟨rfl, rfl⟩
            go_wp2
            go_ret
            exact ⟨ret_bool (by rw [← HT.out]; unfold Ins.tail; simp), ((Below.refl _ _).alloc (Nat.le_refl _) _).alloc (by simp) _⟩
        · have e11 : op = 7 := by simpa using h7
          subst e11
          clear h0 h4 h5 h7
          go_enter Tryz.func118, Tryz.ntmps118
          go_wp2_with fail
          refine (hB _).mono ?_
          rintro e w' ⟨rfl, rfl⟩
          go_wp2
          go_ret
          exact ⟨ret_bool (by rw [← HT.out]; unfold Ins.tail; simp), ((Below.refl _ _).alloc (Nat.le_refl _) _).alloc (by simp) _⟩
      · have e11 : op = 5 := by simpa using h5
        subst e11
        clear h0 h4 h5
        go_enter Tryz.func118, Tryz.ntmps118
        go_wp2_with fail
        refine (hB _).mono ?_
        rintro e w' ⟨rfl, rfl⟩
        go_wp2
        go_ret
        exact ⟨ret_bool (by rw [← HT.out]; unfold Ins.tail; simp), ((Below.refl _ _).alloc (Nat.le_refl _) _).alloc (by simp) _⟩
    · have e11 : op = 4 := by simpa using h4
      subst e11
      clear h0 h4
      go_enter Tryz.func118, Tryz.ntmps118
      go_wp2_with fail
      refine (hB _).mono ?_
      rintro e w' ⟨rfl, rfl⟩
      go_wp2
      go_ret
      exact ⟨ret_bool (by rw [← HT.out]; unfold Ins.tail; simp), ((Below.refl _ _).alloc (Nat.le_refl _) _).alloc (by simp) _⟩
  · have e11 : op = 0 := by simpa using h0
    subst e11
    clear h0
    cases hq : r == 0
    all_goals
      go_enter Tryz.func118, Tryz.ntmps118
      go_wp2_with fail
      refine (hB _).mono ?_
      rintro e w' ⟨rfl, rfl⟩
      go_wp2
      go_ret
      exact ⟨ret_bool (by rw [← HT.out]; unfold Ins.tail; first | (simp [hq]; done) | (simp [hq]; omega)), ((Below.refl _ _).alloc (Nat.le_refl _) _).alloc (by simp) _⟩

theorem fits_any (x : Ins) (w : World) :
    Calls Tryz.prog 118 #[insV x] w fun e w' => e = .returned (.bool x.fits) ∧ Below w.heap.size w w' := by
  by_cases hr : 4 ≤ x.r
  · rw [show x.fits = false by unfold Ins.fits; rw [show decide (x.r < 4) = false by simpa using hr]; simp]
    exact fits_r x w hr
  have hr : x.r < 4 := by omega
  cases hb : x.branch with
  | true =>
    have e : x.fits = true := by
      unfold Ins.fits
      rw [hb]
      have : x.op = 8 ∨ x.op = 9 ∨ x.op = 10 := by unfold Ins.branch at hb; simpa [or_assoc] using hb
      rcases this with h | h | h <;> simp [h, hr]
    rw [e]; exact fits_b x w hr hb
  | false =>
    cases ht : x.t == 0 with
    | false =>
      rw [show x.fits = false by unfold Ins.fits; rw [hb, ht]; simp]
      exact fits_t x w hr hb (by simpa using ht)
    | true =>
      cases hf : x.f == 0 with
      | false =>
        rw [show x.fits = false by unfold Ins.fits; rw [hb, ht, hf]; simp]
        exact fits_f x w hr hb (by simpa using ht) (by simpa using hf)
      | true =>
        have e : x.fits = x.tail := by
          unfold Ins.fits Ins.tail
          rw [hb, ht, hf, show decide (x.r < 4) = true by simpa using hr]
          by_cases h0 : x.op = 0
          · simp [h0]
          by_cases h4 : x.op = 4
          · simp [h4]
          by_cases h5 : x.op = 5
          · simp [h5]
          by_cases h7 : x.op = 7
          · simp [h7]
          by_cases h11 : x.op = 11
          · simp [h11]
          simp [h0, h4, h5, h7, h11]
          omega
        rw [e]; exact fits_z x w hr hb (by simpa using ht) (by simpa using hf)
end Go.Proofs.YtclpnafiiobfhabGreatDoor

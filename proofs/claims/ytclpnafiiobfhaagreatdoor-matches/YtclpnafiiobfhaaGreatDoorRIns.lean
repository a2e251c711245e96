import Derived.Test.YtclpnafiiobfhaaGreatDoorMach
import Derived.Test.YtclpnafiiobfhaaGreatDoorProg
import Derived.WalkKit
import Derived.WalkSpells
import Derived.WalkLawsBesides
namespace Go.Proofs.YtclpnafiiobfhaaGreatDoor
open Go.RowKit
set_option linter.unusedVariables false
set_option linter.unusedSimpArgs false

/-- an instruction as the document's answer holds it -/
def refV (x : Ins) : Value := .agg #[.int .i64 x.op, .int .i64 x.r, .int .i64 x.t, .int .i64 x.f, .int .i64 x.k]

set_option maxHeartbeats 400000 in
theorem isIns_op (x : Ins) (w : World) (h : 11 < x.op) :
    Calls Tryz.prog 52 #[refV x] w fun e w' => e = .returned (.bool false) ∧ Below w.heap.size w w' := by
  obtain ⟨op, r, t, f, k⟩ := x
  unfold refV
  dsimp only at *
  go_enter Tryz.func52, Tryz.ntmps52
  go_wp2
  go_ret
  exact ⟨rfl, (Below.refl _ _).alloc (Nat.le_refl _) _⟩
set_option maxHeartbeats 400000 in
theorem isIns_r (x : Ins) (w : World) (h : x.op ≤ 11) (hr : 4 ≤ x.r) :
    Calls Tryz.prog 52 #[refV x] w fun e w' => e = .returned (.bool false) ∧ Below w.heap.size w w' := by
  obtain ⟨op, r, t, f, k⟩ := x
  unfold refV
  dsimp only at *
  go_enter Tryz.func52, Tryz.ntmps52
  go_wp2
  go_ret
  exact ⟨rfl, (Below.refl _ _).alloc (Nat.le_refl _) _⟩
set_option maxHeartbeats 400000 in
theorem isIns_b (x : Ins) (w : World) (h : x.op = 8 ∨ x.op = 9 ∨ x.op = 10) (hr : x.r < 4) :
    Calls Tryz.prog 52 #[refV x] w fun e w' => e = .returned (.bool true) ∧ Below w.heap.size w w' := by
  obtain ⟨op, r, t, f, k⟩ := x
  unfold refV
  dsimp only at *
  rcases h with rfl | rfl | rfl
  all_goals
    go_enter Tryz.func52, Tryz.ntmps52
    go_wp2
    go_ret
    exact ⟨rfl, (Below.refl _ _).alloc (Nat.le_refl _) _⟩
set_option maxHeartbeats 800000 in
theorem isIns_t (x : Ins) (w : World) (h : x.op < 8 ∨ x.op = 11) (hr : x.r < 4) (ht : (x.t != 0) = true) :
    Calls Tryz.prog 52 #[refV x] w fun e w' => e = .returned (.bool false) ∧ Below w.heap.size w w' := by
  obtain ⟨op, r, t, f, k⟩ := x
  unfold refV
  dsimp only at *
  rcases h with h | rfl
  · have h11 : op ≤ 11 := by omega
    go_enter Tryz.func52, Tryz.ntmps52
    go_wp2
    go_ret
    exact ⟨rfl, (Below.refl _ _).alloc (Nat.le_refl _) _⟩
  · go_enter Tryz.func52, Tryz.ntmps52
    go_wp2
    go_ret
    exact ⟨rfl, (Below.refl _ _).alloc (Nat.le_refl _) _⟩
set_option maxHeartbeats 800000 in
theorem isIns_f (x : Ins) (w : World) (h : x.op < 8 ∨ x.op = 11) (hr : x.r < 4) (ht : x.t = 0) (hf : (x.f != 0) = true) :
    Calls Tryz.prog 52 #[refV x] w fun e w' => e = .returned (.bool false) ∧ Below w.heap.size w w' := by
  obtain ⟨op, r, t, f, k⟩ := x
  unfold refV
  dsimp only at *
  subst ht
  rcases h with h | rfl
  · have h11 : op ≤ 11 := by omega
    go_enter Tryz.func52, Tryz.ntmps52
    go_wp2
    go_ret
    exact ⟨rfl, (Below.refl _ _).alloc (Nat.le_refl _) _⟩
  · go_enter Tryz.func52, Tryz.ntmps52
    go_wp2
    go_ret
    exact ⟨rfl, (Below.refl _ _).alloc (Nat.le_refl _) _⟩
/-- what the switch asks -/
def Ins.ask (x : Ins) : Bool :=
  if x.op = 0 then x.r == 0 && decide (x.k < 3) else if x.op = 4 then decide (x.k < 2) else if x.op = 5 then x.k == 0 else if x.op = 7 then decide (x.k < 32) else if x.op = 11 then x.r == 0 else true
set_option maxHeartbeats 1600000 in
theorem isIns_z (x : Ins) (w : World) (h : x.op < 8 ∨ x.op = 11) (hr : x.r < 4) (ht : x.t = 0) (hf : x.f = 0) :
    Calls Tryz.prog 52 #[refV x] w fun e w' => e = .returned (.bool x.ask) ∧ Below w.heap.size w w' := by
  obtain ⟨b, hbt⟩ : ∃ b, x.ask = b := ⟨_, rfl⟩
  rw [hbt]
  have HT : Hid (x.ask = b) := hbt
  clear hbt
  obtain ⟨op, r, t, f, k⟩ := x
  unfold refV
  dsimp only at *
  subst ht hf
  by_cases c0 : op = 0
  · subst c0
    cases hq : r == 0
    all_goals
      go_enter Tryz.func52, Tryz.ntmps52
      go_wp2
      go_ret
      exact ⟨ret_bool (by rw [← HT.out]; unfold Ins.ask; simp [hq]), (Below.refl _ _).alloc (Nat.le_refl _) _⟩
  by_cases c4 : op = 4
  · subst c4
    go_enter Tryz.func52, Tryz.ntmps52
    go_wp2
    go_ret
    exact ⟨ret_bool (by rw [← HT.out]; unfold Ins.ask; simp), (Below.refl _ _).alloc (Nat.le_refl _) _⟩
  by_cases c5 : op = 5
  · subst c5
    go_enter Tryz.func52, Tryz.ntmps52
    go_wp2
    go_ret
    exact ⟨ret_bool (by rw [← HT.out]; unfold Ins.ask; simp), (Below.refl _ _).alloc (Nat.le_refl _) _⟩
  by_cases c7 : op = 7
  · subst c7
    go_enter Tryz.func52, Tryz.ntmps52
    go_wp2
    go_ret
    exact ⟨ret_bool (by rw [← HT.out]; unfold Ins.ask; simp), (Below.refl _ _).alloc (Nat.le_refl _) _⟩
  by_cases c11 : op = 11
  · subst c11
    go_enter Tryz.func52, Tryz.ntmps52
    go_wp2
    go_ret
    exact ⟨ret_bool (by rw [← HT.out]; unfold Ins.ask; simp), (Below.refl _ _).alloc (Nat.le_refl _) _⟩
  have h8 : op < 8 := by omega
  have h11 : op ≤ 11 := by omega
  have d0 : (op == 0) = false := by simpa using c0
  have d4 : (op == 4) = false := by simpa using c4
  have d5 : (op == 5) = false := by simpa using c5
  have d7 : (op == 7) = false := by simpa using c7
  have d11 : (op == 11) = false := by simpa using c11
  have HB : Hid (true = b) := by show true = b; rw [← HT.out]; unfold Ins.ask; simp [c0, c4, c5, c7, c11]
  clear c0 c4 c5 c7 c11 h
  go_enter Tryz.func52, Tryz.ntmps52
  go_wp2
  go_ret
  exact ⟨ret_bool HB.out, (Below.refl _ _).alloc (Nat.le_refl _) _⟩
theorem isIns_any (x : Ins) (w : World) (hb : x.Bd) :
    Calls Tryz.prog 52 #[refV x] w fun e w' => e = .returned (.bool x.fits) ∧ Below w.heap.size w w' := by
  have bo := hb.op
  by_cases h : 11 < x.op
  · rw [show x.fits = false by unfold Ins.fits; rw [show decide (x.op ≤ 11) = false by simpa using h]; simp]
    exact isIns_op x w h
  by_cases hr : 4 ≤ x.r
  · rw [show x.fits = false by unfold Ins.fits; rw [show decide (x.r < 4) = false by simpa using hr]; simp]
    exact isIns_r x w (by omega) hr
  by_cases hq : x.op = 8 ∨ x.op = 9 ∨ x.op = 10
  · rw [show x.fits = true by unfold Ins.fits Ins.branch; rcases hq with h | h | h <;> simp [h] <;> omega]
    exact isIns_b x w hq (by omega)
  have hbr : x.branch = false := by
    unfold Ins.branch
    simp only [Bool.or_eq_false_iff, beq_eq_false_iff_ne]
    omega
  have h8 : x.op < 8 ∨ x.op = 11 := by omega
  cases ht : x.t == 0 with
  | false =>
    rw [show x.fits = false by unfold Ins.fits; rw [hbr, ht]; simp]
    exact isIns_t x w h8 (by omega) (by simpa using ht)
  | true =>
    cases hf : x.f == 0 with
    | false =>
      rw [show x.fits = false by unfold Ins.fits; rw [hbr, ht, hf]; simp]
      exact isIns_f x w h8 (by omega) (by simpa using ht) (by simpa using hf)
    | true =>
      have e : x.fits = x.ask := by
        unfold Ins.fits Ins.ask
        rw [hbr, ht, hf, show decide (x.r < 4) = true by simp; omega, show decide (x.op ≤ 11) = true by simp; omega]
        simp
      rw [e]; exact isIns_z x w h8 (by omega) (by simpa using ht) (by simpa using hf)

set_option maxHeartbeats 400000 in
theorem wide_any (x : Ins) (w : World) (hb : x.Bd) :
    Calls Tryz.prog 36 #[refV x] w fun e w' => e = .returned (.int .i64 x.wide) ∧ Below w.heap.size w w' := by
  have bk := hb.k
  obtain ⟨q, hq⟩ : ∃ q, x.wide = q := ⟨_, rfl⟩
  have HQ : Hid (x.wide = q) := hq
  rw [hq]
  clear hq hb
  obtain ⟨op, r, t, f, k⟩ := x
  unfold refV
  dsimp only at *
  by_cases c1 : op = 1
  · subst c1
    go_enter Tryz.func36, Tryz.ntmps36
    go_wp2
    go_ret
    exact ⟨ret_int (by rw [← HQ.out]; rfl), (Below.refl _ _).alloc (Nat.le_refl _) _⟩
  by_cases c2 : op = 2
  · subst c2
    go_enter Tryz.func36, Tryz.ntmps36
    go_wp2
    go_ret
    exact ⟨ret_int (by rw [← HQ.out]; rfl), (Below.refl _ _).alloc (Nat.le_refl _) _⟩
  by_cases c3 : op = 3
  · subst c3
    go_enter Tryz.func36, Tryz.ntmps36
    go_wp2
    go_ret
    exact ⟨ret_int (by rw [← HQ.out]; rfl), (Below.refl _ _).alloc (Nat.le_refl _) _⟩
  have d1 : (op == 1) = false := by simpa using c1
  have d2 : (op == 2) = false := by simpa using c2
  have d3 : (op == 3) = false := by simpa using c3
  have HB : Hid (0 = q) := by show 0 = q; rw [← HQ.out]; unfold Ins.wide; simp [c1, c2, c3]
  clear c1 c2 c3
  go_enter Tryz.func36, Tryz.ntmps36
  go_wp2
  go_ret
  exact ⟨ret_int HB.out, (Below.refl _ _).alloc (Nat.le_refl _) _⟩
end Go.Proofs.YtclpnafiiobfhaaGreatDoor

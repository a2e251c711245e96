import Derived.Test.YtclpnafiiobfhabGreatDoorMTrap
namespace Go.Proofs.YtclpnafiiobfhabGreatDoor
open Go.RowKit
set_option linter.unusedVariables false
set_option linter.unusedSimpArgs false

/-- a trap as an error -/
def trapV (k : Int) : Value := if k = 0 then .nilIface else .iface 22 (.int .i64 k)
theorem trapV_0 : trapV 0 = .nilIface := rfl
theorem trapV_21 : trapV 21 = .iface 22 (.int .i64 21) := rfl
theorem trapV_22 : trapV 22 = .iface 22 (.int .i64 22) := rfl
theorem trap_any (x : Ins) (m : Nat) (d : ByteArray) (sp : Option Addr) (sc : Nat) (q : Int × Int) (a : St) (w : World) (hb : x.Bd) (hr : x.r < 4) (hd : d.size ≤ 4294967295) (hM : Mc w m (.slice sp d.size sc) q a) :
    Calls Tryz.prog 96 #[.pointer (some ⟨m, 0, none⟩), insV x] w fun e w' => e = .returned (trapV (a.trap d x)) ∧ Below w.heap.size w w' := by
  cases hu : x.uses with
  | true =>
    have hl : x.load = false := by
      unfold Ins.uses Ins.branch at hu
      unfold Ins.load
      have : x.op = 6 ∨ x.op = 7 ∨ x.op = 8 ∨ x.op = 9 ∨ x.op = 10 := by simpa [or_assoc] using hu
      rcases this with h | h | h | h | h <;> simp [h]
    have hw : x.wide = 0 := by
      unfold Ins.load at hl
      unfold Ins.wide
      simp only [Bool.or_eq_false_iff, beq_eq_false_iff_ne] at hl
      simp [hl]
    cases hh : a.set.getD x.r.toNat false with
    | false =>
      have e : a.trap d x = 21 := by unfold St.trap; rw [hu, hh]; rfl
      rw [e, trapV_21]
      exact trap_unset x m sp d.size sc q a w hb hr hM hu hh
    | true =>
      have e : a.trap d x = 0 := by
        unfold St.trap; rw [hu, hh, hw]
        rw [if_neg (by decide), if_neg (by omega)]
      rw [e, trapV_0]
      exact trap_set x m sp d.size sc q a w hb hr hM hu hl hh
  | false =>
    have e1 : a.trap d x = if (d.size : Int) < x.wide then 22 else 0 := by
      unfold St.trap; rw [hu, Bool.false_and, if_neg (by decide)]
    cases hl : x.load with
    | true =>
      refine (trap_load x m sp d.size sc q a w hb hr hM hu hl hd).mono ?_
      rintro e w' ⟨rfl, h⟩
      refine ⟨?_, h⟩
      rw [e1]
      by_cases c : (d.size : Int) < x.wide
      · rw [if_pos c, trapV_22]; simp [c]
      · rw [if_neg c, trapV_0]; simp [c]
    | false =>
      have hw : x.wide = 0 := by
        unfold Ins.load at hl
        unfold Ins.wide
        simp only [Bool.or_eq_false_iff, beq_eq_false_iff_ne] at hl
        simp [hl]
      rw [hw, if_neg (by omega)] at e1
      rw [e1, trapV_0]
      exact trap_none x m sp d.size sc q a w hb hr hM hu hl
end Go.Proofs.YtclpnafiiobfhabGreatDoor

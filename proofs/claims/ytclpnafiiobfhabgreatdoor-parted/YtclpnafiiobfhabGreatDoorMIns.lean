import Derived.Test.YtclpnafiiobfhabGreatDoorMach
import Derived.Test.YtclpnafiiobfhabGreatDoorBits
import Derived.Test.YtclpnafiiobfhabGreatDoorProg
import Derived.WalkKit
import Derived.WalkSpells
import Derived.WalkLawsBesides
import Derived.Deep.QuietTactic
import Derived.BigQuiet
namespace Go.Proofs.YtclpnafiiobfhabGreatDoor
open Go.RowKit
set_option linter.unusedVariables false
set_option linter.unusedSimpArgs false

/-- an instruction as the code holds it -/
def insV (x : Ins) : Value := .agg #[.int .u8 x.op, .int .u8 x.r, .int .u8 x.t, .int .u8 x.f, .int .u32 x.k]
/-- its block -/
def insO (x : Ins) : Obj := .cells #[.int .u8 x.op, .int .u8 x.r, .int .u8 x.t, .int .u8 x.f, .int .u32 x.k] 203

set_option maxHeartbeats 400000 in
theorem isBranch_any (x : Ins) (w : World) :
    Calls Tryz.prog 141 #[insV x] w fun e w' => e = .returned (.bool x.branch) ∧ w' = w.alloc (insO x) := by
  obtain ⟨op, r, t, f, k⟩ := x
  unfold insV insO Ins.branch
  cases h8 : op == 8
  · cases h9 : op == 9
    all_goals
      go_enter Tryz.func141, Tryz.ntmps141
      go_wp2
      go_ret
      exact ⟨ret_bool (by simp [h8, h9]), rfl⟩
  · go_enter Tryz.func141, Tryz.ntmps141
    go_wp2
    go_ret
    exact ⟨ret_bool (by simp [h8]), rfl⟩
theorem isBranch_is (x : Ins) (b : Bool) (w : World) (h : x.branch = b) :
    Calls Tryz.prog 141 #[insV x] w fun e w' => e = .returned (.bool b) ∧ w' = w.alloc (insO x) := by
  rw [← h]; exact isBranch_any x w

set_option maxHeartbeats 400000 in
theorem isLoad_any (x : Ins) (w : World) :
    Calls Tryz.prog 120 #[insV x] w fun e w' => e = .returned (.bool x.load) ∧ w' = w.alloc (insO x) := by
  obtain ⟨op, r, t, f, k⟩ := x
  unfold insV insO Ins.load
  cases h8 : op == 1
  · cases h9 : op == 2
    all_goals
      go_enter Tryz.func120, Tryz.ntmps120
      go_wp2
      go_ret
      exact ⟨ret_bool (by simp [h8, h9]), rfl⟩
  · go_enter Tryz.func120, Tryz.ntmps120
    go_wp2
    go_ret
    exact ⟨ret_bool (by simp [h8]), rfl⟩
theorem isLoad_is (x : Ins) (b : Bool) (w : World) (h : x.load = b) :
    Calls Tryz.prog 120 #[insV x] w fun e w' => e = .returned (.bool b) ∧ w' = w.alloc (insO x) := by
  rw [← h]; exact isLoad_any x w

set_option maxHeartbeats 400000 in
theorem uses_any (x : Ins) (w : World) :
    Calls Tryz.prog 119 #[insV x] w fun e w' => e = .returned (.bool x.uses) ∧ Below w.heap.size w w' := by
  unfold Ins.uses
  have hB := isBranch_any x
  obtain ⟨op, r, t, f, k⟩ := x
  unfold insV insO at *
  cases h8 : op == 6
  · cases h9 : op == 7
    · go_enter Tryz.func119, Tryz.ntmps119
      go_wp2_with fail
      refine (hB _).mono ?_
      rintro e w' ⟨rfl, rfl⟩
      go_wp2
      go_ret
      exact ⟨rfl, ((Below.refl _ _).alloc (Nat.le_refl _) _).alloc (by simp) _⟩
    · go_enter Tryz.func119, Tryz.ntmps119
      go_wp2
      go_ret
      exact ⟨rfl, (Below.refl _ _).alloc (Nat.le_refl _) _⟩
  · go_enter Tryz.func119, Tryz.ntmps119
    go_wp2
    go_ret
    exact ⟨rfl, (Below.refl _ _).alloc (Nat.le_refl _) _⟩
theorem uses_is (x : Ins) (b : Bool) (w : World) (h : x.uses = b) :
    Calls Tryz.prog 119 #[insV x] w fun e w' => e = .returned (.bool b) ∧ Below w.heap.size w w' := by
  rw [← h]; exact uses_any x w

set_option maxHeartbeats 400000 in
theorem loadEnd_any (x : Ins) (hb : x.Bd) (w : World) (hl : x.load = true) :
    Calls Tryz.prog 121 #[insV x] w fun e w' => e = .returned (.int .u64 x.wide) ∧ w' = w.alloc (insO x) := by
  have bk := hb.k
  obtain ⟨op, r, t, f, k⟩ := x
  unfold insV insO Ins.wide
  dsimp only at *
  have : op = 1 ∨ op = 2 ∨ op = 3 := by unfold Ins.load at hl; simpa [or_assoc] using hl
  clear hl hb
  rcases this with rfl | rfl | rfl
  all_goals
    go_enter Tryz.func121, Tryz.ntmps121
    go_wp2
    go_ret
    exact ⟨ret_int (by simp), rfl⟩

set_option maxHeartbeats 400000 in
theorem branch_any (x : Ins) (b : Bool) (hb : x.Bd) (w : World) :
    Calls Tryz.prog 124 #[insV x, .bool b] w fun e w' => e = .returned (.int .u32 (if b then x.t else x.f)) ∧ w' = w.alloc (insO x) := by
  have bt := hb.t
  have bf := hb.f
  obtain ⟨op, r, t, f, k⟩ := x
  unfold insV insO
  dsimp only at *
  clear hb
  cases b
  all_goals
    go_enter Tryz.func124, Tryz.ntmps124
    go_wp2
    go_ret
    exact ⟨ret_int (by simp), rfl⟩
end Go.Proofs.YtclpnafiiobfhabGreatDoor

import Derived.Test.YtclpnafiiobfhabGreatDoorAsWalks
import Derived.WalkSpells
import Derived.WalkLawsBesides
import Derived.Deep.QuietTactic
import Derived.BigQuiet
namespace Go.Proofs.YtclpnafiiobfhabGreatDoor
open Go.RowKit
set_option linter.unusedVariables false
set_option linter.unusedSimpArgs false

/-- errors.errorType, as the program's text lays it -/
def Laid (w : World) : Prop := w.cell? ⟨0, 0, none⟩ = some (.iface 179 (.agg #[.pointer (some ⟨7, 60, none⟩)]))
theorem Laid.pos {w : World} (h : Laid w) : 0 < w.heap.size := by
  unfold Laid at h
  rcases Nat.lt_or_ge 0 w.heap.size with h1 | h1
  · exact h1
  · simp [World.cell?, Array.getElem?_eq_none h1] at h
theorem Laid.alloc {w : World} (h : Laid w) (o : Obj) : Laid (w.alloc o) := by
  show (w.alloc o).cell? ⟨0, 0, none⟩ = _
  rw [World.cell?_alloc_lt _ _ ⟨0, 0, none⟩ h.pos]; exact h
theorem Laid.below {w w' : World} (h : Laid w) (hw : Below w.heap.size w w') : Laid w' := by
  show w'.cell? ⟨0, 0, none⟩ = _
  rw [hw.cell (p := ⟨0, 0, none⟩) h.pos]; exact h

set_option maxHeartbeats 800000 in
theorem told_nil (w : World) :
    Calls Tryz.prog 22 #[.nilIface] w fun e w' => e = .returned (.tuple #[.int .i64 0, .int .i64 0]) ∧ Below w.heap.size w w' := by
  go_enter Tryz.func22, Tryz.ntmps22
  go_wp2_with (go_at_call 35; refine (as_nil _ _).mono ?_; rintro e w' ⟨rfl, rfl⟩)
  go_ret2
  refine ⟨rfl, ?_⟩
  exact (((Below.refl _ _).alloc (Nat.le_refl _) _).alloc (by simp) _).alloc (by simp; omega) _

set_option maxHeartbeats 1600000 in
theorem told_kind (k : Int) (w : World) (hL : Laid w) :
    Calls Tryz.prog 22 #[.iface 22 (.int .i64 k)] w fun e w' => e = .returned (.tuple #[.int .i64 k, .int .i64 0]) ∧ Below w.heap.size w w' := by
  have HL : Hid (Laid w) := hL
  clear hL
  go_enter Tryz.func22, Tryz.ntmps22
  go_wp2_with fail
  refine (as_missKR k _ _ ?_).mono ?_
  · (show Laid _; repeat (first | with_reducible exact HL.out | with_reducible refine Laid.alloc ?_ _))
  rintro e w1 ⟨rfl, rfl⟩
  go_wp2_with fail
  refine (as_missKC k _ _ ?_).mono ?_
  · (show Laid _; repeat (first | with_reducible exact HL.out | with_reducible refine Laid.alloc ?_ _))
  rintro e w1 ⟨rfl, rfl⟩
  go_wp2_with fail
  refine (as_hitK k _ _ ?_ (.int .i64 0) ?_ ?_).mono ?_
  · (show Laid _; repeat (first | with_reducible exact HL.out | with_reducible refine Laid.alloc ?_ _))
  · rw [World.cell?_alloc_at _ _ _ _ (by simp)]; rfl
  · exact World.frozen?_alloc_at _ _ _ _ (by simp)
  rintro e w1 ⟨rfl, rfl⟩
  go_wp2
  go_ret2
  refine ⟨rfl, ?_⟩
  repeat (first | with_reducible exact Below.refl _ _ | with_reducible refine below_drewN ?_ _ | with_reducible refine Below.drew ?_ | with_reducible refine Below.setCell ?_ (by first | (simp; done) | (simp; omega)) _ | with_reducible refine Below.alloc ?_ (by first | (simp; done) | (simp; omega)) _)

set_option maxHeartbeats 1600000 in
theorem told_rule (b : Nat) (k l : Int) (w : World) (hL : Laid w) (hb : b < w.heap.size) (h0 : w.cell? ⟨b, 0, none⟩ = some (.int .i64 l)) (h1 : w.cell? ⟨b, 1, none⟩ = some (.int .i64 k)) :
    Calls Tryz.prog 22 #[.iface 85 (.pointer (some ⟨b, 0, none⟩))] w fun e w' => e = .returned (.tuple #[.int .i64 k, .int .i64 l]) ∧ Below w.heap.size w w' := by
  have HL : Hid (Laid w) := hL
  clear hL
  have n0 : b ≠ w.heap.size := by omega
  have n1 : b ≠ w.heap.size + 1 := by omega
  have n2 : b ≠ w.heap.size + 1 + 1 := by omega
  have n3 : b ≠ w.heap.size + 1 + 1 + 1 := by omega
  have n4 : b ≠ w.heap.size + 1 + 1 + 1 + 1 := by omega
  go_enter Tryz.func22, Tryz.ntmps22
  go_wp2_with fail
  refine (as_hitR ⟨b, 0, none⟩ _ _ ?_ (.pointer none) ?_ ?_).mono ?_
  · (show Laid _; repeat (first | with_reducible exact HL.out | with_reducible refine Laid.alloc ?_ _))
  · simp
  · simp
  rintro e w1 ⟨rfl, hw1⟩
  have hB : Below w.heap.size w w1 := by
    rw [hw1]
    repeat (first | with_reducible exact Below.refl _ _ | with_reducible refine below_drewN ?_ _ | with_reducible refine Below.drew ?_ | with_reducible refine Below.setCell ?_ (by first | (simp; done) | (simp; omega)) _ | with_reducible refine Below.alloc ?_ (by first | (simp; done) | (simp; omega)) _)
  have hc : w1.cell? ⟨w.heap.size, 0, none⟩ = some (.pointer (some ⟨b, 0, none⟩)) := by
    rw [hw1]
    refine World.cell?_setCell_same _ _ _ (u := .pointer none) ?_
    rw [Below.cell (B := w.heap.size + 1) (w := w.alloc (.cells #[.pointer none] 85)) (p := ⟨w.heap.size, 0, none⟩) ?_ (by simp)]
    · rw [World.cell?_alloc_at _ _ _ _ (by simp)]; rfl
    · repeat (first | with_reducible exact Below.refl _ _ | with_reducible refine below_drewN ?_ _ | with_reducible refine Below.drew ?_ | with_reducible refine Below.setCell ?_ (by first | (simp; done) | (simp; omega)) _ | with_reducible refine Below.alloc ?_ (by first | (simp; done) | (simp; omega)) _)
  have g0 : w1.cell? ⟨b, 0, none⟩ = some (.int .i64 l) := by rw [hB.cell (p := ⟨b, 0, none⟩) hb]; exact h0
  have g1 : w1.cell? ⟨b, 1, none⟩ = some (.int .i64 k) := by rw [hB.cell (p := ⟨b, 1, none⟩) hb]; exact h1
  clear hw1 h0 h1 n0 n1 n2 n3 n4 hb
  go_wp2
  go_quiet (fail)
  go_wp2
  go_ret2
  exact ⟨rfl, below_drewN hB _⟩

set_option maxHeartbeats 1600000 in
theorem told_code (b : Nat) (k l : Int) (w : World) (hL : Laid w) (hb : b < w.heap.size) (h0 : w.cell? ⟨b, 0, none⟩ = some (.int .i64 l)) (h1 : w.cell? ⟨b, 1, none⟩ = some (.int .i64 k)) :
    Calls Tryz.prog 22 #[.iface 90 (.pointer (some ⟨b, 0, none⟩))] w fun e w' => e = .returned (.tuple #[.int .i64 k, .int .i64 l]) ∧ Below w.heap.size w w' := by
  have HL : Hid (Laid w) := hL
  clear hL
  have n0 : b ≠ w.heap.size := by omega
  have n1 : b ≠ w.heap.size + 1 := by omega
  have n2 : b ≠ w.heap.size + 1 + 1 := by omega
  have n3 : b ≠ w.heap.size + 1 + 1 + 1 := by omega
  have n4 : b ≠ w.heap.size + 1 + 1 + 1 + 1 := by omega
  have n5 : b ≠ w.heap.size + 1 + 1 + 1 + 1 + 1 := by omega
  have n6 : b ≠ w.heap.size + 1 + 1 + 1 + 1 + 1 + 1 := by omega
  have n7 : b ≠ w.heap.size + 1 + 1 + 1 + 1 + 1 + 1 + 1 := by omega
  have n8 : b ≠ w.heap.size + 1 + 1 + 1 + 1 + 1 + 1 + 1 + 1 := by omega
  go_enter Tryz.func22, Tryz.ntmps22
  go_wp2_with fail
  refine (as_missCR b 0 k _ _ ?_ ?_).mono ?_
  · (show Laid _; repeat (first | with_reducible exact HL.out | with_reducible refine Laid.alloc ?_ _))
  · rw [World.cell?_alloc_lt _ _ ⟨b, 0 + 1, none⟩ hb]; exact h1
  rintro e w1 ⟨rfl, rfl⟩
  go_wp2_with fail
  refine (as_hitC ⟨b, 0, none⟩ _ _ ?_ (.pointer none) ?_ ?_).mono ?_
  · (show Laid _; repeat (first | with_reducible exact HL.out | with_reducible refine Laid.alloc ?_ _))
  · rw [World.cell?_alloc_at _ _ _ _ (by simp)]; rfl
  · exact World.frozen?_alloc_at _ _ _ _ (by simp)
  rintro e w1 ⟨rfl, hw1⟩
  have hB : Below w.heap.size w w1 := by
    rw [hw1]
    repeat (first | with_reducible exact Below.refl _ _ | with_reducible refine below_drewN ?_ _ | with_reducible refine Below.drew ?_ | with_reducible refine Below.setCell ?_ (by first | (simp; done) | (simp; omega)) _ | with_reducible refine Below.alloc ?_ (by first | (simp; done) | (simp; omega)) _)
  have hc : w1.cell? ⟨w.heap.size + 1 + 1 + 1 + 1, 0, none⟩ = some (.pointer (some ⟨b, 0, none⟩)) := by
    rw [hw1]
    refine World.cell?_setCell_same _ _ _ (u := .pointer none) ?_
    rw [Below.cell (B := w.heap.size + 1 + 1 + 1 + 1 + 1) (w := ((((w.alloc (.cells #[.pointer none] 85)).alloc (.cells #[.pointer (some ⟨w.heap.size, 0, none⟩)] 87)).alloc (.cells #[.pointer (some ⟨7, 87, none⟩), .pointer (some ⟨w.heap.size + 1, 0, none⟩), .int .u64 150] 134)).alloc (.cells #[.pointer (some ⟨7, 87, none⟩), .pointer (some ⟨w.heap.size + 1, 0, none⟩), .int .u64 150] 134)).alloc (.cells #[.pointer none] 90)) (p := ⟨w.heap.size + 1 + 1 + 1 + 1, 0, none⟩) ?_ (by simp)]
    · rw [World.cell?_alloc_at _ _ _ _ (by simp)]; rfl
    · repeat (first | with_reducible exact Below.refl _ _ | with_reducible refine below_drewN ?_ _ | with_reducible refine Below.drew ?_ | with_reducible refine Below.setCell ?_ (by first | (simp; done) | (simp; omega)) _ | with_reducible refine Below.alloc ?_ (by first | (simp; done) | (simp; omega)) _)
  have g0 : w1.cell? ⟨b, 0, none⟩ = some (.int .i64 l) := by rw [hB.cell (p := ⟨b, 0, none⟩) hb]; exact h0
  have g1 : w1.cell? ⟨b, 1, none⟩ = some (.int .i64 k) := by rw [hB.cell (p := ⟨b, 1, none⟩) hb]; exact h1
  clear hw1 h0 h1 n0 n1 n2 n3 n4 n5 n6 n7 n8 hb
  go_wp2
  go_quiet (fail)
  go_wp2
  go_ret2
  exact ⟨rfl, below_drewN hB _⟩

end Go.Proofs.YtclpnafiiobfhabGreatDoor
import Derived.Test.YtclpnafiiobfhabGreatDoorMReads
namespace Go.Proofs.YtclpnafiiobfhabGreatDoor
open Go.RowKit
set_option linter.unusedVariables false
set_option linter.unusedSimpArgs false

/-- block g holds the n instructions of a code -/
structure Cd (w : World) (g : Nat) (s : ByteArray) (n : Nat) : Prop where
  op : ∀ j, j < n → w.cell? ⟨g, j * 5, none⟩ = some (.int .u8 (insAt s j).op)
  r : ∀ j, j < n → w.cell? ⟨g, j * 5 + 1, none⟩ = some (.int .u8 (insAt s j).r)
  t : ∀ j, j < n → w.cell? ⟨g, j * 5 + 2, none⟩ = some (.int .u8 (insAt s j).t)
  f : ∀ j, j < n → w.cell? ⟨g, j * 5 + 3, none⟩ = some (.int .u8 (insAt s j).f)
  k : ∀ j, j < n → w.cell? ⟨g, j * 5 + 4, none⟩ = some (.int .u32 (insAt s j).k)
  lt : g < w.heap.size
theorem Lst.cd {w : World} {g n : Nat} {s : ByteArray} (h : Lst w g ((List.range n).map (insAt s))) : Cd w g s n := by
  have e : ∀ j, j < n → ((List.range n).map (insAt s)).getD j ⟨0, 0, 0, 0, 0⟩ = insAt s j := fun j hj => by
    simp [List.getD_eq_getElem?_getD, hj]
  have l : ((List.range n).map (insAt s)).length = n := by simp
  exact ⟨fun j hj => by rw [← e j hj]; exact h.op j (by omega), fun j hj => by rw [← e j hj]; exact h.r j (by omega), fun j hj => by rw [← e j hj]; exact h.t j (by omega), fun j hj => by rw [← e j hj]; exact h.f j (by omega), fun j hj => by rw [← e j hj]; exact h.k j (by omega), h.lt⟩
theorem Cd.below {w w' : World} {g n : Nat} {s : ByteArray} (h : Cd w g s n) (hw : Below w.heap.size w w') : Cd w' g s n := by
  have lt := h.lt
  have hc : ∀ i, w'.cell? ⟨g, i, none⟩ = w.cell? ⟨g, i, none⟩ := fun i => hw.cell (p := ⟨g, i, none⟩) lt
  exact ⟨fun j hj => (hc _).trans (h.op j hj), fun j hj => (hc _).trans (h.r j hj), fun j hj => (hc _).trans (h.t j hj), fun j hj => (hc _).trans (h.f j hj), fun j hj => (hc _).trans (h.k j hj), Nat.lt_of_lt_of_le lt hw.size⟩
end Go.Proofs.YtclpnafiiobfhabGreatDoor

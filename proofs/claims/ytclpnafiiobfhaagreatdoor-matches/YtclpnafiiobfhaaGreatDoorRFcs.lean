import Derived.Test.YtclpnafiiobfhaaGreatDoorCells
import Derived.Test.YtclpnafiiobfhaaGreatDoorRMeet
import Derived.Laws.IdiomCopy
namespace Go.Proofs.YtclpnafiiobfhaaGreatDoor
open Go.RowKit
set_option linter.unusedVariables false
set_option linter.unusedSimpArgs false

theorem rfC_size (a : Fc) : (rfC a).size = 10 := rfl
/-- block g holds what is sure, a row of ten cells each -/
structure RFs (w : World) (g : Nat) (F : List Fc) : Prop where
  cell : ∀ j, j < F.length → ∀ c, c < 10 → w.cell? ⟨g, j * 10 + c, none⟩ = (rfC (F.getD j fc0))[c]?
  froz : ∀ i, w.frozen? ⟨g, i, none⟩ = false
  lt : g < w.heap.size
/-- what is sure is laid at its place -/
def rputFc (w : World) (g j : Nat) (a : Fc) : World :=
  (((((((((w.setCell ⟨g, j * 10, none⟩ (.bool a.come)).setCell ⟨g, j * 10 + 1, none⟩ (.bool (a.set.getD 0 false))).setCell ⟨g, j * 10 + 2, none⟩ (.bool (a.set.getD 1 false))).setCell ⟨g, j * 10 + 3, none⟩ (.bool (a.set.getD 2 false))).setCell ⟨g, j * 10 + 4, none⟩ (.bool (a.set.getD 3 false))).setCell ⟨g, j * 10 + 5, none⟩ (.bool (a.long.getD 0 false))).setCell ⟨g, j * 10 + 6, none⟩ (.bool (a.long.getD 1 false))).setCell ⟨g, j * 10 + 7, none⟩ (.bool (a.long.getD 2 false))).setCell ⟨g, j * 10 + 8, none⟩ (.bool (a.long.getD 3 false))).setCell ⟨g, j * 10 + 9, none⟩ (.int .i64 a.there)
theorem rputFc_eq (w : World) (g j : Nat) (a : Fc) : rputFc w g j a = w.setCells g (j * 10) (rfC a).toList := rfl
theorem rputFc_size (w : World) (g j : Nat) (a : Fc) : (rputFc w g j a).heap.size = w.heap.size := by rw [rputFc_eq]; exact size_setCells _ _ _ _
theorem RFs.store {w : World} {g : Nat} {F : List Fc} (h : RFs w g F) (j : Nat) (hj : j < F.length) (a : Fc) : RFs (rputFc w g j a) g (F.set j a) := by
  rw [rputFc_eq]
  refine ⟨fun i hi c hc => ?_, fun i => by rw [frozen_setCells]; exact h.froz i, by rw [size_setCells]; exact h.lt⟩
  rw [List.length_set] at hi
  by_cases e : j = i
  · subst e
    rw [List.getD_eq_getElem?_getD, List.getElem?_set_self hj, Option.getD_some]
    have hl : c < (rfC a).toList.length := by simpa [rfC_size] using hc
    rw [World.cell?_setCells_in g (rfC a).toList (j * 10) w (fun k hk => by
      have hk : k < 10 := by simpa [rfC_size] using hk
      rw [h.cell j hj k hk]
      have : k < (rfC (F.getD j fc0)).size := by rw [rfC_size]; exact hk
      rw [Array.getElem?_eq_getElem this]; rfl) c hl]
    simp
  · rw [World.cell?_setCells_out g _ _ _ _ (fun _ _ => by simp only [Array.length_toList, rfC_size]; show i * 10 + c < j * 10 ∨ j * 10 + 10 ≤ i * 10 + c; omega)]
    rw [List.getD_eq_getElem?_getD, List.getElem?_set_ne e, ← List.getD_eq_getElem?_getD]
    exact h.cell i hi c hc
theorem RFs.below {w w' : World} {g : Nat} {F : List Fc} (h : RFs w g F) (hw : Below w.heap.size w w') : RFs w' g F :=
  ⟨fun j hj c hc => (hw.cell (p := ⟨g, j * 10 + c, none⟩) h.lt).trans (h.cell j hj c hc), fun i => (hw.frozen (p := ⟨g, i, none⟩) h.lt).trans (h.froz i), Nat.lt_of_lt_of_le h.lt hw.size⟩
theorem RFs.congr {w : World} {g : Nat} {F G : List Fc} (h : RFs w g F) (e : F = G) : RFs w g G := e ▸ h
theorem Tch.rputFc {g : Nat} {a w : World} (h : Tch g a w) (j : Nat) (f : Fc) : Tch g a (rputFc w g j f) := by rw [rputFc_eq]; exact Tch.setCells _ _ _ h
theorem RFs.made (w : World) (n : Nat) (hn : 1 ≤ n) (s : ByteArray) :
    RFs ((w.alloc (.cells (madeCells #[.bool false, .bool false, .bool false, .bool false, .bool false, .bool false, .bool false, .bool false, .bool false, .int .i64 0] (n * 10)) 111)).setCell ⟨w.heap.size, 0, none⟩ (.bool true)) w.heap.size (factsAt s n 0) := by
  have h0 : RFs (w.alloc (.cells (madeCells #[.bool false, .bool false, .bool false, .bool false, .bool false, .bool false, .bool false, .bool false, .bool false, .int .i64 0] (n * 10)) 111)) w.heap.size (List.replicate n fc0) := by
    refine ⟨fun j hj c hc => ?_, fun i => World.frozen?_alloc_at _ _ _ _ rfl, by simp⟩
    rw [List.length_replicate] at hj
    rw [World.cell?_alloc_at _ _ _ _ rfl, List.getD_eq_getElem?_getD, List.getElem?_replicate, if_pos hj]
    have e : (j * 10 + c) % 10 = c := by omega
    have hlt : j * 10 + c < n * 10 := by omega
    simp only [madeCells, Array.getElem?_map, Array.getElem?_range, hlt, if_true, Option.map_some]
    show some (_ : Value) = _
    have h10 : c = 0 ∨ c = 1 ∨ c = 2 ∨ c = 3 ∨ c = 4 ∨ c = 5 ∨ c = 6 ∨ c = 7 ∨ c = 8 ∨ c = 9 := by omega
    rcases h10 with rfl | rfl | rfl | rfl | rfl | rfl | rfl | rfl | rfl | rfl <;> simp [e, rfC, fc0]
  refine ⟨fun j hj c hc => ?_, fun i => by rw [frozen_set]; exact h0.froz i, by simp [World.setCell]⟩
  rw [factsAt_len] at hj
  have ej : (factsAt s n 0).getD j fc0 = if j = 0 then ⟨true, [false, false, false, false], [false, false, false, false], 0⟩ else fc0 := by
    unfold factsAt
    simp only [List.getD_eq_getElem?_getD, List.getElem?_set, List.length_replicate, List.getElem?_replicate]
    by_cases z : j = 0
    · subst z; simp [show 0 < n by omega]
    · rw [if_neg (fun q => z q.symm), if_pos hj, if_neg z]; rfl
  rw [ej]
  by_cases q : j * 10 + c = 0
  · have z : j = 0 := by omega
    have z' : c = 0 := by omega
    subst z z'
    exact World.cell?_setCell_same _ _ _ (u := .bool false) (by
      have := h0.cell 0 (by rw [List.length_replicate]; omega) 0 (by omega)
      rw [List.getD_eq_getElem?_getD, List.getElem?_replicate, if_pos (by omega)] at this
      exact this)
  · rw [cell_set_off _ _ _ _ _ (fun z => q z.symm), h0.cell j (by rw [List.length_replicate]; exact hj) c hc]
    rw [List.getD_eq_getElem?_getD, List.getElem?_replicate, if_pos hj]
    by_cases z : j = 0
    · subst z
      rw [if_pos rfl]
      rcases c with _ | c
      · exact absurd rfl q
      · rfl
    · rw [if_neg z]; rfl
theorem rfc_vals (a : Fc) : ∃ y u0 u1 u2 u3 m0 m1 m2 m3 th, rfC a = #[.bool y, .bool u0, .bool u1, .bool u2, .bool u3, .bool m0, .bool m1, .bool m2, .bool m3, .int .i64 th] := ⟨_, _, _, _, _, _, _, _, _, _, rfl⟩
def rput10 (w : World) (g j : Nat) (y u0 u1 u2 u3 m0 m1 m2 m3 : Bool) (th : Int) : World :=
  (((((((((w.setCell ⟨g, j * 10, none⟩ (.bool y)).setCell ⟨g, j * 10 + 1, none⟩ (.bool u0)).setCell ⟨g, j * 10 + 2, none⟩ (.bool u1)).setCell ⟨g, j * 10 + 3, none⟩ (.bool u2)).setCell ⟨g, j * 10 + 4, none⟩ (.bool u3)).setCell ⟨g, j * 10 + 5, none⟩ (.bool m0)).setCell ⟨g, j * 10 + 6, none⟩ (.bool m1)).setCell ⟨g, j * 10 + 7, none⟩ (.bool m2)).setCell ⟨g, j * 10 + 8, none⟩ (.bool m3)).setCell ⟨g, j * 10 + 9, none⟩ (.int .i64 th)
theorem rput10_eq (w : World) (g j : Nat) (a : Fc) {y u0 u1 u2 u3 m0 m1 m2 m3 : Bool} {th : Int} (h : rfC a = #[.bool y, .bool u0, .bool u1, .bool u2, .bool u3, .bool m0, .bool m1, .bool m2, .bool m3, .int .i64 th]) : rput10 w g j y u0 u1 u2 u3 m0 m1 m2 m3 th = rputFc w g j a := by
  have e : rputFc w g j a = w.setCells g (j * 10) (rfC a).toList := rfl
  rw [e, h]; rfl
theorem RFs.cells {w : World} {g : Nat} {F : List Fc} (h : RFs w g F) (j : Nat) (hj : j < F.length) {y u0 u1 u2 u3 m0 m1 m2 m3 : Bool} {th : Int} (e : rfC (F.getD j fc0) = #[.bool y, .bool u0, .bool u1, .bool u2, .bool u3, .bool m0, .bool m1, .bool m2, .bool m3, .int .i64 th]) :
    w.cell? ⟨g, j * 10, none⟩ = some (.bool y) ∧ w.cell? ⟨g, j * 10 + 1, none⟩ = some (.bool u0) ∧ w.cell? ⟨g, j * 10 + 2, none⟩ = some (.bool u1) ∧ w.cell? ⟨g, j * 10 + 3, none⟩ = some (.bool u2) ∧ w.cell? ⟨g, j * 10 + 4, none⟩ = some (.bool u3) ∧ w.cell? ⟨g, j * 10 + 5, none⟩ = some (.bool m0) ∧ w.cell? ⟨g, j * 10 + 6, none⟩ = some (.bool m1) ∧ w.cell? ⟨g, j * 10 + 7, none⟩ = some (.bool m2) ∧ w.cell? ⟨g, j * 10 + 8, none⟩ = some (.bool m3) ∧ w.cell? ⟨g, j * 10 + 9, none⟩ = some (.int .i64 th) := by
  have c := h.cell j hj
  rw [e] at c
  exact ⟨c 0 (by omega), c 1 (by omega), c 2 (by omega), c 3 (by omega), c 4 (by omega), c 5 (by omega), c 6 (by omega), c 7 (by omega), c 8 (by omega), c 9 (by omega)⟩
end Go.Proofs.YtclpnafiiobfhaaGreatDoor

import Derived.Test.YtclpnafiiobfhaaDoorInfo8
import Derived.Test.YtclpnafiiobfhaaDoorPlain
import Derived.Test.YtclpnafiiobfhaaDoorProg
import Derived.WalkKit
import Derived.WalkSpells
import Derived.WalkLawsBesides
import Derived.Deep.OwnRows
import Derived.Lib.BufferWrite
import Derived.Lib.SlBuf
import Derived.Lib.SlBytesRow
namespace Go.Proofs.YtclpnafiiobfhaaDoor
open Go.RowKit
set_option linter.unusedVariables false
set_option linter.unusedSimpArgs false

/-- a text's bytes with two of room behind -/
def roomC (s : ByteArray) (x y : Int) : Array Value := (Lib.byteCells s.data.toList ++ ([.int .u8 x, .int .u8 y] : List Value)).toArray
theorem byteCells_len (s : ByteArray) : (Lib.byteCells s.data.toList).length = s.size := by
  simp [Lib.byteCells]
theorem roomC_lt (s : ByteArray) (x y : Int) (i : Nat) (h : i < s.size) : (roomC s x y)[i]? = some (.int .u8 (nth s i)) := by
  have h' : i < s.data.toList.length := by simpa using h
  unfold roomC nth
  rw [List.getElem?_toArray, List.getElem?_append_left (by rw [byteCells_len]; exact h)]
  simp only [Lib.byteCells, List.getElem?_map, List.getD_eq_getElem?_getD, List.getElem?_eq_getElem h', Option.map_some, Option.getD_some]
theorem roomC_x (s : ByteArray) (x y : Int) : (roomC s x y)[s.size]? = some (.int .u8 x) := by
  unfold roomC
  rw [List.getElem?_toArray, List.getElem?_append_right (by rw [byteCells_len]; exact Nat.le_refl _), byteCells_len]
  simp
theorem roomC_y (s : ByteArray) (x y : Int) : (roomC s x y)[s.size + 1]? = some (.int .u8 y) := by
  unfold roomC
  rw [List.getElem?_toArray, List.getElem?_append_right (by rw [byteCells_len]; omega), byteCells_len]
  simp
theorem roomC_setx (s : ByteArray) (x y x' : Int) : (roomC s x y).setIfInBounds s.size (.int .u8 x') = roomC s x' y := by
  unfold roomC
  rw [List.setIfInBounds_toArray, List.set_append_right _ _ (by rw [byteCells_len]; exact Nat.le_refl _), byteCells_len]
  simp
theorem roomC_sety (s : ByteArray) (x y y' : Int) : (roomC s x y).setIfInBounds (s.size + 1) (.int .u8 y') = roomC s x y' := by
  unfold roomC
  rw [List.setIfInBounds_toArray, List.set_append_right _ _ (by rw [byteCells_len]; omega), byteCells_len]
  simp


theorem setRow_alloc (w : World) (c d : Array Value) (t : TypeId) : (w.alloc (.cells c t)).setRow w.heap.size d = w.alloc (.cells d t) := by
  unfold World.setRow World.alloc
  congr 1
  apply Array.ext
  · simp
  · intro k h1 h2
    simp only [Array.getElem_modify, Array.getElem_push]
    split
    · rename_i hk; subst hk; simp
    · rename_i hk
      simp at h1
      have : k < w.heap.size := by omega
      simp [this]

theorem copy_room (s : ByteArray) (w : World) (sT ty : TypeId) :
    (Builtin.copy_ #[35, sT] ty #[.slice (some ⟨w.heap.size, 0, none⟩) (s.size + 2) (s.size + 2), .string s]).run Tryd.prog (w.alloc (.cells (madeCells #[.int .u8 0] (s.size + 2)) 5)) =
      .ok (goInt s.size) (w.alloc (.cells (roomC s 0 0) 5)) := by
  rw [Lib.run_copy_row_string (P := Tryd.prog) _ 35 sT ty 5 w.heap.size 0 (s.size + 2) (s.size + 2) s (madeCells #[.int .u8 0] (s.size + 2)) 5 Tryd.underlying35 Tryd.size8 (by show (w.heap.push _)[w.heap.size]? = _; simp) (by omega) (by rw [size_madeCells]; omega)]
  rw [setRow_alloc]
  congr 4
  rw [toList_madeCells_one]
  simp [List.drop_replicate, roomC]

set_option maxHeartbeats 400000 in
theorem roomy_any (s : ByteArray) (w : World) (hs : s.size ≤ 262144) :
    Calls Tryd.prog 20 #[.string s] w fun e w' => e = .returned (.slice (some ⟨w.heap.size, 0, none⟩) s.size (s.size + 2)) ∧ w' = w.alloc (.cells (roomC s 77 88) 5) := by
  have hmk : ∀ w, (Instr.makeSlice 35 (.int .i64 ((s.size : Int) + 2)) (.int .i64 ((s.size : Int) + 2))).run Tryd.prog w = .ok (.slice (some ⟨w.heap.size, 0, none⟩) (s.size + 2) (s.size + 2)) (w.alloc (.cells (madeCells #[.int .u8 0] (s.size + 2)) 5)) := by
    intro w
    have h := run_make_row' (P := Tryd.prog) 35 5 (.int .u8 0) 1 Tryd.underlying35 Tryd.info8 rfl .i64 .i64 (s.size + 2) (by omega) (by omega) w
    rw [show (((s.size + 2 : Nat)) : Int) = (s.size : Int) + 2 from by omega] at h
    exact h
  have hcp := copy_room s w 9 3
  have g1 := roomC_x s 0 0
  have g2 := roomC_y s 77 0
  have k1 := roomC_setx s 0 0 77
  have k2 := roomC_sety s 77 0 88
  go_enter Tryd.func20, Tryd.ntmps20
  go_wp2_with (at_builtin; refine Lib.wpList_copy_run _ rfl _ _ 35 9 rfl _ _ rfl rfl hcp ?_)
  go_ret
  exact ⟨rfl, rfl⟩

/-- the text and the two bytes behind it lie at block g -/
def Roomy (w : World) (g : Nat) (s : ByteArray) : Prop := ∀ i v, (roomC s 77 88)[i]? = some v → w.cell? ⟨g, i, none⟩ = some v
theorem Roomy.row {w : World} {g : Nat} {s : ByteArray} (h : Roomy w g s) (i : Nat) (hi : i < s.size) : w.cell? ⟨g, 0 + i, none⟩ = some (.int .u8 (nth s i)) := by
  rw [Nat.zero_add]; exact h i _ (roomC_lt s 77 88 i hi)
theorem Roomy.below {w w' : World} {g : Nat} {s : ByteArray} (h : Roomy w g s) (hg : g < w.heap.size) (hb : Below w.heap.size w w') : Roomy w' g s := fun i v hv => by
  rw [hb.cell (p := ⟨g, i, none⟩) hg]; exact h i v hv
theorem Roomy.made (w : World) (s : ByteArray) : Roomy (w.alloc (.cells (roomC s 77 88) 5)) w.heap.size s := fun i v hv => by
  rw [World.cell?_alloc_at _ _ _ _ rfl]; exact hv
theorem Roomy.alloc {w : World} {g : Nat} {s : ByteArray} (h : Roomy w g s) (hg : g < w.heap.size) (o : Obj) : Roomy (w.alloc o) g s := fun i v hv => by
  rw [World.cell?_alloc_lt _ _ ⟨g, i, none⟩ hg]; exact h i v hv

set_option maxHeartbeats 400000 in
theorem still_any (s : ByteArray) (g : Nat) (w : World) (hs : s.size ≤ 262144) (hr : Roomy w g s) :
    Calls Tryd.prog 21 #[.slice (some ⟨g, 0, none⟩) s.size (s.size + 2), .string s] w fun e w' => e = .returned (.bool true) ∧ w' = w := by
  have hcv := Lib.run_convert_whole (P := Tryd.prog) w 35 5 9 Tryd.underlying35 Tryd.underlying5 Tryd.underlying9 g 0 s (fun i hi => by rw [nth_at s i hi]; exact hr.row i hi) (s.size + 2)
  have c0 := hr s.size _ (roomC_x s 77 88)
  have c1 := hr (s.size + 1) _ (roomC_y s 77 88)
  have l0 : (s.size : Int) < (s.size : Int) + 2 := by omega
  have l1 : (s.size : Int) + 1 < (s.size : Int) + 2 := by omega
  clear hr
  go_enter Tryd.func21, Tryd.ntmps21
  go_wp2
  go_ret
  exact ⟨rfl, rfl⟩
end Go.Proofs.YtclpnafiiobfhaaDoor

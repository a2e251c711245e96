import Derived.Test.YtclpnafiiobfhaaRefParse
import Derived.Test.YtclpnafiiobfhaaRoom
namespace Go.Proofs.Ytclpnafiiobfhaa
open Go.RowKit
set_option linter.unusedVariables false
set_option linter.unusedSimpArgs false

set_option maxHeartbeats 1600000 in
theorem parsed_any (s : ByteArray) (w : World) (hs : s.size ≤ 262144) :
    Calls Try.prog 4 #[.string s] w fun e w' => e = .returned (.bool true) ∧ Below w.heap.size w w' := by
  have hs' : s.size ≤ maxLen := by unfold maxLen; omega
  obtain ⟨x0, x1, x2, x3, x4, x5, hx⟩ := parsedAs_form s
  have HX : Hid (parsedAs s = .tuple #[.agg #[.int .u32 x0, .int .u32 x1, .int .u8 x2, .int .u16 x3, .int .u16 x4, .int .u8 x5], .int .u8 (cls s)]) := hx
  clear hx
  go_enter Try.func4, Try.ntmps4
  go_wp2_with fail
  refine (roomy_any s _ hs).mono ?_
  rintro e w' ⟨rfl, rfl⟩
  go_wp2_with fail
  refine (parse_any s w.heap.size 0 (s.size + 2) _ hs' (fun i hi => (Roomy.made w s).row i hi) (by simp)).mono ?_
  rintro e w1 ⟨rfl, hb1⟩
  rw [HX.out]
  have R1 : Hid (Roomy w1 w.heap.size s) := (Roomy.made w s).below (by simp) hb1
  have B1 : Hid (Below w.heap.size w w1) := ((Below.refl _ _).alloc (Nat.le_refl _) _).trans (hb1.mono (by simp))
  have z1 : w.heap.size < w1.heap.size := by have := hb1.size; simp at this; omega
  clear hb1
  go_wp2_with fail
  refine (refParse_any s _ hs').mono ?_
  rintro e w2 ⟨rfl, hb2⟩
  rw [HX.out]
  have R2 : Hid (Roomy w2 w.heap.size s) := (R1.out.alloc z1 _).below (by simp; omega) hb2
  have B2 : Hid (Below w.heap.size w w2) := (B1.out.alloc (by omega) _).trans (hb2.mono (by simp; omega))
  have z2 : w1.heap.size < w2.heap.size := by have := hb2.size; simp at this; omega
  have q0 := hb2.cell (p := ⟨w1.heap.size, 0, none⟩) (by simp)
  have q1 := hb2.cell (p := ⟨w1.heap.size, 1, none⟩) (by simp)
  have q2 := hb2.cell (p := ⟨w1.heap.size, 2, none⟩) (by simp)
  have q3 := hb2.cell (p := ⟨w1.heap.size, 3, none⟩) (by simp)
  have q4 := hb2.cell (p := ⟨w1.heap.size, 4, none⟩) (by simp)
  have q5 := hb2.cell (p := ⟨w1.heap.size, 5, none⟩) (by simp)
  simp at q0 q1 q2 q3 q4 q5
  clear hb2
  go_wp2_with fail
  refine (still_any s w.heap.size _ hs (R2.out.alloc (by omega) _)).mono ?_
  rintro e w3 ⟨rfl, rfl⟩
  go_wp2
  go_ret
  exact ⟨rfl, B2.out.alloc (by omega) _⟩

set_option maxHeartbeats 400000 in
theorem parses_any (s : ByteArray) (w : World) (hm : s.size ≤ maxLen) :
    Calls Try.prog 3 #[.string s] w fun e w' => e = .returned (.bool true) ∧ Below w.heap.size w w' := by
  unfold maxLen at hm
  by_cases h : 262144 < s.size
  · have h' : (262144 : Int) < (s.size : Int) := by omega
    go_enter Try.func3, Try.ntmps3
    go_wp2
    go_ret
    exact ⟨rfl, Below.refl _ _⟩
  · have h' : (s.size : Int) ≤ 262144 := by omega
    go_enter Try.func3, Try.ntmps3
    go_wp2_with fail
    refine (parsed_any s _ (by omega)).mono ?_
    rintro e w1 ⟨rfl, hb⟩
    go_wp2
    go_ret
    exact ⟨rfl, hb⟩
end Go.Proofs.Ytclpnafiiobfhaa

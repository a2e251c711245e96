import Derived.Test.YtclpnafiiobfhaaDoorMCheck
import Derived.Test.YtclpnafiiobfhaaDoorRUses
import Derived.Test.YtclpnafiiobfhaaDoorRoom
namespace Go.Proofs.YtclpnafiiobfhaaDoor
open Go.RowKit
set_option linter.unusedVariables false
set_option linter.unusedSimpArgs false

theorem rcheck_any (s : ByteArray) (k i : Int) (w : World) (hs : s.size ≤ maxLen) (h : Out s k i) :
    Calls Tryd.prog 26 #[.string s] w fun e w' => e = .returned (.tuple #[.int .i64 k, .int .i64 i]) ∧ Below w.heap.size w w' := by
  rcases h with ⟨i, ht, rfl, rfl⟩ | ⟨n, i, hF, hi, h1, h2, rfl, rfl⟩ | ⟨n, i, hJ, hi, h1, h2, h3, h4, rfl⟩ | ⟨n, hF, rfl, rfl⟩
  · exact rcheck_torn s i w hs ht
  · exact rcheck_jump s n i w hF hi h1 h2
  · refine (rcheck_use s n i k w hJ (by omega) h4 (fun _ => ⟨h1, h2, h3⟩)).mono ?_
    rintro e w' ⟨hb, _, he⟩
    exact ⟨he hi, hb⟩
  · refine (rcheck_use s n n 0 w hF.toJumps (Nat.le_refl _) hF.uses (fun q => absurd q (by omega))).mono ?_
    rintro e w' ⟨hb, he, _⟩
    exact ⟨he rfl, hb⟩

set_option maxHeartbeats 800000 in
theorem checked_any (s : ByteArray) (w : World) (hL : Laid w) (hs : s.size ≤ 262144) :
    Calls Tryd.prog 12 #[.string s] w fun e w' => e = .returned (.bool true) ∧ Below w.heap.size w w' := by
  have hs' : s.size ≤ maxLen := by unfold maxLen; omega
  have HL : Hid (Laid w) := hL
  obtain ⟨k, i, hO⟩ := out_total s
  have HO : Hid (Out s k i) := hO
  clear hL hO
  go_enter Tryd.func12, Tryd.ntmps12
  go_wp2_with fail
  refine (roomy_any s _ hs).mono ?_
  rintro e w0 ⟨rfl, hw0⟩
  have HR0 : Hid (Roomy w0 w.heap.size s) := by rw [hw0]; exact Roomy.made w s
  have HB0 : Hid (Below w.heap.size w w0) := by
    show Below w.heap.size w w0
    rw [hw0]; exact (Below.refl _ _).alloc (Nat.le_refl _) _
  have z0 : w.heap.size < w0.heap.size := by rw [hw0]; simp
  clear hw0
  go_wp2_with fail
  refine (plCheck_any s k i w.heap.size 0 (s.size + 2) _ (HL.out.below HB0.out) (by omega) (by unfold maxLen; omega) z0 (fun i hi => HR0.out.row i hi) HO.out).mono ?_
  rintro e w1 ⟨rfl, hb1⟩
  have HR1 : Hid (Roomy w1 w.heap.size s) := HR0.out.below z0 hb1
  have HB1 : Hid (Below w.heap.size w w1) := HB0.out.trans (hb1.mono HB0.out.size)
  clear hb1
  go_wp2_with fail
  refine (still_any s w.heap.size _ hs HR1.out).mono ?_
  rintro e w2 ⟨rfl, hw2⟩
  obtain rfl : w1 = w2 := hw2.symm
  go_wp2_with fail
  refine (rcheck_any s k i _ hs' HO.out).mono ?_
  rintro e w3 ⟨rfl, hb3⟩
  have HB3 : Hid (Below w.heap.size w w3) := HB1.out.trans (hb3.mono HB1.out.size)
  clear hb3
  go_wp2_with fail
  go_ret
  exact ⟨ret_bool (by simp), HB3.out⟩

set_option maxHeartbeats 400000 in
theorem checks_any (s : ByteArray) (w : World) (hL : Laid w) (hm : s.size ≤ maxLen) :
    Calls Tryd.prog 5 #[.string s] w fun e w' => e = .returned (.bool true) ∧ Below w.heap.size w w' := by
  unfold maxLen at hm
  by_cases h : 262144 < s.size
  · have h' : (262144 : Int) < (s.size : Int) := by omega
    go_enter Tryd.func5, Tryd.ntmps5
    go_wp2_with fail
    go_ret
    exact ⟨rfl, Below.refl _ _⟩
  · have h' : (s.size : Int) ≤ 262144 := by omega
    have HC : Hid (Calls Tryd.prog 12 _ _ _) := checked_any s w hL (by omega)
    clear hL
    go_enter Tryd.func5, Tryd.ntmps5
    go_wp2_with fail
    refine HC.out.mono ?_
    rintro e w1 ⟨rfl, hb⟩
    go_wp2_with fail
    go_ret
    exact ⟨rfl, hb⟩
end Go.Proofs.YtclpnafiiobfhaaDoor

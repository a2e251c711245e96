import Derived.Test.YtclpnafiiobfhaaDoorTold
namespace Go.Proofs.YtclpnafiiobfhaaDoor
open Go.RowKit
set_option linter.unusedVariables false
set_option linter.unusedSimpArgs false

set_option maxHeartbeats 800000 in
theorem plainTold0 (w : World) :
    Calls Tryd.prog 19 #[.int .i64 0] w fun e w' => e = .returned (.tuple #[.int .i64 0, .int .i64 0]) ∧ Below w.heap.size w w' := by
  go_enter Tryd.func19, Tryd.ntmps19
  go_wp2_with fail
  refine (told_nil _).mono ?_
  rintro e w1 ⟨rfl, hb⟩
  go_wp2
  go_ret2
  exact ⟨rfl, hb⟩
set_option maxHeartbeats 800000 in
theorem plainTold1 (w : World) (hL : Laid w) :
    Calls Tryd.prog 19 #[.int .i64 1] w fun e w' => e = .returned (.tuple #[.int .i64 1, .int .i64 0]) ∧ Below w.heap.size w w' := by
  have HL : Hid (Laid w) := hL
  clear hL
  go_enter Tryd.func19, Tryd.ntmps19
  go_wp2_with fail
  refine (told_kind 1 _ HL.out).mono ?_
  rintro e w1 ⟨rfl, hb⟩
  go_wp2
  go_ret2
  exact ⟨rfl, hb⟩
set_option maxHeartbeats 800000 in
theorem plainTold2 (w : World) (hL : Laid w) :
    Calls Tryd.prog 19 #[.int .i64 2] w fun e w' => e = .returned (.tuple #[.int .i64 5, .int .i64 3]) ∧ Below w.heap.size w w' := by
  have HL : Hid (Laid w) := hL
  clear hL
  go_enter Tryd.func19, Tryd.ntmps19
  go_wp2_with fail
  refine (told_rule w.heap.size 5 3 _ (HL.out.alloc _) (by simp) (by rw [World.cell?_alloc_at _ _ _ _ rfl]; rfl) (by rw [World.cell?_alloc_at _ _ _ _ rfl]; rfl)).mono ?_
  rintro e w1 ⟨rfl, hb⟩
  go_wp2
  go_ret2
  exact ⟨rfl, ((Below.refl _ _).alloc (Nat.le_refl _) _).trans (hb.mono (by simp))⟩
set_option maxHeartbeats 800000 in
theorem plainTold3 (w : World) (hL : Laid w) :
    Calls Tryd.prog 19 #[.int .i64 3] w fun e w' => e = .returned (.tuple #[.int .i64 13, .int .i64 5]) ∧ Below w.heap.size w w' := by
  have HL : Hid (Laid w) := hL
  clear hL
  go_enter Tryd.func19, Tryd.ntmps19
  go_wp2_with fail
  refine (told_code w.heap.size 13 5 _ (HL.out.alloc _) (by simp) (by rw [World.cell?_alloc_at _ _ _ _ rfl]; rfl) (by rw [World.cell?_alloc_at _ _ _ _ rfl]; rfl)).mono ?_
  rintro e w1 ⟨rfl, hb⟩
  go_wp2
  go_ret2
  exact ⟨rfl, ((Below.refl _ _).alloc (Nat.le_refl _) _).trans (hb.mono (by simp))⟩
set_option maxHeartbeats 800000 in
theorem tellT (n k l : Int) (w : World) (h : Calls Tryd.prog 19 #[.int .i64 n] w fun e w' => e = .returned (.tuple #[.int .i64 k, .int .i64 l]) ∧ Below w.heap.size w w') :
    Calls Tryd.prog 9 #[.int .i64 n, .int .i64 k, .int .i64 l] w fun e w' => e = .returned (.bool true) ∧ Below w.heap.size w w' := by
  have HH := Hid.out (p := True) trivial
  have HC : Hid (Calls Tryd.prog 19 #[.int .i64 n] w fun e w' => e = .returned (.tuple #[.int .i64 k, .int .i64 l]) ∧ Below w.heap.size w w') := h
  clear h HH
  go_enter Tryd.func9, Tryd.ntmps9
  go_wp2_with fail
  refine HC.out.mono ?_
  rintro e w1 ⟨rfl, hb⟩
  go_wp2
  go_ret
  exact ⟨by simp, hb⟩
set_option maxHeartbeats 800000 in
theorem names_any (w : World) (hL : Laid w) :
    Calls Tryd.prog 3 #[] w fun e w' => e = .returned (.bool true) ∧ Below w.heap.size w w' := by
  have HL : Hid (Laid w) := hL
  clear hL
  go_enter Tryd.func3, Tryd.ntmps3
  go_wp2_with fail
  refine (tellT 0 0 0 _ (plainTold0 _)).mono ?_
  rintro e w1 ⟨rfl, hb1⟩
  have L1 : Hid (Laid w1) := HL.out.below hb1
  go_wp2_with fail
  refine (tellT 1 1 0 _ (plainTold1 _ L1.out)).mono ?_
  rintro e w2 ⟨rfl, hb2⟩
  have L2 : Hid (Laid w2) := L1.out.below hb2
  go_wp2_with fail
  refine (tellT 2 5 3 _ (plainTold2 _ L2.out)).mono ?_
  rintro e w3 ⟨rfl, hb3⟩
  have L3 : Hid (Laid w3) := L2.out.below hb3
  go_wp2_with fail
  refine (tellT 3 13 5 _ (plainTold3 _ L3.out)).mono ?_
  rintro e w4 ⟨rfl, hb4⟩
  go_wp2
  go_ret
  have s1 := hb1.size
  have s2 := hb2.size
  have s3 := hb3.size
  exact ⟨rfl, ((hb1.trans (hb2.mono (by omega))).trans (hb3.mono (by omega))).trans (hb4.mono (by omega))⟩
end Go.Proofs.YtclpnafiiobfhaaDoor

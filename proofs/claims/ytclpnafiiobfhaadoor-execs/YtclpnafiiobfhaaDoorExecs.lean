import Derived.Test.YtclpnafiiobfhaaDoorMExecs
import Derived.Test.YtclpnafiiobfhaaDoorRExec
import Derived.Test.YtclpnafiiobfhaaDoorRoom
namespace Go.Proofs.YtclpnafiiobfhaaDoor
open Go.RowKit
set_option linter.unusedVariables false
set_option linter.unusedSimpArgs false

theorem rexec_any (s d : ByteArray) (q : Int × Int) (v : Int) (z : Nat) (k : Int) (w : World) (hs : s.size ≤ maxLen) (hd : d.size ≤ 262144) (q0 : 0 ≤ q.1 ∧ q.1 ≤ 4294967295) (q1 : 0 ≤ q.2 ∧ q.2 ≤ 4294967295) (h : Ran s d q v z k) :
    Calls Tryd.prog 28 #[.string s, .string d, .agg #[.int .u32 q.1, .int .u32 q.2]] w fun e w' => e = .returned (.tuple #[.int .i64 v, .int .i64 z, .int .i64 k]) ∧ Below w.heap.size w w' := by
  rcases h with ⟨i, ht, rfl, rfl, rfl⟩ | ⟨n, hF, hG⟩
  · exact rexec_torn s d q i w hs ht
  · exact rexec_run s d n q v z k w hF hG hd q0 q1
/-- a verdict is a byte -/
theorem ran_v {s d : ByteArray} {q : Int × Int} {v : Int} {z : Nat} {k : Int} (h : Ran s d q v z k) : 0 ≤ v ∧ v ≤ 255 := by
  rcases h with ⟨i, ht, rfl, rfl, rfl⟩ | ⟨n, hF, hG⟩
  · omega
  · have : ∀ (fl i c : Nat) (a : St) (v : Int) (z : Nat) (k : Int), GoesF s n d q fl i c a v z k → 0 ≤ v ∧ v ≤ 255 := by
      intro fl
      induction fl with
      | zero => intro i c a v z k h; have := h.2.1; omega
      | succ fl ih =>
        intro i c a v z k h
        rcases h with ⟨_, rfl, _, _⟩ | ⟨h, ho, rfl, rfl, rfl⟩ | ⟨_, _, _, rfl, _, _⟩ | ⟨_, _, _, hgo⟩
        · omega
        · have hf := hF.fits i h
          have := (insAt_bd s i).k
          unfold Ins.fits at hf
          rw [if_pos ho] at hf
          simp only [Bool.and_eq_true, decide_eq_true_eq] at hf
          omega
        · omega
        · exact ih _ _ _ _ _ _ hgo
    obtain ⟨fl, hG⟩ := hG
    exact this fl _ _ _ _ _ _ hG

set_option maxHeartbeats 1600000 in
theorem execed_any (s d : ByteArray) (a b : Int) (w : World) (hL : Laid w) (hs : s.size ≤ 262144) (hd : d.size ≤ 262144) :
    Calls Tryd.prog 13 #[.string s, .string d, .int .i64 a, .int .i64 b] w fun e w' => e = .returned (.bool true) ∧ Below w.heap.size w w' := by
  have hs' : s.size ≤ maxLen := by unfold maxLen; omega
  have HL : Hid (Laid w) := hL
  obtain ⟨v, z, k, hO⟩ := ran_total s d (a % 4294967296, b % 4294967296)
  have HO : Hid (Ran s d (a % 4294967296, b % 4294967296) v z k) := hO
  have bv := ran_v hO
  have wv : IntKind.i64.wrap v = v := by rw [IntKind.wrap_i64]; omega
  clear hL hO
  go_enter Tryd.func13, Tryd.ntmps13
  go_wp2_with fail
  refine (roomy_any s _ hs).mono ?_
  rintro e w0 ⟨rfl, hw0⟩
  have HR0 : Hid (Roomy w0 w.heap.size s) := by rw [hw0]; exact Roomy.made w s
  have HB0 : Hid (Below w.heap.size w w0) := by
    show Below w.heap.size w w0
    rw [hw0]; exact (Below.refl _ _).alloc (Nat.le_refl _) _
  have z0 : w.heap.size < w0.heap.size := by rw [hw0]; simp
  clear hw0
  go_wp2_with fail
  refine (roomy_any d _ hd).mono ?_
  rintro e w1 ⟨rfl, hw1⟩
  have HR1 : Hid (Roomy w1 w0.heap.size d) := by rw [hw1]; exact Roomy.made w0 d
  have HBx : Hid (Below w0.heap.size w0 w1) := by
    show Below w0.heap.size w0 w1
    rw [hw1]; exact (Below.refl _ _).alloc (Nat.le_refl _) _
  have HS1 : Hid (Roomy w1 w.heap.size s) := HR0.out.below z0 HBx.out
  have HB1 : Hid (Below w.heap.size w w1) := HB0.out.trans (HBx.out.mono HB0.out.size)
  have z1 : w0.heap.size < w1.heap.size := by rw [hw1]; simp
  clear hw1 HBx
  go_wp2_with fail
  have HA : Hid (Below w1.heap.size w1 (w1.alloc (.cells #[.int .u32 (a % 4294967296), .int .u32 (b % 4294967296)] 54))) := (Below.refl _ _).alloc (Nat.le_refl _) _
  refine (plExec_any s d (a % 4294967296, b % 4294967296) v z k w.heap.size 0 (s.size + 2) w0.heap.size 0 (d.size + 2) _ ?hla HO.out (by omega) (by unfold maxLen; omega) ?hba ?hra ?hrb ?hbb (by omega) (by unfold maxLen; omega) (by omega) (by dsimp only; omega) (by dsimp only; omega)).mono ?_
  case hla => exact (HL.out.below HB1.out).alloc _
  case hba => simp; omega
  case hra => exact fun i hi => (HS1.out.alloc (by omega) _).row i hi
  case hrb => exact fun i hi => (HR1.out.alloc (by omega) _).row i hi
  case hbb => simp; omega
  rintro e w2 ⟨rfl, hb2⟩
  have HB2 : Hid (Below w1.heap.size w1 w2) := ((Below.refl _ _).alloc (Nat.le_refl _) _).trans (hb2.mono (by simp))
  have e0 : w2.cell? ⟨w1.heap.size, 0, none⟩ = some (.int .u32 (a % 4294967296)) := by rw [hb2.cell (p := ⟨w1.heap.size, 0, none⟩) (by simp), World.cell?_alloc_at _ _ _ _ rfl]; rfl
  have e1 : w2.cell? ⟨w1.heap.size, 1, none⟩ = some (.int .u32 (b % 4294967296)) := by rw [hb2.cell (p := ⟨w1.heap.size, 1, none⟩) (by simp), World.cell?_alloc_at _ _ _ _ rfl]; rfl
  have HS2 : Hid (Roomy w2 w.heap.size s) := HS1.out.below (by omega) HB2.out
  have HR2 : Hid (Roomy w2 w0.heap.size d) := HR1.out.below z1 HB2.out
  have HBw : Hid (Below w.heap.size w w2) := HB1.out.trans (HB2.out.mono HB1.out.size)
  clear hb2 HA
  go_wp2_with fail
  refine (still_any s w.heap.size _ hs HS2.out).mono ?_
  rintro e w3 ⟨rfl, hw3⟩
  obtain rfl : w2 = w3 := hw3.symm
  go_wp2_with fail
  refine (still_any d w0.heap.size _ hd HR2.out).mono ?_
  rintro e w3 ⟨rfl, hw3⟩
  obtain rfl : w2 = w3 := hw3.symm
  go_wp2_with fail
  refine (rexec_any s d (a % 4294967296, b % 4294967296) v z k _ hs' hd (by dsimp only; omega) (by dsimp only; omega) HO.out).mono ?_
  rintro e w4 ⟨rfl, hb4⟩
  have HB4 : Hid (Below w.heap.size w w4) := HBw.out.trans (hb4.mono HBw.out.size)
  clear hb4
  go_wp2_with fail
  go_ret
  exact ⟨ret_bool (by simp), HB4.out⟩

set_option maxHeartbeats 400000 in
theorem execs_any (s d : ByteArray) (a b : Int) (w : World) (hL : Laid w) (hm : s.size ≤ maxLen) (hm2 : d.size ≤ maxLen) :
    Calls Tryd.prog 6 #[.string s, .string d, .int .i64 a, .int .i64 b] w fun e w' => e = .returned (.bool true) ∧ Below w.heap.size w w' := by
  unfold maxLen at hm hm2
  by_cases h : 262144 < s.size
  · have h' : (262144 : Int) < (s.size : Int) := by omega
    go_enter Tryd.func6, Tryd.ntmps6
    go_wp2_with fail
    go_ret
    exact ⟨rfl, Below.refl _ _⟩
  have h' : (s.size : Int) ≤ 262144 := by omega
  by_cases g : 262144 < d.size
  · have g' : (262144 : Int) < (d.size : Int) := by omega
    go_enter Tryd.func6, Tryd.ntmps6
    go_wp2_with fail
    go_ret
    exact ⟨rfl, Below.refl _ _⟩
  have g' : (d.size : Int) ≤ 262144 := by omega
  have HC : Hid (Calls Tryd.prog 13 _ _ _) := execed_any s d a b w hL (by omega) (by omega)
  clear hL
  go_enter Tryd.func6, Tryd.ntmps6
  go_wp2_with fail
  refine HC.out.mono ?_
  rintro e w1 ⟨rfl, hb⟩
  go_wp2_with fail
  go_ret
  exact ⟨rfl, hb⟩
end Go.Proofs.YtclpnafiiobfhaaDoor

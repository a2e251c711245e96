import Derived.Test.YtclpnafiiobfhaaGreatDoorRFcs
import Derived.Test.YtclpnafiiobfhaaGreatDoorRBehind
import Derived.Test.YtclpnafiiobfhaaGreatDoorRFormed
namespace Go.Proofs.YtclpnafiiobfhaaGreatDoor
open Go.RowKit
set_option linter.unusedVariables false
set_option linter.unusedSimpArgs false

theorem rfZero : (Tryz.prog.info? 111).map (fun i => (i.zero, i.size, i.bytes)) = some (some (.agg #[.bool false, .bool false, .bool false, .bool false, .bool false, .bool false, .bool false, .bool false, .bool false, .int .i64 0]), 10, 24) := by kernel_rfl

set_option maxHeartbeats 800000 in
theorem rcheck_torn (s : ByteArray) (i : Nat) (w : World) (hs : s.size ≤ maxLen) (h : Torn s i) :
    Calls Tryz.prog 28 #[.string s] w fun e w' => e = .returned (.tuple #[.int .i64 10, .int .i64 i]) ∧ Below w.heap.size w w' := by
  have hF := formed_torn s i w hs h
  clear h
  go_enter Tryz.func28, Tryz.ntmps28
  go_wp2_with fail
  refine hF.mono ?_
  rintro e w1 ⟨rfl, hb⟩
  clear hF
  go_wp2_with fail
  go_ret2
  exact ⟨rfl, hb⟩

set_option maxHeartbeats 3200000 in
theorem rcheck_jump (s : ByteArray) (n z : Nat) (w : World) (h : Formed s n) (hz : z < n) (hbad : jumps s n z = true) (hgood : ∀ i, i < z → jumps s n i = false) :
    Calls Tryz.prog 28 #[.string s] w fun e w' => e = .returned (.tuple #[.int .i64 11, .int .i64 z]) ∧ Below w.heap.size w w' := by
  have hF := formed_fine s n w h
  have HD : Hid (∀ w, Calls Tryz.prog 35 #[.string s] w _) := fun w => decode_any s n w h.toSized
  have hn := h.most
  have HJ : Hid (∀ i, i < z → jumps s n i = false) := hgood
  have HBAD : Hid (jumps s n z = true) := hbad
  clear h hgood hbad
  go_enter Tryz.func28, Tryz.ntmps28
  go_wp2_with fail
  refine hF.mono ?_
  rintro e w0 ⟨rfl, hb0⟩
  have HB0 : Hid (Below w.heap.size w w0) := hb0
  clear hF hb0
  go_wp2_with fail
  refine (HD.out _).mono ?_
  rintro e w1 ⟨g, cap, rfl, hb1, hg, hR⟩
  have HB1 : Hid (Below w.heap.size w w1) := HB0.out.trans (hb1.mono HB0.out.size)
  have HR : Hid (Rd w1 g s n) := hR
  clear hb1 hR HD
  go_wp2_with fail
  go_loopw [7] (fun i wr => ∃ j : Nat, j ≤ z ∧ i = .int .i64 j ∧ Below w1.heap.size w1 wr) (fun i _ => n - (intOf i).toNat)
  case atStart => exact ⟨0, Nat.zero_le _, rfl, Below.refl _ _⟩
  case round =>
    obtain ⟨j, hj, rfl, hB⟩ := hrel
    have HB : Hid (Below w1.heap.size w1 wr) := hB
    clear hB
    have hlt : j < n := by omega
    have hW := ways_all s j n g cap wr hlt hn (HR.out.below HB.out)
    obtain ⟨os, hos⟩ : ∃ os, (insAt s j).overs = os := ⟨_, rfl⟩
    have HOB : Hid (∀ o ∈ os, 0 ≤ o ∧ o ≤ 4294967295) := by rw [← hos]; exact Ins.overs_bd (insAt_bd s j)
    have hm : os.length ≤ 2 := by
      rw [← hos]
      unfold Ins.overs; repeat' split
      all_goals simp
    rw [hos] at hW
    have HOS : Hid ((insAt s j).overs = os) := hos
    have HW : Hid (Calls _ _ _ wr _) := hW
    clear hW hos
    go_wp2_with fail
    refine HW.out.mono ?_
    rintro e w2 ⟨p, q, rfl, hp, hb2, hq, hq1, hO⟩
    have HB2 : Hid (Below w1.heap.size w1 w2) := HB.out.trans (hb2.mono HB.out.size)
    have HO : Hid (Wys w2 q j os) := hO
    have HP : Hid (0 < os.length → p = some ⟨q, 0, none⟩) := hp
    clear hp hb2 hq hq1 hO HW
    by_cases hjz : j < z
    · have HJ1 : Hid (∀ o ∈ os, (j : Int) + 1 + o < n) := by
        intro o ho
        have := HJ.out j hjz
        unfold jumps at this
        rw [HOS.out, List.any_eq_false] at this
        have := this o ho
        simp only [decide_eq_true_eq] at this
        omega
      go_wp2_with fail
      go_loop [9] (fun i => ∃ v : Nat, v ≤ os.length ∧ i = .int .i64 v) (fun i => os.length - (intOf i).toNat)
      case atStart => exact ⟨0, Nat.zero_le _, rfl⟩
      case round =>
        obtain ⟨v, hv, rfl⟩ := hrel
        by_cases hvl : v < os.length
        · obtain rfl := HP.out (by omega)
          have c := HO.out v hvl
          have hmem : os.getD v 0 ∈ os := by
            rw [List.getD_eq_getElem?_getD, List.getElem?_eq_getElem hvl]; simp
          have hob := HOB.out _ hmem
          have hjl := HJ1.out _ hmem
          obtain ⟨o, ho⟩ : ∃ o, (j : Int) + 1 + os.getD v 0 = o := ⟨_, rfl⟩
          rw [ho] at c hjl
          have hob2 : 0 ≤ o ∧ o ≤ 4294975488 := by omega
          clear hmem ho hob
          go_wp2_with fail
          go_round
          case rel => exact ⟨v + 1, by omega, by go_num⟩
          case measure => simp [intOf]; omega
        · have e : v = os.length := by omega
          subst e
          go_wp2_with fail
          go_roundw
          case rel => exact ⟨j + 1, by omega, by go_num, HB2.out⟩
          case measure => simp [intOf]; omega
    · have e : z = j := by omega
      subst e
      have hany := HBAD.out
      unfold jumps at hany
      rw [HOS.out] at hany
      obtain ⟨v0, hv0, hb0, hg0⟩ : ∃ v0, v0 < os.length ∧ (n : Int) ≤ z + 1 + os.getD v0 0 ∧ ∀ v, v < v0 → (z : Int) + 1 + os.getD v 0 < n := by
        rcases first_or (fun v => decide ((n : Int) ≤ z + 1 + os.getD v 0)) os.length with g | ⟨v0, h0, h1, h2⟩
        · exfalso
          rw [List.any_eq_true] at hany
          obtain ⟨o, ho, hd⟩ := hany
          obtain ⟨v, hv, rfl⟩ := List.getElem_of_mem ho
          have := g v hv
          rw [List.getD_eq_getElem?_getD, List.getElem?_eq_getElem hv] at this
          simp only [Option.getD_some] at this
          rw [this] at hd; cases hd
        · exact ⟨v0, h0, by simpa using h1, fun v hv => by have := h2 v hv; simp only [decide_eq_false_iff_not] at this; omega⟩
      have HB0' : Hid ((n : Int) ≤ z + 1 + os.getD v0 0) := hb0
      have HG0 : Hid (∀ v, v < v0 → (z : Int) + 1 + os.getD v 0 < n) := hg0
      clear hany hb0 hg0
      go_wp2_with fail
      go_loop [9] (fun i => ∃ v : Nat, v ≤ v0 ∧ i = .int .i64 v) (fun i => os.length - (intOf i).toNat)
      case atStart => exact ⟨0, Nat.zero_le _, rfl⟩
      case round =>
        obtain ⟨v, hv, rfl⟩ := hrel
        have hvl : v < os.length := by omega
        obtain rfl := HP.out (by omega)
        have c := HO.out v hvl
        have hmem : os.getD v 0 ∈ os := by
          rw [List.getD_eq_getElem?_getD, List.getElem?_eq_getElem hvl]; simp
        have hob := HOB.out _ hmem
        by_cases hvv : v < v0
        · have hjl := HG0.out v hvv
          obtain ⟨o, ho⟩ : ∃ o, (z : Int) + 1 + os.getD v 0 = o := ⟨_, rfl⟩
          rw [ho] at c hjl
          have hob2 : 0 ≤ o ∧ o ≤ 4294975488 := by omega
          clear hmem ho hob
          go_wp2_with fail
          go_round
          case rel => exact ⟨v + 1, by omega, by go_num⟩
          case measure => simp [intOf]; omega
        · have e : v = v0 := by omega
          subst e
          have hjl := HB0'.out
          obtain ⟨o, ho⟩ : ∃ o, (z : Int) + 1 + os.getD v 0 = o := ⟨_, rfl⟩
          rw [ho] at c hjl
          have hob2 : 0 ≤ o ∧ o ≤ 4294975488 := by omega
          clear hmem ho hob
          go_wp2_with fail
          go_ret2
          exact ⟨rfl, HB1.out.trans (HB2.out.mono HB1.out.size)⟩
end Go.Proofs.YtclpnafiiobfhaaGreatDoor

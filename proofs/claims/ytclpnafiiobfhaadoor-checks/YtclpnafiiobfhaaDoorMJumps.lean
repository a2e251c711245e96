import Derived.Test.YtclpnafiiobfhaaDoorMExits
import Derived.Test.YtclpnafiiobfhaaDoorMCd
namespace Go.Proofs.YtclpnafiiobfhaaDoor
open Go.RowKit
set_option linter.unusedVariables false
set_option linter.unusedSimpArgs false

set_option maxHeartbeats 1600000 in
theorem jumps_fine (s : ByteArray) (n g : Nat) (w : World) (hn : n ≤ 4096) (hC : Cd w g s n) (h : ∀ i, i < n → jumps s n i = false) :
    Calls Tryd.prog 66 #[.slice (some ⟨g, 0, none⟩) n n] w fun e w' => e = .returned .nilIface ∧ Below w.heap.size w w' := by
  have HC : Hid (Cd w g s n) := hC
  have HJ : Hid (∀ i, i < n → jumps s n i = false) := h
  have hg := hC.lt
  clear hC h
  go_enter Tryd.func66, Tryd.ntmps66
  go_wp2
  go_loopw [10] (fun i wr => ∃ j : Nat, j ≤ n ∧ i = .int .i64 j ∧ Below w.heap.size w wr) (fun i _ => n - (intOf i).toNat)
  case atStart => exact ⟨0, Nat.zero_le _, rfl, Below.refl _ _⟩
  case round =>
    obtain ⟨j, hj, rfl, hB⟩ := hrel
    have HB : Hid (Below w.heap.size w wr) := hB
    clear hB
    by_cases hlt : j < n
    · have C1 := HC.out.below HB.out
      obtain ⟨x, hx⟩ : ∃ x, insAt s j = x := ⟨_, rfl⟩
      have HX : Hid (insAt s j = x) := hx
      have hbd : x.Bd := by rw [← hx]; exact insAt_bd s j
      have c0 := C1.op j hlt
      have c1 := C1.r j hlt
      have c2 := C1.t j hlt
      have c3 := C1.f j hlt
      have c4 := C1.k j hlt
      rw [hx] at c0 c1 c2 c3 c4
      clear hx C1
      go_wp2_with fail
      refine (exits_all x _ hbd).mono ?_
      rintro e w1 ⟨p, q, rfl, hp, hb1, hq, hq1, hO⟩
      have HB1 : Hid (Below w.heap.size w w1) := (HB.out.alloc HB.out.size _).trans (hb1.mono (by have := HB.out.size; simp; omega))
      have HO : Hid (Ovs w1 q x.overs) := hO
      have HP : Hid (0 < x.overs.length → p = some ⟨q, 0, none⟩) := hp
      have hm : x.overs.length ≤ 2 := by unfold Ins.overs; repeat' split
                                         all_goals simp
      have HOB : Hid (∀ o ∈ x.overs, 0 ≤ o ∧ o ≤ 4294967295) := Ins.overs_bd hbd
      obtain ⟨os, hos⟩ : ∃ os, x.overs = os := ⟨_, rfl⟩
      have HJ1 : Hid (∀ o ∈ os, (j : Int) + 1 + o < n) := by
        intro o ho
        have := HJ.out j hlt
        unfold jumps at this
        rw [HX.out, hos, List.any_eq_false] at this
        have := this o ho
        simp only [decide_eq_true_eq] at this
        omega
      rw [hos] at HO HP hm HOB
      rw [hos]
      clear hp hb1 hq hq1 hO c0 c1 c2 c3 c4 HB hbd hos
      go_wp2_with fail
      go_loop [23] (fun i => ∃ v : Nat, v ≤ os.length ∧ i = .int .i64 v) (fun i => os.length - (intOf i).toNat)
      case atStart => exact ⟨0, Nat.zero_le _, rfl⟩
      case round =>
        obtain ⟨v, hv, rfl⟩ := hrel
        by_cases hvl : v < os.length
        · obtain rfl := HP.out (by omega)
          have c := HO.out v hvl
          have hmem : os.getD v 0 ∈ os := by
            rw [List.getD_eq_getElem?_getD, List.getElem?_eq_getElem hvl]; simp
          have hob := HOB.out _ hmem
          have hjl := HJ1.out _ hmem
          obtain ⟨o, ho⟩ : ∃ o, os.getD v 0 = o := ⟨_, rfl⟩
          rw [ho] at c hob hjl
          have hlf : o < (n : Int) - j - 1 := by omega
          clear hmem ho
          go_wp2_with fail
          go_round
          case rel => exact ⟨v + 1, by omega, by go_num⟩
          case measure => simp [intOf]; omega
        · have e : v = os.length := by omega
          subst e
          go_wp2_with fail
          go_roundw
          case rel => exact ⟨j + 1, by omega, by go_num, HB1.out⟩
          case measure => simp [intOf]; omega
    · have e : j = n := by omega
      subst e
      go_wp2_with fail
      go_ret
      exact ⟨rfl, HB.out⟩
set_option maxHeartbeats 1600000 in
theorem jumps_bad (s : ByteArray) (n z g : Nat) (w : World) (hn : n ≤ 4096) (hC : Cd w g s n) (hz : z < n) (hbad : jumps s n z = true) (h : ∀ i, i < z → jumps s n i = false) :
    Calls Tryd.prog 66 #[.slice (some ⟨g, 0, none⟩) n n] w fun e w' => ∃ c, e = .returned (.iface 68 (.pointer (some ⟨c, 0, none⟩))) ∧ Below w.heap.size w w' ∧ w.heap.size ≤ c ∧ c < w'.heap.size ∧ w'.cell? ⟨c, 0, none⟩ = some (.int .i64 z) ∧ w'.cell? ⟨c, 1, none⟩ = some (.int .i64 11) := by
  have HC : Hid (Cd w g s n) := hC
  have HJ : Hid (∀ i, i < z → jumps s n i = false) := h
  have HBAD : Hid (jumps s n z = true) := hbad
  have hg := hC.lt
  clear hC h hbad
  go_enter Tryd.func66, Tryd.ntmps66
  go_wp2
  go_loopw [10] (fun i wr => ∃ j : Nat, j ≤ z ∧ i = .int .i64 j ∧ Below w.heap.size w wr) (fun i _ => n - (intOf i).toNat)
  case atStart => exact ⟨0, Nat.zero_le _, rfl, Below.refl _ _⟩
  case round =>
    obtain ⟨j, hj, rfl, hB⟩ := hrel
    have HB : Hid (Below w.heap.size w wr) := hB
    clear hB
    have hlt : j < n := by omega
    by_cases hlz : j < z
    · have C1 := HC.out.below HB.out
      obtain ⟨x, hx⟩ : ∃ x, insAt s j = x := ⟨_, rfl⟩
      have HX : Hid (insAt s j = x) := hx
      have hbd : x.Bd := by rw [← hx]; exact insAt_bd s j
      have c0 := C1.op j hlt
      have c1 := C1.r j hlt
      have c2 := C1.t j hlt
      have c3 := C1.f j hlt
      have c4 := C1.k j hlt
      rw [hx] at c0 c1 c2 c3 c4
      clear hx C1
      go_wp2_with fail
      refine (exits_all x _ hbd).mono ?_
      rintro e w1 ⟨p, q, rfl, hp, hb1, hq, hq1, hO⟩
      have HB1 : Hid (Below w.heap.size w w1) := (HB.out.alloc HB.out.size _).trans (hb1.mono (by have := HB.out.size; simp; omega))
      have HO : Hid (Ovs w1 q x.overs) := hO
      have HP : Hid (0 < x.overs.length → p = some ⟨q, 0, none⟩) := hp
      have hm : x.overs.length ≤ 2 := by unfold Ins.overs; repeat' split
                                         all_goals simp
      have HOB : Hid (∀ o ∈ x.overs, 0 ≤ o ∧ o ≤ 4294967295) := Ins.overs_bd hbd
      obtain ⟨os, hos⟩ : ∃ os, x.overs = os := ⟨_, rfl⟩
      have HJ1 : Hid (∀ o ∈ os, (j : Int) + 1 + o < n) := by
        intro o ho
        have := HJ.out j hlz
        unfold jumps at this
        rw [HX.out, hos, List.any_eq_false] at this
        have := this o ho
        simp only [decide_eq_true_eq] at this
        omega
      rw [hos] at HO HP hm HOB
      rw [hos]
      clear hp hb1 hq hq1 hO c0 c1 c2 c3 c4 HB hbd hos
      go_wp2_with fail
      go_loop [23] (fun i => ∃ v : Nat, v ≤ os.length ∧ i = .int .i64 v) (fun i => os.length - (intOf i).toNat)
      case atStart => exact ⟨0, Nat.zero_le _, rfl⟩
      case round =>
        obtain ⟨v, hv, rfl⟩ := hrel
        by_cases hvl : v < os.length
        · obtain rfl := HP.out (by omega)
          have c := HO.out v hvl
          have hmem : os.getD v 0 ∈ os := by
            rw [List.getD_eq_getElem?_getD, List.getElem?_eq_getElem hvl]; simp
          have hob := HOB.out _ hmem
          have hjl := HJ1.out _ hmem
          obtain ⟨o, ho⟩ : ∃ o, os.getD v 0 = o := ⟨_, rfl⟩
          rw [ho] at c hob hjl
          have hlf : o < (n : Int) - j - 1 := by omega
          clear hmem ho
          go_wp2_with fail
          go_round
          case rel => exact ⟨v + 1, by omega, by go_num⟩
          case measure => simp [intOf]; omega
        · have e : v = os.length := by omega
          subst e
          go_wp2_with fail
          go_roundw
          case rel => exact ⟨j + 1, by omega, by go_num, HB1.out⟩
          case measure => simp [intOf]; omega
    · have e : z = j := by omega
      subst e
      have C1 := HC.out.below HB.out
      obtain ⟨x, hx⟩ : ∃ x, insAt s z = x := ⟨_, rfl⟩
      have HX : Hid (insAt s z = x) := hx
      have hbd : x.Bd := by rw [← hx]; exact insAt_bd s z
      have c0 := C1.op z hlt
      have c1 := C1.r z hlt
      have c2 := C1.t z hlt
      have c3 := C1.f z hlt
      have c4 := C1.k z hlt
      rw [hx] at c0 c1 c2 c3 c4
      clear hx C1
      go_wp2_with fail
      refine (exits_all x _ hbd).mono ?_
      rintro e w1 ⟨p, q, rfl, hp, hb1, hq, hq1, hO⟩
      have HB1 : Hid (Below w.heap.size w w1) := (HB.out.alloc HB.out.size _).trans (hb1.mono (by have := HB.out.size; simp; omega))
      have HO : Hid (Ovs w1 q x.overs) := hO
      have HP : Hid (0 < x.overs.length → p = some ⟨q, 0, none⟩) := hp
      have hm : x.overs.length ≤ 2 := by unfold Ins.overs; repeat' split
                                         all_goals simp
      have HOB : Hid (∀ o ∈ x.overs, 0 ≤ o ∧ o ≤ 4294967295) := Ins.overs_bd hbd
      obtain ⟨os, hos⟩ : ∃ os, x.overs = os := ⟨_, rfl⟩
      have hany := HBAD.out
      unfold jumps at hany
      rw [HX.out, hos] at hany
      obtain ⟨v0, hv0, hb0, hg0⟩ : ∃ v0, v0 < os.length ∧ (n : Int) ≤ z + 1 + os.getD v0 0 ∧ ∀ v, v < v0 → (z : Int) + 1 + os.getD v 0 < n := by
        rcases first_or (fun v => decide ((n : Int) ≤ z + 1 + os.getD v 0)) os.length with g | ⟨v0, h0, h1, h2⟩
        · exfalso
          rw [List.any_eq_true] at hany
          obtain ⟨o, ho, hd⟩ := hany
          obtain ⟨v, hv, rfl⟩ := List.getElem_of_mem ho
          have := g v hv
          rw [List.getD_eq_getElem?_getD, List.getElem?_eq_getElem hv] at this
          simp only [Option.getD_some] at this
          rw [this] at hd; cases hd
        · exact ⟨v0, h0, by simpa using h1, fun v hv => by have := h2 v hv; simp only [decide_eq_false_iff_not] at this; omega⟩
      have HB0 : Hid ((n : Int) ≤ z + 1 + os.getD v0 0) := hb0
      have HG0 : Hid (∀ v, v < v0 → (z : Int) + 1 + os.getD v 0 < n) := hg0
      rw [hos] at HO HP hm HOB
      rw [hos]
      clear hp hb1 hq hq1 hO c0 c1 c2 c3 c4 HB hbd hos hany hb0 hg0
      go_wp2_with fail
      go_loop [23] (fun i => ∃ v : Nat, v ≤ v0 ∧ i = .int .i64 v) (fun i => os.length - (intOf i).toNat)
      case atStart => exact ⟨0, Nat.zero_le _, rfl⟩
      case round =>
        obtain ⟨v, hv, rfl⟩ := hrel
        have hvl : v < os.length := by omega
        obtain rfl := HP.out (by omega)
        have c := HO.out v hvl
        have hmem : os.getD v 0 ∈ os := by
          rw [List.getD_eq_getElem?_getD, List.getElem?_eq_getElem hvl]; simp
        have hob := HOB.out _ hmem
        by_cases hvv : v < v0
        · have hjl := HG0.out v hvv
          obtain ⟨o, ho⟩ : ∃ o, os.getD v 0 = o := ⟨_, rfl⟩
          rw [ho] at c hob hjl
          have hlf : o < (n : Int) - z - 1 := by omega
          clear hmem ho
          go_wp2_with fail
          go_round
          case rel => exact ⟨v + 1, by omega, by go_num⟩
          case measure => simp [intOf]; omega
        · have e : v = v0 := by omega
          subst e
          have hjl := HB0.out
          obtain ⟨o, ho⟩ : ∃ o, os.getD v 0 = o := ⟨_, rfl⟩
          rw [ho] at c hob hjl
          have hlf : (n : Int) - z - 1 ≤ o := by omega
          clear hmem ho
          go_wp2_with fail
          go_ret
          refine ⟨w1.heap.size, rfl, HB1.out.alloc HB1.out.size _, HB1.out.size, by simp, ?_, ?_⟩
          · rw [World.cell?_alloc_at _ _ _ _ rfl]; rfl
          · rw [World.cell?_alloc_at _ _ _ _ rfl]; rfl
end Go.Proofs.YtclpnafiiobfhaaDoor

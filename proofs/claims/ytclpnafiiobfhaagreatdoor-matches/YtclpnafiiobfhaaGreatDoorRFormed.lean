import Derived.Test.YtclpnafiiobfhaaGreatDoorRDecode
namespace Go.Proofs.YtclpnafiiobfhaaGreatDoor
open Go.RowKit
set_option linter.unusedVariables false
set_option linter.unusedSimpArgs false

set_option maxHeartbeats 800000 in
theorem formed_size (s : ByteArray) (w : World) (hs : s.size ≤ maxLen) (h : ∀ n, ¬ Sized s n) :
    Calls Tryz.prog 34 #[.string s] w fun e w' => e = .returned (.tuple #[.int .i64 10, .int .i64 0]) ∧ Below w.heap.size w w' := by
  unfold maxLen at hs
  by_cases h8 : (s.size : Int) % 8 = 0
  · have h8' : ((s.size : Int) % 8 != 0) = false := by simpa using h8
    by_cases h0 : (s.size : Int) / 8 < 1
    · clear h8 h
      go_enter Tryz.func34, Tryz.ntmps34
      go_wp2_with fail
      go_ret2
      exact ⟨rfl, Below.refl _ _⟩
    · have h1 : 4096 < (s.size : Int) / 8 := by
        have := h (s.size / 8)
        rcases Nat.lt_or_ge 4096 (s.size / 8) with g | g
        · omega
        · exact absurd ⟨by omega, by omega, by omega⟩ this
      have h0 : 1 ≤ (s.size : Int) / 8 := by omega
      clear h8 h
      go_enter Tryz.func34, Tryz.ntmps34
      go_wp2_with fail
      go_ret2
      exact ⟨rfl, Below.refl _ _⟩
  · have h8' : ((s.size : Int) % 8 != 0) = true := by simpa using h8
    clear h8 h
    go_enter Tryz.func34, Tryz.ntmps34
    go_wp2_with fail
    go_ret2
    exact ⟨rfl, Below.refl _ _⟩

set_option maxHeartbeats 1600000 in
theorem formed_run (s : ByteArray) (n q : Nat) (w : World) (h : Sized s n) (hq : q ≤ n) (hgood : ∀ j, j < q → (insAt s j).fits = true) (hbad : q < n → (insAt s q).fits = false) :
    Calls Tryz.prog 34 #[.string s] w fun e w' => Below w.heap.size w w' ∧ (q = n → e = .returned (.tuple #[.int .i64 0, .int .i64 0])) ∧ (q < n → e = .returned (.tuple #[.int .i64 10, .int .i64 q])) := by
  have hz := h.size
  have h1 := h.pos
  have h2 := h.most
  have h8' : ((s.size : Int) % 8 != 0) = false := by rw [bne_eq_false_iff_eq]; omega
  have h0' : 1 ≤ (s.size : Int) / 8 := by omega
  have h4 : (s.size : Int) / 8 ≤ 4096 := by omega
  have hn : (s.size : Int) / 8 = n := by omega
  have hs : s.size ≤ 32768 := by omega
  have HN : Hid ((s.size : Int) / 8 = n) := hn
  have HG : Hid (∀ j, j < q → (insAt s j).fits = true) := hgood
  have HBAD : Hid (q < n → (insAt s q).fits = false) := hbad
  have hD := decode_any s n w h
  clear hz hn hgood hbad h
  go_enter Tryz.func34, Tryz.ntmps34
  go_wp2_with fail
  refine hD.mono ?_
  rintro e w1 ⟨g, cap, rfl, hb1, hg, hR⟩
  have HR : Hid (Rd w1 g s n) := hR
  have HB1 : Hid (Below w.heap.size w w1) := hb1
  clear hD hb1 hR
  go_wp2_with fail
  go_loopw [6] (fun i wr => ∃ j : Nat, j ≤ q ∧ i = .int .i64 j ∧ Below w1.heap.size w1 wr) (fun i _ => n - (intOf i).toNat)
  case atStart => exact ⟨0, Nat.zero_le _, rfl, Below.refl _ _⟩
  case round =>
    obtain ⟨j, hj, rfl, hB⟩ := hrel
    have HB : Hid (Below w1.heap.size w1 wr) := hB
    clear hB
    by_cases hlt : j < n
    · have hlt' : (j : Int) < (s.size : Int) / 8 := by rw [HN.out]; omega
      have R1 := HR.out.below HB.out
      have c0 := R1.op j hlt
      have c1 := R1.r j hlt
      have c2 := R1.t j hlt
      have c3 := R1.f j hlt
      have c4 := R1.k j hlt
      have hI := fun w => isIns_any (insAt s j) w (insAt_bd s j)
      unfold refV at hI
      obtain ⟨x, hx⟩ : ∃ x, insAt s j = x := ⟨_, rfl⟩
      have HX : Hid (insAt s j = x) := hx
      rw [hx] at c0 c1 c2 c3 c4 hI
      have HI : Hid (∀ w, Calls _ _ _ w _) := hI
      clear hx hI R1
      by_cases hq' : j < q
      · have HFI : Hid (x.fits = true) := by rw [← HX.out]; exact HG.out j hq'
        go_wp2_with fail
        refine (HI.out _).mono ?_
        rintro e w2 ⟨rfl, hb2⟩
        rw [HFI.out]
        have HB2 : Hid (Below w1.heap.size w1 w2) := HB.out.trans (hb2.mono HB.out.size)
        clear hb2
        go_wp2_with fail
        go_roundw
        case rel => exact ⟨j + 1, by omega, by go_num, HB2.out⟩
        case measure => simp [intOf]; omega
      · have e : q = j := by omega
        subst e
        have HFI : Hid (x.fits = false) := by rw [← HX.out]; exact HBAD.out hlt
        go_wp2_with fail
        refine (HI.out _).mono ?_
        rintro e w2 ⟨rfl, hb2⟩
        rw [HFI.out]
        have HB2 : Hid (Below w1.heap.size w1 w2) := HB.out.trans (hb2.mono HB.out.size)
        clear hb2
        go_wp2_with fail
        go_ret2
        exact ⟨HB1.out.trans (HB2.out.mono HB1.out.size), fun e => absurd e (by omega), fun _ => rfl⟩
    · have e : j = n := by omega
      subst e
      have hge : (s.size : Int) / 8 ≤ (j : Int) := by rw [HN.out]; omega
      go_wp2_with fail
      go_ret2
      exact ⟨HB1.out.trans (HB.out.mono HB1.out.size), fun _ => rfl, fun e => absurd e (by omega)⟩

/-- the document's answer to a code's form -/
theorem formed_torn (s : ByteArray) (i : Nat) (w : World) (hs : s.size ≤ maxLen) (h : Torn s i) :
    Calls Tryz.prog 34 #[.string s] w fun e w' => e = .returned (.tuple #[.int .i64 10, .int .i64 i]) ∧ Below w.heap.size w w' := by
  rcases h with ⟨hz, rfl⟩ | ⟨n, hz, hi, h1, h2⟩
  · exact formed_size s w hs hz
  · refine (formed_run s n i w hz (by omega) h2 (fun _ => h1)).mono ?_
    rintro e w' ⟨hb, _, he⟩
    exact ⟨he hi, hb⟩
theorem formed_fine (s : ByteArray) (n : Nat) (w : World) (h : Formed s n) :
    Calls Tryz.prog 34 #[.string s] w fun e w' => e = .returned (.tuple #[.int .i64 0, .int .i64 0]) ∧ Below w.heap.size w w' := by
  refine (formed_run s n n w h.toSized (Nat.le_refl _) h.fits (fun q => absurd q (by omega))).mono ?_
  rintro e w' ⟨hb, he, _⟩
  exact ⟨he rfl, hb⟩
end Go.Proofs.YtclpnafiiobfhaaGreatDoor

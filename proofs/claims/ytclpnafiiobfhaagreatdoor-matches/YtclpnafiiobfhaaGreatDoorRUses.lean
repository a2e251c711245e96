import Derived.Test.YtclpnafiiobfhaaGreatDoorRCheck
import Derived.Deep.CutBlock
namespace Go.Proofs.YtclpnafiiobfhaaGreatDoor
open Go.RowKit
set_option linter.unusedVariables false
set_option linter.unusedSimpArgs false

theorem rfC_set (a : Fc) (r : Int) (h : 0 ≤ r ∧ r < 4) : (rfC a)[1 + r.toNat]? = some (.bool (a.set.getD r.toNat false)) := by
  obtain ⟨h0, h1⟩ := h
  have : r = 0 ∨ r = 1 ∨ r = 2 ∨ r = 3 := by omega
  rcases this with rfl | rfl | rfl | rfl <;> rfl

set_option maxRecDepth 100000 in
set_option maxHeartbeats 12800000 in
theorem rcheck_use (s : ByteArray) (n z : Nat) (k : Int) (w : World) (h : Jumps s n) (hzn : z ≤ n) (hgood : ∀ i, i < z → usesK s n i = 0) (hbad : z < n → (here s n z).come = true ∧ (here s n z).fault (insAt s z) = k ∧ k ≠ 0) :
    Calls Tryz.prog 28 #[.string s] w fun e w' => Below w.heap.size w w' ∧ (z = n → e = .returned (.tuple #[.int .i64 0, .int .i64 0])) ∧ (z < n → e = .returned (.tuple #[.int .i64 k, .int .i64 z])) := by
  have hF := formed_fine s n w h.toFormed
  have HD : Hid (∀ w, Calls Tryz.prog 35 #[.string s] w _) := fun w => decode_any s n w h.toSized
  have hn := h.most
  have hn1 := h.pos
  have HF : Hid (Jumps s n) := h
  have HGD : Hid (∀ i, i < z → usesK s n i = 0) := hgood
  have HBD : Hid (z < n → (here s n z).come = true ∧ (here s n z).fault (insAt s z) = k ∧ k ≠ 0) := hbad
  have hmk : ∀ w, (Instr.makeSlice 109 (.int .i64 (n : Int)) (.int .i64 (n : Int))).run Tryz.prog w = .ok (.slice (some ⟨w.heap.size, 0, none⟩) n n) (w.alloc (.cells (madeCells #[.bool false, .bool false, .bool false, .bool false, .bool false, .bool false, .bool false, .bool false, .bool false, .int .i64 0] (n * 10)) 111)) := by
    intro w
    exact run_make_wide (P := Tryz.prog) 109 111 _ 10 24 Tryz.underlying109 rfZero .i64 .i64 n (by omega) (by omega) w
  have hz0 : 0 < n := by omega
  have km0 : (madeCells #[.bool false, .bool false, .bool false, .bool false, .bool false, .bool false, .bool false, .bool false, .bool false, .int .i64 0] (n * 10))[0]? = some (.bool false) := by
    have : 0 < n * 10 := by omega
    simp [madeCells, this]
  clear h hgood hbad
  go_enter Tryz.func28, Tryz.ntmps28
  go_wp2_with fail
  refine hF.mono ?_
  rintro e w0 ⟨rfl, hb0⟩
  have HB0 : Hid (Below w.heap.size w w0) := hb0
  clear hF hb0
  go_wp2_with fail
  refine (HD.out _).mono ?_
  rintro e w1 ⟨g, cap, rfl, hb1, hg, hR⟩
  have HB1 : Hid (Below w.heap.size w w1) := HB0.out.trans (hb1.mono HB0.out.size)
  have HR : Hid (Rd w1 g s n) := hR
  clear hb1 hR HD
  go_wp2_with fail
  go_loopw [7] (fun i wr => ∃ j : Nat, j ≤ n ∧ i = .int .i64 j ∧ Below w1.heap.size w1 wr) (fun i _ => n - (intOf i).toNat)
  case atStart => exact ⟨0, Nat.zero_le _, rfl, Below.refl _ _⟩
  case round =>
    obtain ⟨j, hj, rfl, hB⟩ := hrel
    have HB : Hid (Below w1.heap.size w1 wr) := hB
    clear hB
    by_cases hlt : j < n
    · have hW := ways_all s j n g cap wr hlt hn (HR.out.below HB.out)
      obtain ⟨os, hos⟩ : ∃ os, (insAt s j).overs = os := ⟨_, rfl⟩
      have HOB : Hid (∀ o ∈ os, 0 ≤ o ∧ o ≤ 4294967295) := by rw [← hos]; exact Ins.overs_bd (insAt_bd s j)
      have hm : os.length ≤ 2 := by
        rw [← hos]
        unfold Ins.overs; repeat' split
        all_goals simp
      rw [hos] at hW
      have HOS : Hid ((insAt s j).overs = os) := hos
      have HW : Hid (Calls _ _ _ wr _) := hW
      clear hW hos km0
      go_wp2_with fail
      refine HW.out.mono ?_
      rintro e w2 ⟨p, q, rfl, hp, hb2, hq, hq1, hO⟩
      have HB2 : Hid (Below w1.heap.size w1 w2) := HB.out.trans (hb2.mono HB.out.size)
      have HO : Hid (Wys w2 q j os) := hO
      have HP : Hid (0 < os.length → p = some ⟨q, 0, none⟩) := hp
      clear hp hb2 hq hq1 hO HW
      have HJ1 : Hid (∀ o ∈ os, (j : Int) + 1 + o < n) := by
        intro o ho
        have := HF.out.fine j hlt
        unfold jumps at this
        rw [HOS.out, List.any_eq_false] at this
        have := this o ho
        simp only [decide_eq_true_eq] at this
        omega
      go_wp2_with fail
      go_loop [9] (fun i => ∃ v : Nat, v ≤ os.length ∧ i = .int .i64 v) (fun i => os.length - (intOf i).toNat)
      case atStart => exact ⟨0, Nat.zero_le _, rfl⟩
      case round =>
        obtain ⟨v, hv, rfl⟩ := hrel
        by_cases hvl : v < os.length
        · obtain rfl := HP.out (by omega)
          have c := HO.out v hvl
          have hmem : os.getD v 0 ∈ os := by
            rw [List.getD_eq_getElem?_getD, List.getElem?_eq_getElem hvl]; simp
          have hob := HOB.out _ hmem
          have hjl := HJ1.out _ hmem
          obtain ⟨o, ho⟩ : ∃ o, (j : Int) + 1 + os.getD v 0 = o := ⟨_, rfl⟩
          rw [ho] at c hjl
          have hob2 : 0 ≤ o ∧ o ≤ 4294975488 := by omega
          clear hmem ho hob
          go_wp2_with fail
          go_round
          case rel => exact ⟨v + 1, by omega, by go_num⟩
          case measure => simp [intOf]; omega
        · have e : v = os.length := by omega
          subst e
          go_wp2_with fail
          go_roundw
          case rel => exact ⟨j + 1, by omega, by go_num, HB2.out⟩
          case measure => simp [intOf]; omega
    · have e : j = n := by omega
      subst e
      obtain ⟨we, rfl⟩ : ∃ we, we = wr := ⟨_, rfl⟩
      have HBe : Hid (Below w.heap.size w we) := HB1.out.trans (HB.out.mono HB1.out.size)
      have HRe : Hid (Rd we g s j) := HR.out.below HB.out
      have gle : g < we.heap.size := HRe.out.lt
      have gne : g ≠ we.heap.size := by omega
      clear HB HR
      go_upto_region 17 with fail
      go_loopw [11] (fun i wr => ∃ l : Nat, l ≤ z ∧ i = .int .i64 l ∧ RFs wr we.heap.size (factsAt s j l) ∧ Below we.heap.size we wr) (fun i _ => j - (intOf i).toNat)
      case atStart =>
        refine ⟨0, Nat.zero_le _, rfl, ?_, (Below.refl _ _).alloc (Nat.le_refl _) _⟩
        have := RFs.made we j hn1 s
        rw [World.setCell_alloc_at _ _ _ _ _ rfl] at this
        exact this
      case round =>
        obtain ⟨l, hl0, rfl, hS, hB⟩ := hrel
        have HB : Hid (Below we.heap.size we wr) := hB
        have HS : Hid (RFs wr we.heap.size (factsAt s j l)) := hS
        clear hB hS km0
        by_cases hlt : l < j
        · have R1 := HRe.out.below HB.out
          obtain ⟨x, hx⟩ : ∃ x, insAt s l = x := ⟨_, rfl⟩
          have HX : Hid (insAt s l = x) := hx
          have hbd : x.Bd := by rw [← hx]; exact insAt_bd s l
          have hr4 : x.r < 4 := by
            have := HF.out.fits l hlt
            rw [hx] at this
            unfold Ins.fits at this
            simp only [Bool.and_eq_true, decide_eq_true_eq] at this
            exact this.1.1.2
          have c0 := R1.op l hlt
          have c1 := R1.r l hlt
          have c2 := R1.t l hlt
          have c3 := R1.f l hlt
          have c4 := R1.k l hlt
          rw [hx] at c0 c1 c2 c3 c4
          obtain ⟨a, ha⟩ : ∃ a, (factsAt s j l).getD l fc0 = a := ⟨_, rfl⟩
          have HA : Hid ((factsAt s j l).getD l fc0 = a) := ha
          have hok : a.Ok := by rw [← ha]; exact oks_get (factsAt_ok s j l) l
          have hll : l < (factsAt s j l).length := by rw [factsAt_len]; exact hlt
          obtain ⟨y, u0, u1, u2, u3, m0, m1, m2, m3, th, hv⟩ := rfc_vals a
          obtain ⟨d0, d1, d2, d3, d4, d5, d6, d7, d8, d9⟩ := HS.out.cells l hll (by rw [ha]; exact hv)
          have hy : y = a.come := by unfold rfC at hv; simp at hv; exact hv.1.symm
          have hth : th = a.there := by unfold rfC at hv; simp at hv; exact hv.2.2.2.2.2.2.2.2.2.symm
          have HV : Hid (rfC a = _) := hv
          have gl : we.heap.size < wr.heap.size := HS.out.lt
          have gg : g < wr.heap.size := R1.lt
          have gg1 : g ≠ wr.heap.size := by omega
          have gl1 : we.heap.size ≠ wr.heap.size := by omega
          have gg2 : g ≠ wr.heap.size + 1 := by omega
          have gl2 : we.heap.size ≠ wr.heap.size + 1 := by omega
          have HY : Hid (y = a.come) := hy
          have HTH : Hid (th = a.there) := hth
          clear hx R1 ha hll hv hy hth
          go_upto_region 21 with fail
          go_cut [74] from 72 to 73 (fun v wx => v = .bool (!y) ∧ (∀ c, c < 10 → wx.cell? ⟨wr.heap.size, c, none⟩ = (rfC a)[c]?) ∧ wx.cell? ⟨wr.heap.size + 1, 0, none⟩ = some (.int .i64 x.op) ∧ wx.cell? ⟨wr.heap.size + 1, 1, none⟩ = some (.int .i64 x.r) ∧ wx.cell? ⟨wr.heap.size + 1, 2, none⟩ = some (.int .i64 x.t) ∧ wx.cell? ⟨wr.heap.size + 1, 3, none⟩ = some (.int .i64 x.f) ∧ wx.cell? ⟨wr.heap.size + 1, 4, none⟩ = some (.int .i64 x.k) ∧ Below wr.heap.size wr wx ∧ wr.heap.size + 2 ≤ wx.heap.size)
          case first =>
            go_wp2_with fail
            go_meet
            refine ⟨rfl, fun c hc => ?_, ?_, ?_, ?_, ?_, ?_, ((Below.refl _ _).alloc (Nat.le_refl _) _).alloc (by simp) _, by simp⟩
            · rw [World.cell?_alloc_lt _ _ _ (by simp), World.cell?_alloc_at _ _ _ _ rfl, HV.out]
            all_goals
              rw [World.cell?_alloc_at _ _ _ _ (by simp)]; rfl
          case rest =>
            obtain ⟨rfl, hK, i0, i1, i2, i3, i4, hBx, hzx⟩ := hcut
            rename_i wc
            have HK : Hid (∀ c, c < 10 → wc.cell? ⟨wr.heap.size, c, none⟩ = (rfC a)[c]?) := hK
            have HBc : Hid (Below wr.heap.size wr wc) := hBx
            have HIc : Hid (wc.cell? ⟨wr.heap.size + 1, 0, none⟩ = some (.int .i64 x.op) ∧ wc.cell? ⟨wr.heap.size + 1, 1, none⟩ = some (.int .i64 x.r) ∧ wc.cell? ⟨wr.heap.size + 1, 2, none⟩ = some (.int .i64 x.t) ∧ wc.cell? ⟨wr.heap.size + 1, 3, none⟩ = some (.int .i64 x.f) ∧ wc.cell? ⟨wr.heap.size + 1, 4, none⟩ = some (.int .i64 x.k)) := ⟨i0, i1, i2, i3, i4⟩
            clear hK hBx c0 c1 c2 c3 c4 d0 d1 d2 d3 d4 d5 d6 d7 d8 d9
            have hy := HY.out
            clear HY
            cases hcome : a.come
            · rw [hcome] at hy
              subst hy
              have hjz : l < z := by
                rcases Nat.lt_or_ge l z with q | q
                · exact q
                · exfalso
                  have e : l = z := by omega
                  have := (HBD.out (by omega)).1
                  rw [← e] at this
                  unfold here at this
                  rw [HA.out, hcome] at this
                  cases this
              go_wp2_with fail
              go_roundw
              case rel =>
                refine ⟨l + 1, by omega, by go_num, ?_, HB.out.trans (HBc.out.mono HB.out.size)⟩
                have e : factsAt s j (l + 1) = factsAt s j l := by
                  rw [factsAt, HA.out, hcome]; rfl
                rw [e]
                exact HS.out.below HBc.out
              case measure => simp [intOf]; omega
            · rw [hcome] at hy
              subst hy
              have HFK : Hid (l < z ∧ a.fault x = 0 ∨ l = z ∧ a.fault x = k ∧ k ≠ 0) := by
                rcases Nat.lt_or_ge l z with q | q
                · refine .inl ⟨q, ?_⟩
                  have := HGD.out l q
                  unfold usesK here at this
                  rw [HA.out, hcome, if_pos rfl, HX.out] at this
                  exact this
                · have e : l = z := by omega
                  subst e
                  have := HBD.out hlt
                  unfold here at this
                  rw [HA.out, HX.out] at this
                  exact .inr ⟨rfl, this.2.1, this.2.2⟩
              have cs : wc.cell? ⟨wr.heap.size, 1 + x.r.toNat, none⟩ = some (.bool (a.has x)) := by
                rw [HK.out (1 + x.r.toNat) (by have := hbd.r; omega)]
                exact rfC_set a x.r ⟨hbd.r.1, hr4⟩
              obtain ⟨hs, hhs⟩ : ∃ hs, a.has x = hs := ⟨_, rfl⟩
              have HHS : Hid (a.has x = hs) := hhs
              rw [hhs] at cs
              have bo := hbd.op
              have brr := hbd.r
              clear hhs
              go_upto_region 22 with fail
              go_cut [90] from 75 to 89 (fun v wx => v = .bool (x.uses && !hs) ∧ wx = wc)
              case first =>
                rcases Int.lt_or_le x.op 6 with g6 | g6
                · have hu : x.uses = false := by unfold Ins.uses Ins.branch; simp only [Bool.or_eq_false_iff, beq_eq_false_iff_ne]; omega
                  go_wp2_with fail
                  go_meet
                  exact ⟨by rw [hu]; rfl, rfl⟩
                rcases Int.lt_or_le 10 x.op with g10 | g10
                · have hu : x.uses = false := by unfold Ins.uses Ins.branch; simp only [Bool.or_eq_false_iff, beq_eq_false_iff_ne]; omega
                  go_wp2_with fail
                  go_meet
                  exact ⟨by rw [hu]; rfl, rfl⟩
                have hu : x.uses = true := by
                  unfold Ins.uses Ins.branch
                  have : x.op = 6 ∨ x.op = 7 ∨ x.op = 8 ∨ x.op = 9 ∨ x.op = 10 := by omega
                  rcases this with h | h | h | h | h <;> simp [h]
                go_wp2_with fail
                go_meet
                exact ⟨by rw [hu]; simp, rfl⟩
              case rest =>
                obtain ⟨rfl, hwx⟩ := hcut
                subst hwx
                obtain ⟨bad, hbad⟩ : ∃ bad, (x.uses && !hs) = bad := ⟨_, rfl⟩
                rw [hbad]
                have HBAD : Hid ((x.uses && !hs) = bad) := hbad
                clear hbad cs
                cases bad
                · have hWd := fun w => wide_any x w hbd
                  unfold refV at hWd
                  have HWD : Hid (∀ w, Calls _ _ _ w _) := hWd
                  obtain ⟨wd, hwd⟩ : ∃ wd, x.wide = wd := ⟨_, rfl⟩
                  have HWE : Hid (x.wide = wd) := hwd
                  clear hWd hwd
                  go_wp2_with fail
                  refine (HWD.out _).mono ?_
                  rintro e w4 ⟨rfl, hb4⟩
                  rw [HWE.out]
                  have HB4 : Hid (Below wr.heap.size wr w4) := HBc.out.trans (hb4.mono (by omega))
                  have HK4 : Hid (∀ c, c < 10 → w4.cell? ⟨wr.heap.size, c, none⟩ = (rfC a)[c]?) := fun c hc => (hb4.cell (p := ⟨wr.heap.size, c, none⟩) (by show wr.heap.size < _; omega)).trans (HK.out c hc)
                  have HI4 : Hid (w4.cell? ⟨wr.heap.size + 1, 0, none⟩ = some (.int .i64 x.op) ∧ w4.cell? ⟨wr.heap.size + 1, 1, none⟩ = some (.int .i64 x.r) ∧ w4.cell? ⟨wr.heap.size + 1, 2, none⟩ = some (.int .i64 x.t) ∧ w4.cell? ⟨wr.heap.size + 1, 3, none⟩ = some (.int .i64 x.f) ∧ w4.cell? ⟨wr.heap.size + 1, 4, none⟩ = some (.int .i64 x.k)) :=
                    ⟨(hb4.cell (p := ⟨wr.heap.size + 1, 0, none⟩) (by show wr.heap.size + 1 < _; omega)).trans HIc.out.1, (hb4.cell (p := ⟨wr.heap.size + 1, 1, none⟩) (by show wr.heap.size + 1 < _; omega)).trans HIc.out.2.1, (hb4.cell (p := ⟨wr.heap.size + 1, 2, none⟩) (by show wr.heap.size + 1 < _; omega)).trans HIc.out.2.2.1, (hb4.cell (p := ⟨wr.heap.size + 1, 3, none⟩) (by show wr.heap.size + 1 < _; omega)).trans HIc.out.2.2.2.1, (hb4.cell (p := ⟨wr.heap.size + 1, 4, none⟩) (by show wr.heap.size + 1 < _; omega)).trans HIc.out.2.2.2.2⟩
                  have z4 : wr.heap.size + 2 ≤ w4.heap.size := by have := hb4.size; omega
                  have t9 : w4.cell? ⟨wr.heap.size, 9, none⟩ = some (.int .i64 th) := by rw [HK4.out 9 (by omega), HV.out]; rfl
                  have bth : 0 ≤ th ∧ th ≤ 4294967295 := by rw [HTH.out]; exact hok.there
                  have bwd : 0 ≤ wd ∧ wd ≤ 4294967299 := by rw [← HWE.out]; have := hbd.k; unfold Ins.wide; repeat' split
                                                            all_goals omega
                  clear hb4 i0 i1 i2 i3 i4
                  rcases Int.lt_or_le th wd with hlw | hlw
                  · have HR13 : Hid (l = z ∧ k = 13) := by
                      have hf : a.fault x = 13 := by
                        unfold Fc.fault
                        rw [HHS.out, HBAD.out, if_neg (by decide), HWE.out, ← HTH.out, if_pos hlw]
                      rcases HFK.out with ⟨_, h0⟩ | ⟨h1, h2, _⟩
                      · rw [hf] at h0; omega
                      · exact ⟨h1, by rw [← h2, hf]⟩
                    go_wp2_with fail
                    go_ret2
                    obtain ⟨rfl, rfl⟩ := HR13.out
                    exact ⟨HBe.out.trans ((HB.out.trans (HB4.out.mono HB.out.size)).mono HBe.out.size), fun q => absurd q (by omega), fun _ => rfl⟩
                  · have HLZ : Hid (l < z) := by
                      have hf : a.fault x = 0 := by
                        unfold Fc.fault
                        rw [HHS.out, HBAD.out, if_neg (by decide), HWE.out, ← HTH.out, if_neg (by omega)]
                      rcases HFK.out with ⟨h1, _⟩ | ⟨_, h2, h3⟩
                      · exact h1
                      · exact absurd (by rw [← h2, hf]) h3
                    have hW := ways_all s l j g cap w4 hlt hn ((HRe.out.below HB.out).below HB4.out)
                    rw [HX.out] at hW
                    have hm : x.overs.length ≤ 2 := by unfold Ins.overs; repeat' split
                                                       all_goals simp
                    have HOB : Hid (∀ o ∈ x.overs, 0 ≤ o ∧ o ≤ 4294967295) := Ins.overs_bd hbd
                    obtain ⟨os, hos⟩ : ∃ os, x.overs = os := ⟨_, rfl⟩
                    have HOS : Hid (x.overs = os) := hos
                    have HJ1 : Hid (∀ o ∈ os, (l : Int) + 1 + o < j) := by
                      intro o ho
                      have := HF.out.fine l hlt
                      unfold jumps at this
                      rw [HX.out, hos, List.any_eq_false] at this
                      have := this o ho
                      simp only [decide_eq_true_eq] at this
                      omega
                    rw [hos] at hW hm HOB
                    have HW : Hid (Calls _ _ _ w4 _) := hW
                    clear hW hos
                    go_wp2_with fail
                    refine HW.out.mono ?_
                    rintro e w5 ⟨p, q, rfl, hp, hb5, hq, hq1, hO⟩
                    have HB5 : Hid (Below wr.heap.size wr w5) := HB4.out.trans (hb5.mono (by omega))
                    have HK5 : Hid (∀ c, c < 10 → w5.cell? ⟨wr.heap.size, c, none⟩ = (rfC a)[c]?) := fun c hc => (hb5.cell (p := ⟨wr.heap.size, c, none⟩) (by show wr.heap.size < _; omega)).trans (HK4.out c hc)
                    have HI5 : Hid (w5.cell? ⟨wr.heap.size + 1, 0, none⟩ = some (.int .i64 x.op) ∧ w5.cell? ⟨wr.heap.size + 1, 1, none⟩ = some (.int .i64 x.r) ∧ w5.cell? ⟨wr.heap.size + 1, 2, none⟩ = some (.int .i64 x.t) ∧ w5.cell? ⟨wr.heap.size + 1, 3, none⟩ = some (.int .i64 x.f) ∧ w5.cell? ⟨wr.heap.size + 1, 4, none⟩ = some (.int .i64 x.k)) :=
                      ⟨(hb5.cell (p := ⟨wr.heap.size + 1, 0, none⟩) (by show wr.heap.size + 1 < _; omega)).trans HI4.out.1, (hb5.cell (p := ⟨wr.heap.size + 1, 1, none⟩) (by show wr.heap.size + 1 < _; omega)).trans HI4.out.2.1, (hb5.cell (p := ⟨wr.heap.size + 1, 2, none⟩) (by show wr.heap.size + 1 < _; omega)).trans HI4.out.2.2.1, (hb5.cell (p := ⟨wr.heap.size + 1, 3, none⟩) (by show wr.heap.size + 1 < _; omega)).trans HI4.out.2.2.2.1, (hb5.cell (p := ⟨wr.heap.size + 1, 4, none⟩) (by show wr.heap.size + 1 < _; omega)).trans HI4.out.2.2.2.2⟩
                    have z5 : wr.heap.size + 2 ≤ w5.heap.size := by have := hb5.size; omega
                    have HQ1 : Hid (0 < os.length → q < w5.heap.size) := hq1
                    have HO : Hid (Wys w5 q l os) := hO
                    have HP : Hid (0 < os.length → p = some ⟨q, 0, none⟩) := hp
                    have HS5 : Hid (RFs w5 we.heap.size (factsAt s j l)) := HS.out.below HB5.out
                    have zq : wr.heap.size + 2 ≤ q := by omega
                    clear hp hb5 hq hq1 hO HW t9
                    obtain ⟨wo, rfl⟩ : ∃ wo, wo = wr := ⟨_, rfl⟩
                    go_wp2_with fail
                    go_loopw [16] (fun i wi => ∃ v : Nat, v ≤ os.length ∧ i = .int .i64 v ∧ RFs wi we.heap.size (tell (factsAt s j l) a x l 0 (os.take v)) ∧ Tch we.heap.size w5 wi) (fun i _ => os.length - (intOf i).toNat)
                    case atStart => exact ⟨0, Nat.zero_le _, rfl, HS5.out, Tch.refl _ _⟩
                    case round =>
                      obtain ⟨v, hv, rfl, hS3, hT⟩ := hrel
                      have HS3 : Hid (RFs _ we.heap.size (tell (factsAt s j l) a x l 0 (os.take v))) := hS3
                      by_cases hvl : v < os.length
                      · have hP0 : wo.heap.size < w5.heap.size := by omega
                        have hP1 : wo.heap.size ≠ we.heap.size := by omega
                        have hP2 : wo.heap.size + 1 < w5.heap.size := by omega
                        have hP3 : wo.heap.size + 1 ≠ we.heap.size := by omega
                        have hQ0 : q < w5.heap.size := HQ1.out (by omega)
                        have hQ1 : q ≠ we.heap.size := by omega
                        obtain rfl := HP.out (by omega)
                        have hmem : os.getD v 0 ∈ os := by
                          rw [List.getD_eq_getElem?_getD, List.getElem?_eq_getElem hvl]; simp
                        have hob := HOB.out _ hmem
                        have hjl := HJ1.out _ hmem
                        have cq0 := (hT.cell (p := ⟨q, v, none⟩) hQ0 hQ1).trans (HO.out v hvl)
                        obtain ⟨on, hon⟩ : ∃ on : Nat, os.getD v 0 = on := ⟨(os.getD v 0).toNat, by omega⟩
                        have HON : Hid (os.getD v 0 = on) := hon
                        rw [hon] at cq0 hob hjl
                        obtain ⟨tx, htx⟩ : ∃ tx, l + 1 + on = tx := ⟨_, rfl⟩
                        have HTX : Hid (l + 1 + on = tx) := htx
                        have ecast : (l : Int) + 1 + on = (tx : Int) := by omega
                        rw [ecast] at cq0 hjl
                        have hlen : (tell (factsAt s j l) a x l 0 (os.take v)).length = j := by rw [tell_len, factsAt_len]
                        obtain ⟨G, hG⟩ : ∃ G, tell (factsAt s j l) a x l 0 (os.take v) = G := ⟨_, rfl⟩
                        have HG : Hid (tell (factsAt s j l) a x l 0 (os.take v) = G) := hG
                        have hGok : ∀ f ∈ G, f.Ok := by rw [← hG]; exact tell_ok (factsAt_ok s j l) hok hbd _ _ _
                        rw [hG] at HS3 hlen
                        have HGL : Hid (G.length = j) := hlen
                        obtain ⟨b, hb⟩ : ∃ b, G.getD tx fc0 = b := ⟨_, rfl⟩
                        have HBB : Hid (G.getD tx fc0 = b) := hb
                        have hbok : b.Ok := by rw [← hb]; exact oks_get hGok _
                        obtain ⟨y', x0, x1, x2, x3, n0, n1, n2, n3, tj, hv'⟩ := rfc_vals b
                        have HV' : Hid (rfC (G.getD tx fc0) = #[.bool y', .bool x0, .bool x1, .bool x2, .bool x3, .bool n0, .bool n1, .bool n2, .bool n3, .int .i64 tj]) := by rw [hb]; exact hv'
                        obtain ⟨k0, k1, k2, k3, k4, k5, k6, k7, k8, k9, hvb⟩ := rfc_vals (a.behind x v)
                        obtain ⟨z', r0, r1, r2, r3, q0, q1, q2, q3, tk, hv2⟩ := rfc_vals (b.meet (a.behind x v))
                        have hBe := fun w => rbehind_any a x v w hok hbd hr4
                        have hMe := fun w => met_any b (a.behind x v) w hbok (hok.behind hbd v) ((a.behind_come x v).trans hcome)
                        have HV2 : Hid (rfC (b.meet (a.behind x v)) = _) := hv2
                        unfold rfV refV at hBe
                        unfold rfV at hMe
                        rw [HV.out, hvb] at hBe
                        rw [hv', hv2, hvb] at hMe
                        have i0 := (hT.cell (p := ⟨wo.heap.size + 1, 0, none⟩) hP2 hP3).trans HI5.out.1
                        have i1 := (hT.cell (p := ⟨wo.heap.size + 1, 1, none⟩) hP2 hP3).trans HI5.out.2.1
                        have i2 := (hT.cell (p := ⟨wo.heap.size + 1, 2, none⟩) hP2 hP3).trans HI5.out.2.2.1
                        have i3 := (hT.cell (p := ⟨wo.heap.size + 1, 3, none⟩) hP2 hP3).trans HI5.out.2.2.2.1
                        have i4 := (hT.cell (p := ⟨wo.heap.size + 1, 4, none⟩) hP2 hP3).trans HI5.out.2.2.2.2
                        have e0 : wr.cell? ⟨wo.heap.size, 0, none⟩ = some (.bool true) := by rw [hT.cell (p := ⟨wo.heap.size, 0, none⟩) hP0 hP1, HK5.out 0 (by omega), HV.out]; rfl
                        have e1 : wr.cell? ⟨wo.heap.size, 1, none⟩ = some (.bool u0) := by rw [hT.cell (p := ⟨wo.heap.size, 1, none⟩) hP0 hP1, HK5.out 1 (by omega), HV.out]; rfl
                        have e2 : wr.cell? ⟨wo.heap.size, 2, none⟩ = some (.bool u1) := by rw [hT.cell (p := ⟨wo.heap.size, 2, none⟩) hP0 hP1, HK5.out 2 (by omega), HV.out]; rfl
                        have e3 : wr.cell? ⟨wo.heap.size, 3, none⟩ = some (.bool u2) := by rw [hT.cell (p := ⟨wo.heap.size, 3, none⟩) hP0 hP1, HK5.out 3 (by omega), HV.out]; rfl
                        have e4 : wr.cell? ⟨wo.heap.size, 4, none⟩ = some (.bool u3) := by rw [hT.cell (p := ⟨wo.heap.size, 4, none⟩) hP0 hP1, HK5.out 4 (by omega), HV.out]; rfl
                        have e5 : wr.cell? ⟨wo.heap.size, 5, none⟩ = some (.bool m0) := by rw [hT.cell (p := ⟨wo.heap.size, 5, none⟩) hP0 hP1, HK5.out 5 (by omega), HV.out]; rfl
                        have e6 : wr.cell? ⟨wo.heap.size, 6, none⟩ = some (.bool m1) := by rw [hT.cell (p := ⟨wo.heap.size, 6, none⟩) hP0 hP1, HK5.out 6 (by omega), HV.out]; rfl
                        have e7 : wr.cell? ⟨wo.heap.size, 7, none⟩ = some (.bool m2) := by rw [hT.cell (p := ⟨wo.heap.size, 7, none⟩) hP0 hP1, HK5.out 7 (by omega), HV.out]; rfl
                        have e8 : wr.cell? ⟨wo.heap.size, 8, none⟩ = some (.bool m3) := by rw [hT.cell (p := ⟨wo.heap.size, 8, none⟩) hP0 hP1, HK5.out 8 (by omega), HV.out]; rfl
                        have e9 : wr.cell? ⟨wo.heap.size, 9, none⟩ = some (.int .i64 th) := by rw [hT.cell (p := ⟨wo.heap.size, 9, none⟩) hP0 hP1, HK5.out 9 (by omega), HV.out]; rfl
                        have gw : we.heap.size < wr.heap.size := HS3.out.lt
                        have gq : q < wr.heap.size := by have := hT.size; omega
                        have HT : Hid (Tch we.heap.size w5 wr) := hT
                        clear hS3 hT hmem hon hG hlen hGok hb hv' hv2 hvb htx ecast
                        go_upto_block 7 with fail
                        go_cut [16] from 102 to 126 (fun xx wx => xx = .int .i64 v ∧ RFs wx we.heap.size (G.set tx (b.meet (a.behind x v))) ∧ Tch we.heap.size w5 wx)
                        case first =>
                          go_wp2_with fail
                          refine (hBe _).mono ?_
                          rintro e w6 ⟨rfl, hg6⟩
                          have HB6 : Hid (Below wr.heap.size wr w6) := hg6.below
                          have HS6 : Hid (RFs w6 we.heap.size G) := HS3.out.below HB6.out
                          obtain ⟨d0, d1, d2, d3, d4, d5, d6, d7, d8, d9⟩ := HS6.out.cells tx (by rw [HGL.out]; omega) HV'.out
                          have cq : w6.cell? ⟨q, v, none⟩ = some (.int .i64 (tx : Int)) := (HB6.out.cell (p := ⟨q, v, none⟩) gq).trans cq0
                          have f0 := HS6.out.froz (tx * 10)
                          have f1 := HS6.out.froz (tx * 10 + 1)
                          have f2 := HS6.out.froz (tx * 10 + 2)
                          have f3 := HS6.out.froz (tx * 10 + 3)
                          have f4 := HS6.out.froz (tx * 10 + 4)
                          have f5 := HS6.out.froz (tx * 10 + 5)
                          have f6 := HS6.out.froz (tx * 10 + 6)
                          have f7 := HS6.out.froz (tx * 10 + 7)
                          have f8 := HS6.out.froz (tx * 10 + 8)
                          have f9 := HS6.out.froz (tx * 10 + 9)
                          have gw6 : we.heap.size < w6.heap.size := HS6.out.lt
                          have gq6 : q < w6.heap.size := Nat.lt_of_lt_of_le gq HB6.out.size
                          have gw6n : we.heap.size ≠ w6.heap.size := by omega
                          have gq6n : q ≠ w6.heap.size := by omega
                          have HKP : Hid (∀ u, Below w6.heap.size w6 u → u.cell? ⟨we.heap.size, tx * 10, none⟩ = some (.bool y') ∧ u.cell? ⟨we.heap.size, tx * 10 + 1, none⟩ = some (.bool x0) ∧ u.cell? ⟨we.heap.size, tx * 10 + 2, none⟩ = some (.bool x1) ∧ u.cell? ⟨we.heap.size, tx * 10 + 3, none⟩ = some (.bool x2) ∧ u.cell? ⟨we.heap.size, tx * 10 + 4, none⟩ = some (.bool x3) ∧ u.cell? ⟨we.heap.size, tx * 10 + 5, none⟩ = some (.bool n0) ∧ u.cell? ⟨we.heap.size, tx * 10 + 6, none⟩ = some (.bool n1) ∧ u.cell? ⟨we.heap.size, tx * 10 + 7, none⟩ = some (.bool n2) ∧ u.cell? ⟨we.heap.size, tx * 10 + 8, none⟩ = some (.bool n3) ∧ u.cell? ⟨we.heap.size, tx * 10 + 9, none⟩ = some (.int .i64 tj) ∧ u.frozen? ⟨we.heap.size, tx * 10, none⟩ = false ∧ u.frozen? ⟨we.heap.size, tx * 10 + 1, none⟩ = false ∧ u.frozen? ⟨we.heap.size, tx * 10 + 2, none⟩ = false ∧ u.frozen? ⟨we.heap.size, tx * 10 + 3, none⟩ = false ∧ u.frozen? ⟨we.heap.size, tx * 10 + 4, none⟩ = false ∧ u.frozen? ⟨we.heap.size, tx * 10 + 5, none⟩ = false ∧ u.frozen? ⟨we.heap.size, tx * 10 + 6, none⟩ = false ∧ u.frozen? ⟨we.heap.size, tx * 10 + 7, none⟩ = false ∧ u.frozen? ⟨we.heap.size, tx * 10 + 8, none⟩ = false ∧ u.frozen? ⟨we.heap.size, tx * 10 + 9, none⟩ = false ∧ u.cell? ⟨q, v, none⟩ = some (.int .i64 (tx : Int))) := fun u hb => by
                            have hc : ∀ b i, b < w6.heap.size → u.cell? ⟨b, i, none⟩ = w6.cell? ⟨b, i, none⟩ := fun b i h => hb.cell (p := ⟨b, i, none⟩) h
                            have hf : ∀ b i, b < w6.heap.size → u.frozen? ⟨b, i, none⟩ = w6.frozen? ⟨b, i, none⟩ := fun b i h => hb.frozen (p := ⟨b, i, none⟩) h
                            exact ⟨(hc _ _ gw6).trans d0, (hc _ _ gw6).trans d1, (hc _ _ gw6).trans d2, (hc _ _ gw6).trans d3, (hc _ _ gw6).trans d4, (hc _ _ gw6).trans d5, (hc _ _ gw6).trans d6, (hc _ _ gw6).trans d7, (hc _ _ gw6).trans d8, (hc _ _ gw6).trans d9, (hf _ _ gw6).trans f0, (hf _ _ gw6).trans f1, (hf _ _ gw6).trans f2, (hf _ _ gw6).trans f3, (hf _ _ gw6).trans f4, (hf _ _ gw6).trans f5, (hf _ _ gw6).trans f6, (hf _ _ gw6).trans f7, (hf _ _ gw6).trans f8, (hf _ _ gw6).trans f9, (hc _ _ gq6).trans cq⟩
                          clear hg6 e0 e1 e2 e3 e4 e5 e6 e7 e8 e9 i0 i1 i2 i3 i4 cq0 hBe
                          go_upto_region 32 with fail
                          first | (go_region_with (first | (go_at_call 48; refine (hMe _).mono ?_; rintro e w7 ⟨rfl, hg7⟩; have HB7 : Hid (Below w6.heap.size w6 w7) := Below.trans (by repeat (first | with_reducible exact Below.refl _ _ | with_reducible refine Below.drew ?_ | with_reducible refine Below.alloc ?_ (by first | omega | (simp; done) | (simp; omega)) _)) (hg7.below.mono (by first | omega | (simp; done) | (simp; omega))); obtain ⟨q20, q21, q22, q23, q24, q25, q26, q27, q28, q29, q30, q31, q32, q33, q34, q35, q36, q37, q38, q39, q40⟩ := HKP.out w7 HB7.out; clear hg7))) | fail
                          all_goals
                            go_wp2_with fail
                            go_meet
                            have e10 : rput10 w7 we.heap.size tx z' r0 r1 r2 r3 q0 q1 q2 q3 tk = rputFc w7 we.heap.size tx (b.meet (a.behind x v)) := rput10_eq _ _ _ _ HV2.out
                            refine ⟨rfl, ?_, ?_⟩
                            · show RFs (rput10 w7 we.heap.size tx z' r0 r1 r2 r3 q0 q1 q2 q3 tk) we.heap.size _
                              rw [e10]
                              exact (HS6.out.below HB7.out).store tx (by rw [HGL.out]; omega) _
                            · show Tch we.heap.size w5 (rput10 w7 we.heap.size tx z' r0 r1 r2 r3 q0 q1 q2 q3 tk)
                              rw [e10]
                              exact ((HT.out.trans (Tch.of HB6.out)).trans (Tch.of HB7.out)).rputFc _ _
                        case rest =>
                          obtain ⟨rfl, hrf, htc⟩ := hcut
                          have HRF : Hid (RFs wc we.heap.size (G.set tx (b.meet (a.behind x v)))) := hrf
                          have HTC : Hid (Tch we.heap.size w5 wc) := htc
                          clear hrf htc
                          go_wp2_with fail
                          go_roundw
                          case rel =>
                            refine ⟨v + 1, by omega, by go_num, ?_, HTC.out⟩
                            refine HRF.out.congr ?_
                            rw [take_snoc os v 0 hvl, tell_snoc, HON.out, HG.out, Int.toNat_natCast, HTX.out, HBB.out, List.length_take, Nat.zero_add, Nat.min_eq_left (by omega)]
                          case measure => simp [intOf]; omega
                      · have e : v = os.length := by omega
                        subst e
                        have HT : Hid (Tch we.heap.size w5 _) := hT
                        clear hS3 hT
                        go_wp2_with fail
                        go_roundw
                        case rel =>
                          refine ⟨l + 1, HLZ.out, by go_num, ?_, HB.out.trans ((HB5.out.mono HB.out.size).trans (HT.out.below (Nat.le_refl _) (by omega)))⟩
                          refine HS3.out.congr ?_
                          rw [List.take_length, factsAt, HA.out, if_pos hcome, HX.out, HOS.out]
                        case measure => simp [intOf]; omega
                · have HR12 : Hid (l = z ∧ k = 12) := by
                    have hf : a.fault x = 12 := by
                      unfold Fc.fault
                      rw [HHS.out, HBAD.out, if_pos rfl]
                    rcases HFK.out with ⟨_, h0⟩ | ⟨h1, h2, _⟩
                    · rw [hf] at h0; omega
                    · exact ⟨h1, by rw [← h2, hf]⟩
                  go_wp2_with fail
                  go_ret2
                  obtain ⟨rfl, rfl⟩ := HR12.out
                  exact ⟨HBe.out.trans ((HB.out.trans (HBc.out.mono HB.out.size)).mono HBe.out.size), fun q => absurd q (by omega), fun _ => rfl⟩
        · have e : l = j := by omega
          subst e
          go_wp2_with fail
          go_ret2
          exact ⟨HBe.out.trans (HB.out.mono HBe.out.size), fun _ => rfl, fun q => absurd q (by omega)⟩
end Go.Proofs.YtclpnafiiobfhaaGreatDoor

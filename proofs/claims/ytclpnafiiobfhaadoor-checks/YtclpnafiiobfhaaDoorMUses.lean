import Derived.Test.YtclpnafiiobfhaaDoorMFcs
import Derived.Test.YtclpnafiiobfhaaDoorMBehind
namespace Go.Proofs.YtclpnafiiobfhaaDoor
open Go.RowKit
set_option linter.unusedVariables false
set_option linter.unusedSimpArgs false

theorem fcZero : (Tryd.prog.info? 152).map (fun i => (i.zero, i.size, i.bytes)) = some (some (.agg #[.bool false, .bool false, .bool false, .bool false, .bool false, .bool false, .bool false, .bool false, .bool false, .int .u32 0]), 10, 16) := by kernel_rfl

set_option maxHeartbeats 3200000 in
theorem cuses_any (s : ByteArray) (n g z : Nat) (k : Int) (w : World) (hC : Cd w g s n) (h : Jumps s n) (hzn : z ≤ n) (hgood : ∀ i, i < z → usesK s n i = 0) (hbad : z < n → (here s n z).come = true ∧ (here s n z).fault (insAt s z) = k ∧ k ≠ 0) :
    Calls Tryd.prog 67 #[.slice (some ⟨g, 0, none⟩) n n] w fun e w' => Below w.heap.size w w' ∧ (z = n → e = .returned .nilIface) ∧ (z < n → ∃ c, e = .returned (.iface 68 (.pointer (some ⟨c, 0, none⟩))) ∧ w.heap.size ≤ c ∧ c < w'.heap.size ∧ w'.cell? ⟨c, 0, none⟩ = some (.int .i64 z) ∧ w'.cell? ⟨c, 1, none⟩ = some (.int .i64 k)) := by
  have hn1 := h.pos
  have hn2 := h.most
  have hmk : ∀ w, (Instr.makeSlice 150 (.int .i64 (n : Int)) (.int .i64 (n : Int))).run Tryd.prog w = .ok (.slice (some ⟨w.heap.size, 0, none⟩) n n) (w.alloc (.cells (madeCells #[.bool false, .bool false, .bool false, .bool false, .bool false, .bool false, .bool false, .bool false, .bool false, .int .u32 0] (n * 10)) 152)) := by
    intro w
    exact run_make_wide (P := Tryd.prog) 150 152 _ 10 16 Tryd.underlying150 fcZero .i64 .i64 n (by omega) (by omega) w
  have HC : Hid (Cd w g s n) := hC
  have HF : Hid (Jumps s n) := h
  have HGD : Hid (∀ i, i < z → usesK s n i = 0) := hgood
  have HBD : Hid (z < n → (here s n z).come = true ∧ (here s n z).fault (insAt s z) = k ∧ k ≠ 0) := hbad
  clear hgood hbad
  have hg := hC.lt
  have hgn : g ≠ w.heap.size := Nat.ne_of_lt hg
  have hz : 0 < n := by omega
  have k0 : (madeCells #[.bool false, .bool false, .bool false, .bool false, .bool false, .bool false, .bool false, .bool false, .bool false, .int .u32 0] (n * 10))[0]? = some (.bool false) := by
    have : 0 < n * 10 := by omega
    simp [madeCells, this]
  clear hC h
  go_enter Tryd.func67, Tryd.ntmps67
  go_upto_region 4 with fail
  go_loopw [19] (fun i wr => ∃ j : Nat, j ≤ z ∧ i = .int .i64 j ∧ Fcs wr w.heap.size (factsAt s n j) ∧ Below w.heap.size w wr) (fun i _ => n - (intOf i).toNat)
  case atStart =>
    refine ⟨0, Nat.zero_le _, rfl, ?_, (Below.refl _ _).alloc (Nat.le_refl _) _⟩
    have := Fcs.made w n hn1 s
    rw [World.setCell_alloc_at _ _ _ _ _ rfl] at this
    exact this
  case round =>
    obtain ⟨j, hj, rfl, hS, hB⟩ := hrel
    have HB : Hid (Below w.heap.size w wr) := hB
    have HS : Hid (Fcs wr w.heap.size (factsAt s n j)) := hS
    clear hB hS k0
    by_cases hlt : j < n
    · have C1 := HC.out.below HB.out
      obtain ⟨x, hx⟩ : ∃ x, insAt s j = x := ⟨_, rfl⟩
      have HX : Hid (insAt s j = x) := hx
      have hbd : x.Bd := by rw [← hx]; exact insAt_bd s j
      have hr4 : x.r < 4 := by
        have := HF.out.fits j hlt
        rw [hx] at this
        unfold Ins.fits at this
        simp only [Bool.and_eq_true, decide_eq_true_eq] at this
        exact this.1.1.2
      have c0 := C1.op j hlt
      have c1 := C1.r j hlt
      have c2 := C1.t j hlt
      have c3 := C1.f j hlt
      have c4 := C1.k j hlt
      rw [hx] at c0 c1 c2 c3 c4
      obtain ⟨a, ha⟩ : ∃ a, (factsAt s n j).getD j fc0 = a := ⟨_, rfl⟩
      have HA : Hid ((factsAt s n j).getD j fc0 = a) := ha
      have hok : a.Ok := by rw [← ha]; exact oks_get (factsAt_ok s n j) j
      have hl : j < (factsAt s n j).length := by rw [factsAt_len]; exact hlt
      obtain ⟨y, u0, u1, u2, u3, m0, m1, m2, m3, th, hv⟩ := fc_vals a
      obtain ⟨d0, d1, d2, d3, d4, d5, d6, d7, d8, d9⟩ := HS.out.cells j hl (by rw [ha]; exact hv)
      have hy : y = a.come := by unfold fcC at hv; simp at hv; exact hv.1.symm
      have hFa := fun w => fault_any a x w hok hbd hr4
      have hEx := fun w => exits_all x w hbd
      have hBe := fun way w => behind_any a x way w hok hbd hr4
      have hMe := fun (b : Fc) w (hb : b.Ok) way => meet_any b (a.behind x way) w hb (hok.behind hbd way)
      unfold fcV insV at hFa hBe
      unfold fcV at hMe
      unfold insV at hEx
      rw [hv] at hFa hBe
      have HV : Hid (fcC a = _) := hv
      have HFA : Hid (∀ w, Calls _ _ _ w _) := hFa
      have HEX : Hid (∀ w, Calls _ _ _ w _) := hEx
      have HBE : Hid (∀ (way : Nat) w, Calls _ _ _ w _) := hBe
      have HME : Hid (∀ (b : Fc) w, b.Ok → ∀ way : Nat, Calls _ _ _ w _) := hMe
      have gl : w.heap.size < wr.heap.size := HS.out.lt
      have gg : g < wr.heap.size := C1.lt
      have gg1 : g ≠ wr.heap.size := by omega
      have gl1 : w.heap.size ≠ wr.heap.size := by omega
      clear hx C1 ha hl hv hFa hEx hBe hMe
      cases hcome : a.come
      · rw [hcome] at hy
        subst hy
        have hjz : j < z := by
          rcases Nat.lt_or_ge j z with q | q
          · exact q
          · exfalso
            have e : j = z := by omega
            have := (HBD.out (by omega)).1
            rw [← e] at this
            unfold here at this
            rw [HA.out, hcome] at this
            cases this
        go_wp2_with fail
        go_roundw
        case rel =>
          refine ⟨j + 1, by omega, by go_num, ?_, (HB.out.alloc HB.out.size _).alloc (by have := HB.out.size; simp; omega) _⟩
          have e : factsAt s n (j + 1) = factsAt s n j := by
            rw [factsAt, HA.out, hcome]; rfl
          rw [e]
          exact HS.out.below (((Below.refl _ _).alloc (Nat.le_refl _) _).alloc (by simp) _)
        case measure => simp [intOf]; omega
      · rw [hcome] at hy
        subst hy
        by_cases hjz : j < z
        case neg =>
          have e : z = j := by omega
          subst e
          have HK : Hid (a.fault x = k) := by
            have := (HBD.out hlt).2.1
            unfold here at this
            rw [HA.out, HX.out] at this
            exact this
          have hk0 : (k != 0) = true := by simpa using (HBD.out hlt).2.2
          go_wp2_with fail
          refine (HFA.out _).mono ?_
          rintro e w1 ⟨rfl, hb1⟩
          rw [HK.out]
          have HB1 : Hid (Below w.heap.size w w1) := ((HB.out.alloc HB.out.size _).alloc (by have := HB.out.size; simp; omega) _).trans (hb1.mono (by have := HB.out.size; simp; omega))
          clear hb1
          go_wp2_with fail
          go_ret
          refine ⟨HB1.out.alloc HB1.out.size _, fun q => absurd q (by omega), fun _ => ⟨w1.heap.size, rfl, HB1.out.size, by simp, ?_, ?_⟩⟩
          · rw [World.cell?_alloc_at _ _ _ _ rfl]; rfl
          · rw [World.cell?_alloc_at _ _ _ _ rfl]; rfl
        have HK : Hid (a.fault x = 0) := by
          have := HGD.out j hjz
          unfold usesK here at this
          rw [HA.out, hcome, if_pos rfl, HX.out] at this
          exact this
        go_wp2_with fail
        refine (HFA.out _).mono ?_
        rintro e w1 ⟨rfl, hb1⟩
        rw [HK.out]
        have i0 : w1.cell? ⟨wr.heap.size, 0, none⟩ = some (.int .u8 x.op) := by rw [hb1.cell (p := ⟨wr.heap.size, 0, none⟩) (by simp; omega), World.cell?_alloc_lt _ _ _ (by simp), World.cell?_alloc_at _ _ _ _ rfl]; rfl
        have i1 : w1.cell? ⟨wr.heap.size, 1, none⟩ = some (.int .u8 x.r) := by rw [hb1.cell (p := ⟨wr.heap.size, 1, none⟩) (by simp; omega), World.cell?_alloc_lt _ _ _ (by simp), World.cell?_alloc_at _ _ _ _ rfl]; rfl
        have i2 : w1.cell? ⟨wr.heap.size, 2, none⟩ = some (.int .u8 x.t) := by rw [hb1.cell (p := ⟨wr.heap.size, 2, none⟩) (by simp; omega), World.cell?_alloc_lt _ _ _ (by simp), World.cell?_alloc_at _ _ _ _ rfl]; rfl
        have i3 : w1.cell? ⟨wr.heap.size, 3, none⟩ = some (.int .u8 x.f) := by rw [hb1.cell (p := ⟨wr.heap.size, 3, none⟩) (by simp; omega), World.cell?_alloc_lt _ _ _ (by simp), World.cell?_alloc_at _ _ _ _ rfl]; rfl
        have i4 : w1.cell? ⟨wr.heap.size, 4, none⟩ = some (.int .u32 x.k) := by rw [hb1.cell (p := ⟨wr.heap.size, 4, none⟩) (by simp; omega), World.cell?_alloc_lt _ _ _ (by simp), World.cell?_alloc_at _ _ _ _ rfl]; rfl
        have hk : ∀ c, c < 10 → w1.cell? ⟨wr.heap.size + 1, c, none⟩ = (fcC a)[c]? := fun c hc => by
          rw [hb1.cell (p := ⟨wr.heap.size + 1, c, none⟩) (by simp), World.cell?_alloc_at _ _ _ _ (by simp), HV.out]
        have HK1 : Hid (∀ c, c < 10 → w1.cell? ⟨wr.heap.size + 1, c, none⟩ = (fcC a)[c]?) := hk
        have hA2 : Below wr.heap.size wr ((wr.alloc (insO x)).alloc (.cells (fcC a) 152)) := ((Below.refl _ _).alloc (Nat.le_refl _) _).alloc (by simp) _
        have HB1 : Hid (Below wr.heap.size wr w1) := by
          rw [HV.out] at hA2
          exact hA2.trans (hb1.mono (by simp; omega))
        have z1 : wr.heap.size + 2 ≤ w1.heap.size := by have := hb1.size; simp at this; omega
        clear hb1 hk hA2 c0 c1 c2 c3 c4 d0 d1 d2 d3 d4 d5 d6 d7 d8 d9
        go_wp2_with fail
        refine (HEX.out _).mono ?_
        rintro e w2 ⟨p, q, rfl, hp, hb2, hq, hq1, hO⟩
        have HB2 : Hid (Below wr.heap.size wr w2) := HB1.out.trans (hb2.mono (by omega))
        have HI : Hid (w2.cell? ⟨wr.heap.size, 0, none⟩ = some (.int .u8 x.op) ∧ w2.cell? ⟨wr.heap.size, 1, none⟩ = some (.int .u8 x.r) ∧ w2.cell? ⟨wr.heap.size, 2, none⟩ = some (.int .u8 x.t) ∧ w2.cell? ⟨wr.heap.size, 3, none⟩ = some (.int .u8 x.f) ∧ w2.cell? ⟨wr.heap.size, 4, none⟩ = some (.int .u32 x.k)) :=
          ⟨(hb2.cell (p := ⟨wr.heap.size, 0, none⟩) (by show wr.heap.size < _; omega)).trans i0, (hb2.cell (p := ⟨wr.heap.size, 1, none⟩) (by show wr.heap.size < _; omega)).trans i1, (hb2.cell (p := ⟨wr.heap.size, 2, none⟩) (by show wr.heap.size < _; omega)).trans i2, (hb2.cell (p := ⟨wr.heap.size, 3, none⟩) (by show wr.heap.size < _; omega)).trans i3, (hb2.cell (p := ⟨wr.heap.size, 4, none⟩) (by show wr.heap.size < _; omega)).trans i4⟩
        have HK2 : Hid (∀ c, c < 10 → w2.cell? ⟨wr.heap.size + 1, c, none⟩ = (fcC a)[c]?) := fun c hc => (hb2.cell (p := ⟨wr.heap.size + 1, c, none⟩) (by show wr.heap.size + 1 < _; omega)).trans (HK1.out c hc)
        have z2 : wr.heap.size + 2 ≤ w2.heap.size := by have := hb2.size; omega
        have zq : wr.heap.size + 2 ≤ q := by omega
        have HQ1 : Hid (0 < x.overs.length → q < w2.heap.size) := hq1
        have HO : Hid (Ovs w2 q x.overs) := hO
        have HP : Hid (0 < x.overs.length → p = some ⟨q, 0, none⟩) := hp
        have hm : x.overs.length ≤ 2 := by unfold Ins.overs; repeat' split
                                           all_goals simp
        have HOB : Hid (∀ o ∈ x.overs, 0 ≤ o ∧ o ≤ 4294967295) := Ins.overs_bd hbd
        obtain ⟨os, hos⟩ : ∃ os, x.overs = os := ⟨_, rfl⟩
        have HOS : Hid (x.overs = os) := hos
        have HJ1 : Hid (∀ o ∈ os, (j : Int) + 1 + o < n) := by
          intro o ho
          have := HF.out.fine j hlt
          unfold jumps at this
          rw [HX.out, hos, List.any_eq_false] at this
          have := this o ho
          simp only [decide_eq_true_eq] at this
          omega
        rw [hos] at HO HP hm HOB HQ1
        rw [hos]
        have HS2 : Hid (Fcs w2 w.heap.size (factsAt s n j)) := HS.out.below HB2.out
        clear hp hb2 hq hq1 hO i0 i1 i2 i3 i4 HK1 HB1 z1 hos
        obtain ⟨wo, rfl⟩ : ∃ wo, wo = wr := ⟨_, rfl⟩
        go_wp2_with fail
        go_loopw [44] (fun i wi => ∃ v : Nat, v ≤ os.length ∧ i = .int .i64 v ∧ Fcs wi w.heap.size (tell (factsAt s n j) a x j 0 (os.take v)) ∧ Tch w.heap.size w2 wi) (fun i _ => os.length - (intOf i).toNat)
        case atStart => exact ⟨0, Nat.zero_le _, rfl, HS2.out, Tch.refl _ _⟩
        case round =>
          obtain ⟨v, hv, rfl, hS3, hT⟩ := hrel
          have HS3 : Hid (Fcs _ w.heap.size (tell (factsAt s n j) a x j 0 (os.take v))) := hS3
          by_cases hvl : v < os.length
          · have hP0 : wo.heap.size < w2.heap.size := by omega
            have hP1 : wo.heap.size ≠ w.heap.size := by omega
            have hP2 : wo.heap.size + 1 < w2.heap.size := by omega
            have hP3 : wo.heap.size + 1 ≠ w.heap.size := by omega
            have hQ0 : q < w2.heap.size := HQ1.out (by omega)
            have hQ1 : q ≠ w.heap.size := by omega
            obtain rfl := HP.out (by omega)
            have hmem : os.getD v 0 ∈ os := by
              rw [List.getD_eq_getElem?_getD, List.getElem?_eq_getElem hvl]; simp
            have hob := HOB.out _ hmem
            have hjl := HJ1.out _ hmem
            have c := (hT.cell (p := ⟨q, v, none⟩) hQ0 hQ1).trans (HO.out v hvl)
            obtain ⟨on, hon⟩ : ∃ on : Nat, os.getD v 0 = on := ⟨(os.getD v 0).toNat, by omega⟩
            have HON : Hid (os.getD v 0 = on) := hon
            rw [hon] at c hob hjl
            have hlen : (tell (factsAt s n j) a x j 0 (os.take v)).length = n := by rw [tell_len, factsAt_len]
            obtain ⟨G, hG⟩ : ∃ G, tell (factsAt s n j) a x j 0 (os.take v) = G := ⟨_, rfl⟩
            have HG : Hid (tell (factsAt s n j) a x j 0 (os.take v) = G) := hG
            have hGok : ∀ f ∈ G, f.Ok := by rw [← hG]; exact tell_ok (factsAt_ok s n j) hok hbd _ _ _
            rw [hG] at HS3 hlen
            have HGL : Hid (G.length = n) := hlen
            obtain ⟨b, hb⟩ : ∃ b, G.getD (j + 1 + on) fc0 = b := ⟨_, rfl⟩
            have HBB : Hid (G.getD (j + 1 + on) fc0 = b) := hb
            have hbok : b.Ok := by rw [← hb]; exact oks_get hGok _
            obtain ⟨y', x0, x1, x2, x3, n0, n1, n2, n3, tj, hv'⟩ := fc_vals b
            obtain ⟨d0, d1, d2, d3, d4, d5, d6, d7, d8, d9⟩ := HS3.out.cells (j + 1 + on) (by rw [hlen]; omega) (by rw [hb]; exact hv')
            obtain ⟨z', r0, r1, r2, r3, q0, q1, q2, q3, tk, hv2⟩ := fc_vals (b.meet (a.behind x v))
            have hMe := fun w => HME.out b w hbok v
            have hBe := HBE.out v
            have HV2 : Hid (fcC (b.meet (a.behind x v)) = _) := hv2
            rw [hv', hv2] at hMe
            have i0 := (hT.cell (p := ⟨wo.heap.size, 0, none⟩) hP0 hP1).trans HI.out.1
            have i1 := (hT.cell (p := ⟨wo.heap.size, 1, none⟩) hP0 hP1).trans HI.out.2.1
            have i2 := (hT.cell (p := ⟨wo.heap.size, 2, none⟩) hP0 hP1).trans HI.out.2.2.1
            have i3 := (hT.cell (p := ⟨wo.heap.size, 3, none⟩) hP0 hP1).trans HI.out.2.2.2.1
            have i4 := (hT.cell (p := ⟨wo.heap.size, 4, none⟩) hP0 hP1).trans HI.out.2.2.2.2
            have e0 : wr.cell? ⟨wo.heap.size + 1, 0, none⟩ = some (.bool true) := by rw [hT.cell (p := ⟨wo.heap.size + 1, 0, none⟩) hP2 hP3, HK2.out 0 (by omega), HV.out]; rfl
            have e1 : wr.cell? ⟨wo.heap.size + 1, 1, none⟩ = some (.bool u0) := by rw [hT.cell (p := ⟨wo.heap.size + 1, 1, none⟩) hP2 hP3, HK2.out 1 (by omega), HV.out]; rfl
            have e2 : wr.cell? ⟨wo.heap.size + 1, 2, none⟩ = some (.bool u1) := by rw [hT.cell (p := ⟨wo.heap.size + 1, 2, none⟩) hP2 hP3, HK2.out 2 (by omega), HV.out]; rfl
            have e3 : wr.cell? ⟨wo.heap.size + 1, 3, none⟩ = some (.bool u2) := by rw [hT.cell (p := ⟨wo.heap.size + 1, 3, none⟩) hP2 hP3, HK2.out 3 (by omega), HV.out]; rfl
            have e4 : wr.cell? ⟨wo.heap.size + 1, 4, none⟩ = some (.bool u3) := by rw [hT.cell (p := ⟨wo.heap.size + 1, 4, none⟩) hP2 hP3, HK2.out 4 (by omega), HV.out]; rfl
            have e5 : wr.cell? ⟨wo.heap.size + 1, 5, none⟩ = some (.bool m0) := by rw [hT.cell (p := ⟨wo.heap.size + 1, 5, none⟩) hP2 hP3, HK2.out 5 (by omega), HV.out]; rfl
            have e6 : wr.cell? ⟨wo.heap.size + 1, 6, none⟩ = some (.bool m1) := by rw [hT.cell (p := ⟨wo.heap.size + 1, 6, none⟩) hP2 hP3, HK2.out 6 (by omega), HV.out]; rfl
            have e7 : wr.cell? ⟨wo.heap.size + 1, 7, none⟩ = some (.bool m2) := by rw [hT.cell (p := ⟨wo.heap.size + 1, 7, none⟩) hP2 hP3, HK2.out 7 (by omega), HV.out]; rfl
            have e8 : wr.cell? ⟨wo.heap.size + 1, 8, none⟩ = some (.bool m3) := by rw [hT.cell (p := ⟨wo.heap.size + 1, 8, none⟩) hP2 hP3, HK2.out 8 (by omega), HV.out]; rfl
            have e9 : wr.cell? ⟨wo.heap.size + 1, 9, none⟩ = some (.int .u32 th) := by rw [hT.cell (p := ⟨wo.heap.size + 1, 9, none⟩) hP2 hP3, HK2.out 9 (by omega), HV.out]; rfl
            have f0 := HS3.out.froz ((j + 1 + on) * 10)
            have f1 := HS3.out.froz ((j + 1 + on) * 10 + 1)
            have f2 := HS3.out.froz ((j + 1 + on) * 10 + 2)
            have f3 := HS3.out.froz ((j + 1 + on) * 10 + 3)
            have f4 := HS3.out.froz ((j + 1 + on) * 10 + 4)
            have f5 := HS3.out.froz ((j + 1 + on) * 10 + 5)
            have f6 := HS3.out.froz ((j + 1 + on) * 10 + 6)
            have f7 := HS3.out.froz ((j + 1 + on) * 10 + 7)
            have f8 := HS3.out.froz ((j + 1 + on) * 10 + 8)
            have f9 := HS3.out.froz ((j + 1 + on) * 10 + 9)
            have gw : w.heap.size < wr.heap.size := HS3.out.lt
            have gp0 : wo.heap.size < wr.heap.size := by have := hT.size; omega
            have gp1 : wo.heap.size + 1 < wr.heap.size := by have := hT.size; omega
            have gn : w.heap.size ≠ wo.heap.size := by omega
            have gn1 : w.heap.size ≠ wo.heap.size + 1 := by omega
            have HT : Hid (Tch w.heap.size w2 wr) := hT
            clear hS3 hT hmem hon hG hlen hGok hb hv' hv2
            have HKP : Hid (∀ w', Below wr.heap.size wr w' → (fun w' => w.heap.size < w'.heap.size ∧ wo.heap.size < w'.heap.size ∧ wo.heap.size + 1 < w'.heap.size ∧ w'.cell? ⟨wo.heap.size, 0, none⟩ = some (.int .u8 x.op) ∧ w'.cell? ⟨wo.heap.size, 1, none⟩ = some (.int .u8 x.r) ∧ w'.cell? ⟨wo.heap.size, 2, none⟩ = some (.int .u8 x.t) ∧ w'.cell? ⟨wo.heap.size, 3, none⟩ = some (.int .u8 x.f) ∧ w'.cell? ⟨wo.heap.size, 4, none⟩ = some (.int .u32 x.k) ∧ w'.cell? ⟨wo.heap.size + 1, 0, none⟩ = some (.bool true) ∧ w'.cell? ⟨wo.heap.size + 1, 1, none⟩ = some (.bool u0) ∧ w'.cell? ⟨wo.heap.size + 1, 2, none⟩ = some (.bool u1) ∧ w'.cell? ⟨wo.heap.size + 1, 3, none⟩ = some (.bool u2) ∧ w'.cell? ⟨wo.heap.size + 1, 4, none⟩ = some (.bool u3) ∧ w'.cell? ⟨wo.heap.size + 1, 5, none⟩ = some (.bool m0) ∧ w'.cell? ⟨wo.heap.size + 1, 6, none⟩ = some (.bool m1) ∧ w'.cell? ⟨wo.heap.size + 1, 7, none⟩ = some (.bool m2) ∧ w'.cell? ⟨wo.heap.size + 1, 8, none⟩ = some (.bool m3) ∧ w'.cell? ⟨wo.heap.size + 1, 9, none⟩ = some (.int .u32 th) ∧ w'.cell? ⟨w.heap.size, (j + 1 + on) * 10, none⟩ = some (.bool y') ∧ w'.cell? ⟨w.heap.size, (j + 1 + on) * 10 + 1, none⟩ = some (.bool x0) ∧ w'.cell? ⟨w.heap.size, (j + 1 + on) * 10 + 2, none⟩ = some (.bool x1) ∧ w'.cell? ⟨w.heap.size, (j + 1 + on) * 10 + 3, none⟩ = some (.bool x2) ∧ w'.cell? ⟨w.heap.size, (j + 1 + on) * 10 + 4, none⟩ = some (.bool x3) ∧ w'.cell? ⟨w.heap.size, (j + 1 + on) * 10 + 5, none⟩ = some (.bool n0) ∧ w'.cell? ⟨w.heap.size, (j + 1 + on) * 10 + 6, none⟩ = some (.bool n1) ∧ w'.cell? ⟨w.heap.size, (j + 1 + on) * 10 + 7, none⟩ = some (.bool n2) ∧ w'.cell? ⟨w.heap.size, (j + 1 + on) * 10 + 8, none⟩ = some (.bool n3) ∧ w'.cell? ⟨w.heap.size, (j + 1 + on) * 10 + 9, none⟩ = some (.int .u32 tj) ∧ w'.frozen? ⟨w.heap.size, (j + 1 + on) * 10, none⟩ = false ∧ w'.frozen? ⟨w.heap.size, (j + 1 + on) * 10 + 1, none⟩ = false ∧ w'.frozen? ⟨w.heap.size, (j + 1 + on) * 10 + 2, none⟩ = false ∧ w'.frozen? ⟨w.heap.size, (j + 1 + on) * 10 + 3, none⟩ = false ∧ w'.frozen? ⟨w.heap.size, (j + 1 + on) * 10 + 4, none⟩ = false ∧ w'.frozen? ⟨w.heap.size, (j + 1 + on) * 10 + 5, none⟩ = false ∧ w'.frozen? ⟨w.heap.size, (j + 1 + on) * 10 + 6, none⟩ = false ∧ w'.frozen? ⟨w.heap.size, (j + 1 + on) * 10 + 7, none⟩ = false ∧ w'.frozen? ⟨w.heap.size, (j + 1 + on) * 10 + 8, none⟩ = false ∧ w'.frozen? ⟨w.heap.size, (j + 1 + on) * 10 + 9, none⟩ = false) w') := fun w' hb => by
              have hc : ∀ b i, b < wr.heap.size → w'.cell? ⟨b, i, none⟩ = wr.cell? ⟨b, i, none⟩ := fun b i h => hb.cell (p := ⟨b, i, none⟩) h
              have hf : ∀ b i, b < wr.heap.size → w'.frozen? ⟨b, i, none⟩ = wr.frozen? ⟨b, i, none⟩ := fun b i h => hb.frozen (p := ⟨b, i, none⟩) h
              exact ⟨Nat.lt_of_lt_of_le gw hb.size, Nat.lt_of_lt_of_le gp0 hb.size, Nat.lt_of_lt_of_le gp1 hb.size, (hc _ _ gp0).trans i0, (hc _ _ gp0).trans i1, (hc _ _ gp0).trans i2, (hc _ _ gp0).trans i3, (hc _ _ gp0).trans i4, (hc _ _ gp1).trans e0, (hc _ _ gp1).trans e1, (hc _ _ gp1).trans e2, (hc _ _ gp1).trans e3, (hc _ _ gp1).trans e4, (hc _ _ gp1).trans e5, (hc _ _ gp1).trans e6, (hc _ _ gp1).trans e7, (hc _ _ gp1).trans e8, (hc _ _ gp1).trans e9, (hc _ _ gw).trans d0, (hc _ _ gw).trans d1, (hc _ _ gw).trans d2, (hc _ _ gw).trans d3, (hc _ _ gw).trans d4, (hc _ _ gw).trans d5, (hc _ _ gw).trans d6, (hc _ _ gw).trans d7, (hc _ _ gw).trans d8, (hc _ _ gw).trans d9, (hf _ _ gw).trans f0, (hf _ _ gw).trans f1, (hf _ _ gw).trans f2, (hf _ _ gw).trans f3, (hf _ _ gw).trans f4, (hf _ _ gw).trans f5, (hf _ _ gw).trans f6, (hf _ _ gw).trans f7, (hf _ _ gw).trans f8, (hf _ _ gw).trans f9⟩
            go_upto_region 15 with fail
            first | (go_region_with (first | (go_at_call 82; refine (hBe _).mono ?_; rintro e w4 ⟨rfl, hg4⟩; have HB4 : Hid (Below wr.heap.size wr w4) := Below.trans (by repeat (first | with_reducible exact Below.refl _ _ | with_reducible refine Below.drew ?_)) hg4.below; have HT4 : Hid (Tch w.heap.size wr w4) := Tch.of HB4.out; obtain ⟨o10, o11, o12, o13, o14, o15, o16, o17, o18, o19, o20, o21, o22, o23, o24, o25, o26, o27, o28, o29, o30, o31, o32, o33, o34, o35, o36, o37, o38, o39, o40, o41, o42, o43, o44, o45, o46, o47⟩ := HKP.out w4 HB4.out; clear hg4) | (go_at_call 81; refine (hMe _).mono ?_; rintro e w5 ⟨rfl, hg5⟩; have HB5 : Hid (Below wr.heap.size wr w5) := Below.trans (by repeat (first | with_reducible exact HB4.out | with_reducible refine Below.drew ?_)) (hg5.below.mono HB4.out.size); have HT5 : Hid (Tch w.heap.size wr w5) := Tch.of HB5.out; obtain ⟨q10, q11, q12, q13, q14, q15, q16, q17, q18, q19, q20, q21, q22, q23, q24, q25, q26, q27, q28, q29, q30, q31, q32, q33, q34, q35, q36, q37, q38, q39, q40, q41, q42, q43, q44, q45, q46, q47⟩ := HKP.out w5 HB5.out; clear hg5))) | fail
            all_goals
              go_wp2_with fail
              go_roundw
              case rel =>
                have e10 : put10 w5 w.heap.size (j + 1 + on) z' r0 r1 r2 r3 q0 q1 q2 q3 tk = putFc w5 w.heap.size (j + 1 + on) (b.meet (a.behind x v)) := put10_eq _ _ _ _ HV2.out
                refine ⟨v + 1, by omega, by go_num, ?_, ?_⟩
                · show Fcs (put10 w5 w.heap.size (j + 1 + on) z' r0 r1 r2 r3 q0 q1 q2 q3 tk) w.heap.size _
                  rw [e10, take_snoc os v 0 hvl, tell_snoc, HON.out, HG.out, Int.toNat_natCast, HBB.out, List.length_take, Nat.zero_add, Nat.min_eq_left (by omega)]
                  exact (HS3.out.below HB5.out).store (j + 1 + on) (by rw [HGL.out]; omega) _
                · show Tch w.heap.size w2 (put10 w5 w.heap.size (j + 1 + on) z' r0 r1 r2 r3 q0 q1 q2 q3 tk)
                  rw [e10]
                  exact (HT.out.trans (Tch.of (HB5.out))).putFc _ _
              case measure => simp [intOf]; omega
          · have e : v = os.length := by omega
            subst e
            have HT : Hid (Tch w.heap.size w2 _) := hT
            clear hS3 hT
            go_wp2_with fail
            go_roundw
            case rel =>
              refine ⟨j + 1, by omega, by go_num, ?_, HB.out.trans ((HB2.out.mono HB.out.size).trans (HT.out.below (Nat.le_refl _) (by omega)))⟩
              refine HS3.out.congr ?_
              rw [List.take_length, factsAt, HA.out, if_pos hcome, HX.out, HOS.out]
            case measure => simp [intOf]; omega
    · have e : j = n := by omega
      subst e
      go_wp2_with fail
      go_ret
      exact ⟨HB.out, fun _ => rfl, fun q => absurd q (by omega)⟩
end Go.Proofs.YtclpnafiiobfhaaDoor

import Derived.Test.YtclpnafiiobfhabGreatDoorMDoAny
import Derived.Test.YtclpnafiiobfhabGreatDoorMCd
import Derived.Test.YtclpnafiiobfhabGreatDoorTold
namespace Go.Proofs.YtclpnafiiobfhabGreatDoor
open Go.RowKit
set_option linter.unusedVariables false
set_option linter.unusedSimpArgs false

/-- the kind of an error as the error -/
def kindV (k : Int) : Value := trapV k

set_option maxHeartbeats 1600000 in
theorem exec_torn (p dsl : Value) (q : Int × Int) (i : Int) (w : World) (hL : Laid w)
    (hR : ∀ w', Below w.heap.size w w' → Calls Tryz.prog 95 #[p] w' fun e w'' => ∃ c, e = .returned (.tuple #[.slice none 0 0, .iface 90 (.pointer (some ⟨c, 0, none⟩))]) ∧ Below w'.heap.size w' w'' ∧ w'.heap.size ≤ c ∧ c < w''.heap.size ∧ w''.cell? ⟨c, 0, none⟩ = some (.int .i64 i) ∧ w''.cell? ⟨c, 1, none⟩ = some (.int .i64 10)) :
    Calls Tryz.prog 62 #[p, dsl, .agg #[.int .u32 q.1, .int .u32 q.2]] w fun e w' => e = .returned (.tuple #[.int .u8 0, .int .i64 0, trapV 10]) ∧ Below w.heap.size w w' := by
  have HL : Hid (Laid w) := hL
  have HR : Hid (∀ w', Below w.heap.size w w' → Calls _ _ _ w' _) := hR
  clear hL hR
  go_enter Tryz.func62, Tryz.ntmps62
  go_wp2_with fail
  refine (HR.out _ ((Below.refl _ _).alloc (Nat.le_refl _) _)).mono ?_
  rintro e w1 ⟨c, rfl, hb1, hc0, hc1, hc2, hc3⟩
  have HB1 : Hid (Below w.heap.size w w1) := ((Below.refl _ _).alloc (Nat.le_refl _) _).trans (hb1.mono (by simp))
  have HL1 : Hid (Laid w1) := HL.out.below HB1.out
  clear hb1
  go_wp2_with fail
  refine (as_hitC ⟨c, 0, none⟩ _ _ ?_ (.pointer none) ?_ ?_).mono ?_
  · exact HL1.out.alloc _
  · rw [World.cell?_alloc_at _ _ _ _ rfl]; rfl
  · exact World.frozen?_alloc_at _ _ _ _ rfl
  rintro e w2 ⟨rfl, hw2⟩
  have HB2 : Hid (Below w1.heap.size w1 w2) := by
    show Below w1.heap.size w1 w2
    rw [hw2]
    repeat (first | with_reducible exact Below.refl _ _ | with_reducible refine below_drewN ?_ _ | with_reducible refine Below.drew ?_ | with_reducible refine Below.setCell ?_ (by first | (simp; done) | (simp; omega)) _ | with_reducible refine Below.alloc ?_ (by first | (simp; done) | (simp; omega)) _)
  have hc : w2.cell? ⟨w1.heap.size, 0, none⟩ = some (.pointer (some ⟨c, 0, none⟩)) := by
    rw [hw2]
    refine World.cell?_setCell_same _ _ _ (u := .pointer none) ?_
    rw [Below.cell (B := w1.heap.size + 1) (w := w1.alloc (.cells #[.pointer none] 90)) (p := ⟨w1.heap.size, 0, none⟩) ?_ (by simp)]
    · rw [World.cell?_alloc_at _ _ _ _ (by simp)]; rfl
    · repeat (first | with_reducible exact Below.refl _ _ | with_reducible refine below_drewN ?_ _ | with_reducible refine Below.drew ?_ | with_reducible refine Below.setCell ?_ (by first | (simp; done) | (simp; omega)) _ | with_reducible refine Below.alloc ?_ (by first | (simp; done) | (simp; omega)) _)
  have g1 : w2.cell? ⟨c, 1, none⟩ = some (.int .i64 10) := by rw [HB2.out.cell (p := ⟨c, 1, none⟩) hc1]; exact hc3
  clear hw2 hc2 hc3
  go_wp2_with fail
  go_quiet (fail)
  go_wp2_with fail
  go_ret3
  exact ⟨rfl, below_drewN (HB1.out.trans (HB2.out.mono HB1.out.size)) _⟩

theorem trapV_ne {k : Int} (h : k ≠ 0) : trapV k = .iface 22 (.int .i64 k) := by unfold trapV; rw [if_neg h]
/-- what the loop keeps -/
structure Inv (w wr : World) (s : ByteArray) (n g m db doff dc : Nat) (d : ByteArray) (q : Int × Int) (i c : Nat) (a : St) (v : Int) (z : Nat) (k : Int) : Prop where
  goes : Goes s n d q i c a v z k
  ok : a.Ok
  mc : Mc wr m (.slice (some ⟨db, doff, none⟩) d.size dc) q a
  dat : Dat wr m db doff dc d
  cd : Cd wr g s n
  below : Below w.heap.size w wr
  gm : g ≠ m
  lo : w.heap.size ≤ m
  ib : i ≤ 8589934592
  ci : c ≤ i
theorem Cd.tch {w w' : World} {g n m : Nat} {s : ByteArray} (h : Cd w g s n) (hw : Tch m w w') (hn : g ≠ m) : Cd w' g s n := by
  have lt := h.lt
  have hc : ∀ i, w'.cell? ⟨g, i, none⟩ = w.cell? ⟨g, i, none⟩ := fun i => hw.cell (p := ⟨g, i, none⟩) lt hn
  exact ⟨fun j hj => (hc _).trans (h.op j hj), fun j hj => (hc _).trans (h.r j hj), fun j hj => (hc _).trans (h.t j hj), fun j hj => (hc _).trans (h.f j hj), fun j hj => (hc _).trans (h.k j hj), Nat.lt_of_lt_of_le lt hw.size⟩

set_option maxHeartbeats 3200000 in
theorem exec_run (s : ByteArray) (n : Nat) (p : Value) (db doff dc : Nat) (d : ByteArray) (q : Int × Int) (w : World) (hF : Formed s n) (v : Int) (z : Nat) (k : Int) (hG : Goes s n d q 0 0 st0 v z k)
    (hd : Row w db doff d) (hdb : db < w.heap.size) (hdc : d.size ≤ dc) (hdm : dc ≤ maxLen) (hdz : d.size ≤ 4294967295) (q0 : 0 ≤ q.1 ∧ q.1 ≤ 4294967295) (q1 : 0 ≤ q.2 ∧ q.2 ≤ 4294967295)
    (hR : ∀ w', Below w.heap.size w w' → Calls Tryz.prog 95 #[p] w' fun e w'' => e = .returned (.tuple #[.slice (some ⟨w'.heap.size, 0, none⟩) n n, .nilIface]) ∧ Below w'.heap.size w' w'' ∧ Lst w'' w'.heap.size ((List.range n).map (insAt s))) :
    Calls Tryz.prog 62 #[p, .slice (some ⟨db, doff, none⟩) d.size dc, .agg #[.int .u32 q.1, .int .u32 q.2]] w fun e w' => e = .returned (.tuple #[.int .u8 v, .int .i64 z, trapV k]) ∧ Below w.heap.size w w' := by
  have HR : Hid (∀ w', Below w.heap.size w w' → Calls _ _ _ w' _) := hR
  have HF : Hid (Formed s n) := hF
  have HD : Hid (Row w db doff d) := hd
  have HG : Hid (Goes s n d q 0 0 st0 v z k) := hG
  have hn1 := hF.pos
  have hn2 := hF.most
  clear hR hF hd hG
  go_enter Tryz.func62, Tryz.ntmps62
  go_wp2_with fail
  refine (HR.out _ ((Below.refl _ _).alloc (Nat.le_refl _) _)).mono ?_
  rintro e w1 ⟨rfl, hb1, hL⟩
  have HB1 : Hid (Below w.heap.size w w1) := ((Below.refl _ _).alloc (Nat.le_refl _) _).trans (hb1.mono (by simp))
  have HC1 : Hid (Cd w1 (w.heap.size + 1) s n) := by
    show Cd w1 (w.heap.size + 1) s n
    have := hL.cd
    simpa using this
  have e0 : w1.cell? ⟨w.heap.size, 0, none⟩ = some (.int .u32 q.1) := by rw [hb1.cell (p := ⟨w.heap.size, 0, none⟩) (by simp), World.cell?_alloc_at _ _ _ _ rfl]; rfl
  have e1 : w1.cell? ⟨w.heap.size, 1, none⟩ = some (.int .u32 q.2) := by rw [hb1.cell (p := ⟨w.heap.size, 1, none⟩) (by simp), World.cell?_alloc_at _ _ _ _ rfl]; rfl
  have hs1 : w.heap.size + 1 < w1.heap.size := HC1.out.lt
  have hs0 : w.heap.size < w1.heap.size := by omega
  clear hb1 hL HR
  go_wp2_with (go_at_call 35; refine (as_nil _ _).mono ?_; rintro e w' ⟨rfl, rfl⟩)
  go_loopw [13, 14] (fun dn at_ wr => ∃ (i c : Nat) (a : St), dn = .int .i64 c ∧ at_ = .int .u64 i ∧ Inv w wr s n (w.heap.size + 1) (w1.heap.size + 1) db doff dc d q i c a v z k) (fun _ at_ _ => n - (intOf at_).toNat)
  case atStart =>
    have hA : Below w1.heap.size w1 ((w1.alloc (.cells #[.pointer none] 90)).alloc (.cells #[.slice (some ⟨db, doff, none⟩) d.size dc, .int .u32 q.1, .int .u32 q.2, .int .u32 0, .int .u32 0, .int .u32 0, .int .u32 0, .bool false, .bool false, .bool false, .bool false] 201)) := ((Below.refl _ _).alloc (Nat.le_refl _) _).alloc (by simp) _
    refine ⟨0, 0, st0, rfl, rfl, HG.out, st0_ok, ?_, ⟨fun i hi => ?_, ?_, by omega, hdc, hdm, hdz⟩, HC1.out.below hA, HB1.out.trans (hA.mono HB1.out.size), by omega, by omega, by omega, by omega⟩
    · refine ⟨?_, ?_, ?_, fun i hi => ?_, fun i hi => ?_, fun i => World.frozen?_alloc_at _ _ _ _ (by simp), by simp⟩
      · rw [World.cell?_alloc_at _ _ _ _ (by simp)]; rfl
      · rw [World.cell?_alloc_at _ _ _ _ (by simp)]; rfl
      · rw [World.cell?_alloc_at _ _ _ _ (by simp)]; rfl
      · rw [World.cell?_alloc_at _ _ _ _ (by simp)]
        have : i = 0 ∨ i = 1 ∨ i = 2 ∨ i = 3 := by omega
        rcases this with rfl | rfl | rfl | rfl <;> rfl
      · rw [World.cell?_alloc_at _ _ _ _ (by simp)]
        have : i = 0 ∨ i = 1 ∨ i = 2 ∨ i = 3 := by omega
        rcases this with rfl | rfl | rfl | rfl <;> rfl
    · rw [hA.cell (p := ⟨db, doff + i, none⟩) (by show db < _; omega), HB1.out.cell (p := ⟨db, doff + i, none⟩) hdb]; exact HD.out i hi
    · exact Nat.lt_of_lt_of_le (by omega : db < w1.heap.size) hA.size
  case round =>
    obtain ⟨i, c, a, rfl, rfl, hI⟩ := hrel
    have HI : Hid (Inv w wr s n (w.heap.size + 1) (w1.heap.size + 1) db doff dc d q i c a v z k) := hI
    have ib := hI.ib
    have ci := hI.ci
    clear e0 e1 hI
    by_cases hlt : i < n
    · obtain ⟨x, hx⟩ : ∃ x, insAt s i = x := ⟨_, rfl⟩
      have HX : Hid (insAt s i = x) := hx
      have hbd : x.Bd := by rw [← hx]; exact insAt_bd s i
      have hfit : x.fits = true := by rw [← hx]; exact HF.out.fits i hlt
      have hr4 : x.r < 4 := by
        have := hfit
        unfold Ins.fits at this
        simp only [Bool.and_eq_true, decide_eq_true_eq] at this
        exact this.1.1.2
      have c0 := HI.out.cd.op i hlt
      have c1 := HI.out.cd.r i hlt
      have c2 := HI.out.cd.t i hlt
      have c3 := HI.out.cd.f i hlt
      have c4 := HI.out.cd.k i hlt
      rw [hx] at c0 c1 c2 c3 c4
      have gl : w.heap.size + 1 < wr.heap.size := HI.out.cd.lt
      clear hx
      have HFI : Hid (x.fits = true) := hfit
      clear hfit
      cases hop : x.op == 0
      · have HN0 : Hid (x.op ≠ 0) := by show x.op ≠ 0; simpa using hop
        have HAl : Hid (Below wr.heap.size wr (wr.alloc (insO x))) := (Below.refl _ _).alloc (Nat.le_refl _) _
        have hT := trap_any x (w1.heap.size + 1) d (some ⟨db, doff, none⟩) dc q a (wr.alloc (insO x)) hbd hr4 (by omega) (HI.out.mc.below HAl.out)
        unfold insV insO at hT
        have HT : Hid (Calls _ _ _ _ _) := hT
        clear hT
        by_cases htr : a.trap d x = 0
        · have HTR : Hid (a.trap d x = 0) := htr
          go_wp2_with fail
          refine HT.out.mono ?_
          rintro e w3 ⟨rfl, hb3⟩
          rw [HTR.out, trapV_0]
          have HB3 : Hid (Below wr.heap.size wr w3) := HAl.out.trans (hb3.mono (by simp))
          have i0 : w3.cell? ⟨wr.heap.size, 0, none⟩ = some (.int .u8 x.op) := by rw [hb3.cell (p := ⟨wr.heap.size, 0, none⟩) (by simp), World.cell?_alloc_at _ _ _ _ rfl]; rfl
          have i1 : w3.cell? ⟨wr.heap.size, 1, none⟩ = some (.int .u8 x.r) := by rw [hb3.cell (p := ⟨wr.heap.size, 1, none⟩) (by simp), World.cell?_alloc_at _ _ _ _ rfl]; rfl
          have i2 : w3.cell? ⟨wr.heap.size, 2, none⟩ = some (.int .u8 x.t) := by rw [hb3.cell (p := ⟨wr.heap.size, 2, none⟩) (by simp), World.cell?_alloc_at _ _ _ _ rfl]; rfl
          have i3 : w3.cell? ⟨wr.heap.size, 3, none⟩ = some (.int .u8 x.f) := by rw [hb3.cell (p := ⟨wr.heap.size, 3, none⟩) (by simp), World.cell?_alloc_at _ _ _ _ rfl]; rfl
          have i4 : w3.cell? ⟨wr.heap.size, 4, none⟩ = some (.int .u32 x.k) := by rw [hb3.cell (p := ⟨wr.heap.size, 4, none⟩) (by simp), World.cell?_alloc_at _ _ _ _ rfl]; rfl
          have HD3 : Hid (Dat w3 (w1.heap.size + 1) db doff dc d) := HI.out.dat.tch (Tch.of HB3.out)
          have hDo := do_any x (w1.heap.size + 1) db doff dc d q a w3 hbd HFI.out HN0.out HTR.out HI.out.ok HD3.out (HI.out.mc.below HB3.out)
          unfold insV at hDo
          have HDO : Hid (Calls _ _ _ _ _) := hDo
          have bov := a.over_bd hbd
          obtain ⟨ov, hov⟩ : ∃ ov : Nat, a.over x = ov := ⟨(a.over x).toNat, by omega⟩
          have HOV : Hid (a.over x = ov) := hov
          rw [hov] at bov
          clear hb3 hDo hov c0 c1 c2 c3 c4
          go_wp2_with fail
          refine HDO.out.mono ?_
          rintro e w4 ⟨rfl, hM4, hT4⟩
          rw [HOV.out]
          have HM4 : Hid (Mc w4 _ _ q (a.does d q x)) := hM4
          have HT4 : Hid (Tch (w1.heap.size + 1) w3 w4) := hT4
          clear hM4 hT4 i0 i1 i2 i3 i4
          go_wp2_with fail
          go_roundw
          case rel =>
            refine ⟨i + 1 + ov, c + 1, a.does d q x, by go_num, by go_num, ?_, HI.out.ok.does (by omega) q0 q1 x, HM4.out, HD3.out.tch HT4.out, (HI.out.cd.below HB3.out).tch HT4.out HI.out.gm, ?_, HI.out.gm, HI.out.lo, by omega, by omega⟩
            · have hg := HI.out.goes
              rcases hg.out with ⟨h, rfl, rfl, rfl⟩ | ⟨h, ho, rfl, rfl, rfl⟩ | ⟨h, ho, ht, rfl, rfl, rfl⟩ | ⟨h, ho, ht, hg⟩
              · omega
              · exact absurd (by rw [← HX.out]; exact ho) HN0.out
              · rw [HX.out] at ht; exact absurd HTR.out ht
              · rw [HX.out, HOV.out, Int.toNat_natCast] at hg
                exact hg
            · exact (HI.out.below.trans (HB3.out.mono HI.out.below.size)).trans (HT4.out.below HI.out.lo (Nat.le_trans HI.out.below.size HB3.out.size))
          case measure => simp [intOf]; omega
        · have HTR : Hid (a.trap d x ≠ 0) := htr
          obtain ⟨tr, htr'⟩ : ∃ tr, a.trap d x = tr := ⟨_, rfl⟩
          have HTE : Hid (a.trap d x = tr) := htr'
          have HRes : Hid (v = 0 ∧ z = c + 1 ∧ k = tr) := by
            have hg := HI.out.goes
            rcases hg.out with ⟨h, rfl, rfl, rfl⟩ | ⟨h, ho, rfl, rfl, rfl⟩ | ⟨h, ho, ht, rfl, rfl, rfl⟩ | ⟨h, ho, ht, hg⟩
            · omega
            · exact absurd (by rw [← HX.out]; exact ho) HN0.out
            · exact ⟨rfl, rfl, by rw [HX.out]; exact HTE.out⟩
            · rw [HX.out] at ht; exact absurd ht HTR.out
          clear htr htr'
          go_wp2_with fail
          refine HT.out.mono ?_
          rintro e w3 ⟨rfl, hb3⟩
          rw [trapV_ne HTR.out, HTE.out]
          have HB3 : Hid (Below wr.heap.size wr w3) := HAl.out.trans (hb3.mono (by simp))
          clear hb3 c0 c1 c2 c3 c4
          go_wp2_with fail
          go_ret3
          obtain ⟨rfl, rfl, rfl⟩ := HRes.out
          exact ⟨by rw [← trapV_ne (by rw [← HTE.out]; exact HTR.out)]; rfl, HI.out.below.trans (HB3.out.mono HI.out.below.size)⟩
      · have n0 : x.op = 0 := by simpa using hop
        have bk2 : x.k < 3 := by
          have := HFI.out
          unfold Ins.fits at this
          rw [if_pos n0] at this
          simp only [Bool.and_eq_true, decide_eq_true_eq] at this
          exact this.2.2
        have bk0 := hbd.k
        have HRes : Hid (v = x.k ∧ z = c + 1 ∧ k = 0) := by
          have hg := HI.out.goes
          rcases hg.out with ⟨h, rfl, rfl, rfl⟩ | ⟨h, ho, rfl, rfl, rfl⟩ | ⟨h, ho, ht, rfl, rfl, rfl⟩ | ⟨h, ho, ht, hg⟩
          · omega
          · exact ⟨by rw [HX.out], rfl, rfl⟩
          · rw [HX.out] at ho; exact absurd n0 ho
          · rw [HX.out] at ho; exact absurd n0 ho
        clear n0
        go_wp2_with fail
        go_ret3
        obtain ⟨rfl, rfl, rfl⟩ := HRes.out
        exact ⟨rfl, HI.out.below.alloc HI.out.below.size _⟩
    · have HRes : Hid (v = 0 ∧ z = c ∧ k = 23) := by
        have hg := HI.out.goes
        rcases hg.out with ⟨h, rfl, rfl, rfl⟩ | ⟨h, ho, rfl, rfl, rfl⟩ | ⟨h, ho, ht, rfl, rfl, rfl⟩ | ⟨h, ho, ht, hg⟩
        · exact ⟨rfl, rfl, rfl⟩
        · omega
        · omega
        · omega
      go_wp2_with fail
      go_ret3
      obtain ⟨rfl, rfl, rfl⟩ := HRes.out
      exact ⟨rfl, HI.out.below⟩
end Go.Proofs.YtclpnafiiobfhabGreatDoor

import Derived.Test.YtclpnafiiobfhaaDoorRoom
import Derived.Test.YtclpnafiiobfhaaDoorRefBuilt
import Derived.Test.YtclpnafiiobfhaaDoorPlBuild
namespace Go.Proofs.YtclpnafiiobfhaaDoor
open Go.RowKit
set_option linter.unusedVariables false
set_option linter.unusedSimpArgs false

theorem Roomy.pay {w : World} {g : Nat} {s : ByteArray} (h : Roomy w g s) (hg : g < w.heap.size) : PayIs w (some ⟨g, 0, none⟩) (toL s) :=
  .inr ⟨g, 0, rfl, hg, fun i hi => by rw [toL_len] at hi; rw [toL_nth]; exact h.row i hi⟩

set_option maxRecDepth 100000 in
set_option maxHeartbeats 1600000 in
theorem built_no (a b p sp dp f : Int) (s : ByteArray) (w : World) (hL : Laid w) (hs : s.size ≤ 262144) (h : 1000 < s.size ∨ mayB p sp dp f = false) :
    Calls Tryd.prog 11 #[.agg #[.int .u32 a, .int .u32 b, .int .u8 p, .int .u16 sp, .int .u16 dp, .int .u8 f], .string s] w fun e w' => e = .returned (.bool true) ∧ Below w.heap.size w w' := by
  have HL : Hid (Laid w) := hL
  have HH : Hid (1000 < s.size ∨ mayB p sp dp f = false) := h
  have hsn : ∀ W, (binOp .eql 35 (.slice none 0 0) (.slice none 0 0)).run Tryd.prog W = .ok (.bool true) W := fun W => by kernel_rfl
  clear hL h
  go_enter Tryd.func11, Tryd.ntmps11
  go_wp2_with fail
  refine (roomy_any s _ hs).mono ?_
  rintro e w' ⟨rfl, rfl⟩
  go_wp2_with fail
  refine (plBuild_no a b p sp dp f _ s.size (s.size + 2) _ ((HL.out.alloc _).alloc _) (by omega) HH.out).mono ?_
  rintro e w1 ⟨rfl, hb1⟩
  have R1 : Hid (Roomy w1 (w.heap.size + 1) s) := by
    have h := (Roomy.made (w.alloc (.cells #[.int .u32 a, .int .u32 b, .int .u8 p, .int .u16 sp, .int .u16 dp, .int .u8 f] 28)) s).below (by simp) hb1
    rw [show (w.alloc (.cells #[.int .u32 a, .int .u32 b, .int .u8 p, .int .u16 sp, .int .u16 dp, .int .u8 f] 28)).heap.size = w.heap.size + 1 from by simp] at h
    exact h
  have B1 : Hid (Below w.heap.size w w1) := (((Below.refl _ _).alloc (Nat.le_refl _) _).alloc (by simp) _).trans (hb1.mono (by simp; omega))
  have z1 : w.heap.size + 2 ≤ w1.heap.size := by have := hb1.size; simp at this; omega
  have w1x0 : w1.cell? ⟨w.heap.size, 0, none⟩ = some (.int .u32 a) := by rw [hb1.cell (p := ⟨w.heap.size, 0, none⟩) (by simp; omega)]; rw [World.cell?_alloc_lt _ _ _ (by simp), World.cell?_alloc_at _ _ _ _ rfl]; rfl
  have w1x1 : w1.cell? ⟨w.heap.size, 1, none⟩ = some (.int .u32 b) := by rw [hb1.cell (p := ⟨w.heap.size, 1, none⟩) (by simp; omega)]; rw [World.cell?_alloc_lt _ _ _ (by simp), World.cell?_alloc_at _ _ _ _ rfl]; rfl
  have w1x2 : w1.cell? ⟨w.heap.size, 2, none⟩ = some (.int .u8 p) := by rw [hb1.cell (p := ⟨w.heap.size, 2, none⟩) (by simp; omega)]; rw [World.cell?_alloc_lt _ _ _ (by simp), World.cell?_alloc_at _ _ _ _ rfl]; rfl
  have w1x3 : w1.cell? ⟨w.heap.size, 3, none⟩ = some (.int .u16 sp) := by rw [hb1.cell (p := ⟨w.heap.size, 3, none⟩) (by simp; omega)]; rw [World.cell?_alloc_lt _ _ _ (by simp), World.cell?_alloc_at _ _ _ _ rfl]; rfl
  have w1x4 : w1.cell? ⟨w.heap.size, 4, none⟩ = some (.int .u16 dp) := by rw [hb1.cell (p := ⟨w.heap.size, 4, none⟩) (by simp; omega)]; rw [World.cell?_alloc_lt _ _ _ (by simp), World.cell?_alloc_at _ _ _ _ rfl]; rfl
  have w1x5 : w1.cell? ⟨w.heap.size, 5, none⟩ = some (.int .u8 f) := by rw [hb1.cell (p := ⟨w.heap.size, 5, none⟩) (by simp; omega)]; rw [World.cell?_alloc_lt _ _ _ (by simp), World.cell?_alloc_at _ _ _ _ rfl]; rfl
  clear hb1
  go_wp2_with fail
  refine (still_any s (w.heap.size + 1) _ hs R1.out).mono ?_
  rintro e w2 ⟨rfl, rfl⟩
  go_wp2_with fail
  refine (refBuild_no a b p sp dp f s _ hs HH.out).mono ?_
  rintro e w3 ⟨rfl, hb3⟩
  go_wp2
  go_ret
  exact ⟨rfl, B1.out.trans (hb3.mono (by omega))⟩
set_option maxRecDepth 100000 in
set_option maxHeartbeats 3200000 in
theorem built_yes (a b p sp dp f : Int) (s : ByteArray) (w : World) (hL : Laid w) (hra : 0 ≤ a ∧ a ≤ 4294967295) (hrb : 0 ≤ b ∧ b ≤ 4294967295) (hrp : 0 ≤ p ∧ p ≤ 255) (hsp : 0 ≤ sp ∧ sp ≤ 65535) (hdp : 0 ≤ dp ∧ dp ≤ 65535) (hf : 0 ≤ f ∧ f ≤ 255) (hs : s.size ≤ 1000) (hmay : mayB p sp dp f = true) (K : Nat) (hK : (K : Int) = 34 + isz p) :
    Calls Tryd.prog 11 #[.agg #[.int .u32 a, .int .u32 b, .int .u8 p, .int .u16 sp, .int .u16 dp, .int .u8 f], .string s] w fun e w' => e = .returned (.bool true) ∧ Below w.heap.size w w' := by
  have HL : Hid (Laid w) := hL
  have HM : Hid (mayB p sp dp f = true) := hmay
  have HK : Hid ((K : Int) = 34 + isz p) := hK
  have hz := isz_bd p
  have HY : Hid (Byt (frameI a b p sp dp f K (toL s))) := frameI_byt a b p sp dp f K (toL s) hra hrb hrp hsp hdp hf (by rw [toL_len]; exact hs) (toL_byt s) hK
  have HN : Hid ((frameI a b p sp dp f K (toL s)).length = (K + s.size)) := by show _ = _; rw [frameI_len, toL_len]
  have kle : K ≤ 54 := by omega
  clear hL hmay hK hz
  go_enter Tryd.func11, Tryd.ntmps11
  go_wp2_with fail
  refine (roomy_any s _ (by omega)).mono ?_
  rintro e w' ⟨rfl, rfl⟩
  go_wp2_with fail
  rw [← toL_len s]
  refine (plBuild_yes a b p sp dp f _ _ (toL s) _ hra hrb hrp hsp hdp hf (by rw [toL_len]; exact hs) (toL_byt s) (by
    have h := (Roomy.made (w.alloc (.cells #[.int .u32 a, .int .u32 b, .int .u8 p, .int .u16 sp, .int .u16 dp, .int .u8 f] 28)) s).pay (by simp)
    rw [show (w.alloc (.cells #[.int .u32 a, .int .u32 b, .int .u8 p, .int .u16 sp, .int .u16 dp, .int .u8 f] 28)).heap.size = w.heap.size + 1 from by simp] at h
    exact h) HM.out K HK.out).mono ?_
  rintro e w1 ⟨g, rfl, hg1, hb1, hB1⟩
  rw [toL_len s]
  simp at hg1
  have R1 : Hid (Roomy w1 (w.heap.size + 1) s) := by
    have h := (Roomy.made (w.alloc (.cells #[.int .u32 a, .int .u32 b, .int .u8 p, .int .u16 sp, .int .u16 dp, .int .u8 f] 28)) s).below (by simp) hb1
    rw [show (w.alloc (.cells #[.int .u32 a, .int .u32 b, .int .u8 p, .int .u16 sp, .int .u16 dp, .int .u8 f] 28)).heap.size = w.heap.size + 1 from by simp] at h
    exact h
  have B1 : Hid (Below w.heap.size w w1) := (((Below.refl _ _).alloc (Nat.le_refl _) _).alloc (by simp) _).trans (hb1.mono (by simp; omega))
  have z1 : w.heap.size + 2 ≤ w1.heap.size := by have := hb1.size; simp at this; omega
  have F1 : Hid (Buf w1 g (frameI a b p sp dp f K (toL s))) := hB1
  have gl1 : g < w1.heap.size := hB1.lt
  have w1x0 : w1.cell? ⟨w.heap.size, 0, none⟩ = some (.int .u32 a) := by rw [hb1.cell (p := ⟨w.heap.size, 0, none⟩) (by simp; omega)]; rw [World.cell?_alloc_lt _ _ _ (by simp), World.cell?_alloc_at _ _ _ _ rfl]; rfl
  have w1x1 : w1.cell? ⟨w.heap.size, 1, none⟩ = some (.int .u32 b) := by rw [hb1.cell (p := ⟨w.heap.size, 1, none⟩) (by simp; omega)]; rw [World.cell?_alloc_lt _ _ _ (by simp), World.cell?_alloc_at _ _ _ _ rfl]; rfl
  have w1x2 : w1.cell? ⟨w.heap.size, 2, none⟩ = some (.int .u8 p) := by rw [hb1.cell (p := ⟨w.heap.size, 2, none⟩) (by simp; omega)]; rw [World.cell?_alloc_lt _ _ _ (by simp), World.cell?_alloc_at _ _ _ _ rfl]; rfl
  have w1x3 : w1.cell? ⟨w.heap.size, 3, none⟩ = some (.int .u16 sp) := by rw [hb1.cell (p := ⟨w.heap.size, 3, none⟩) (by simp; omega)]; rw [World.cell?_alloc_lt _ _ _ (by simp), World.cell?_alloc_at _ _ _ _ rfl]; rfl
  have w1x4 : w1.cell? ⟨w.heap.size, 4, none⟩ = some (.int .u16 dp) := by rw [hb1.cell (p := ⟨w.heap.size, 4, none⟩) (by simp; omega)]; rw [World.cell?_alloc_lt _ _ _ (by simp), World.cell?_alloc_at _ _ _ _ rfl]; rfl
  have w1x5 : w1.cell? ⟨w.heap.size, 5, none⟩ = some (.int .u8 f) := by rw [hb1.cell (p := ⟨w.heap.size, 5, none⟩) (by simp; omega)]; rw [World.cell?_alloc_lt _ _ _ (by simp), World.cell?_alloc_at _ _ _ _ rfl]; rfl
  clear hb1 hB1
  go_wp2_with fail
  refine (still_any s (w.heap.size + 1) _ (by omega) R1.out).mono ?_
  rintro e w2 ⟨rfl, rfl⟩
  go_wp2_with fail
  refine (refBuild_yes a b p sp dp f s _ hra hrb hrp hsp hdp hf hs HM.out K HK.out).mono ?_
  rintro e w3 ⟨rfl, hb3⟩
  have R3 : Hid (Roomy w3 (w.heap.size + 1) s) := R1.out.below (by omega) hb3
  have B3 : Hid (Below w.heap.size w w3) := B1.out.trans (hb3.mono (by omega))
  have F3 : Hid (Buf w3 g (frameI a b p sp dp f K (toL s))) := F1.out.below hb3 gl1
  have z3 := hb3.size
  have w3x0 : w3.cell? ⟨w.heap.size, 0, none⟩ = some (.int .u32 a) := by rw [hb3.cell (p := ⟨w.heap.size, 0, none⟩) (by simp; omega)]; exact w1x0
  have w3x1 : w3.cell? ⟨w.heap.size, 1, none⟩ = some (.int .u32 b) := by rw [hb3.cell (p := ⟨w.heap.size, 1, none⟩) (by simp; omega)]; exact w1x1
  have w3x2 : w3.cell? ⟨w.heap.size, 2, none⟩ = some (.int .u8 p) := by rw [hb3.cell (p := ⟨w.heap.size, 2, none⟩) (by simp; omega)]; exact w1x2
  have w3x3 : w3.cell? ⟨w.heap.size, 3, none⟩ = some (.int .u16 sp) := by rw [hb3.cell (p := ⟨w.heap.size, 3, none⟩) (by simp; omega)]; exact w1x3
  have w3x4 : w3.cell? ⟨w.heap.size, 4, none⟩ = some (.int .u16 dp) := by rw [hb3.cell (p := ⟨w.heap.size, 4, none⟩) (by simp; omega)]; exact w1x4
  have w3x5 : w3.cell? ⟨w.heap.size, 5, none⟩ = some (.int .u8 f) := by rw [hb3.cell (p := ⟨w.heap.size, 5, none⟩) (by simp; omega)]; exact w1x5
  have hcv := F3.out.conv HY.out (K + s.size) (K + s.size) HN.out
  clear hb3 w1x0 w1x1 w1x2 w1x3 w1x4 w1x5
  go_wp2_with fail
  refine (spoilt_any (frameI a b p sp dp f K (toL s)) g (K + s.size) _ HN.out (by omega) F3.out).mono ?_
  rintro e w4 ⟨rfl, ht4, hb4⟩
  have gne : g ≠ w.heap.size + 1 := by omega
  have R4 : Hid (Roomy w4 (w.heap.size + 1) s) := fun i v hv => by
    rw [ht4.cell (p := ⟨w.heap.size + 1, i, none⟩) (by simp; omega) (by simp; omega)]; exact R3.out i v hv
  have B4 : Hid (Below w.heap.size w w4) := B3.out.trans (ht4.below (by omega) (by omega))
  have F4 : Hid (Buf w4 g (List.replicate (K + s.size) 99)) := hb4
  have z4 := ht4.size
  have w4x0 : w4.cell? ⟨w.heap.size, 0, none⟩ = some (.int .u32 a) := by rw [ht4.cell (p := ⟨w.heap.size, 0, none⟩) (by simp; omega) (by simp; omega)]; exact w3x0
  have w4x1 : w4.cell? ⟨w.heap.size, 1, none⟩ = some (.int .u32 b) := by rw [ht4.cell (p := ⟨w.heap.size, 1, none⟩) (by simp; omega) (by simp; omega)]; exact w3x1
  have w4x2 : w4.cell? ⟨w.heap.size, 2, none⟩ = some (.int .u8 p) := by rw [ht4.cell (p := ⟨w.heap.size, 2, none⟩) (by simp; omega) (by simp; omega)]; exact w3x2
  have w4x3 : w4.cell? ⟨w.heap.size, 3, none⟩ = some (.int .u16 sp) := by rw [ht4.cell (p := ⟨w.heap.size, 3, none⟩) (by simp; omega) (by simp; omega)]; exact w3x3
  have w4x4 : w4.cell? ⟨w.heap.size, 4, none⟩ = some (.int .u16 dp) := by rw [ht4.cell (p := ⟨w.heap.size, 4, none⟩) (by simp; omega) (by simp; omega)]; exact w3x4
  have w4x5 : w4.cell? ⟨w.heap.size, 5, none⟩ = some (.int .u8 f) := by rw [ht4.cell (p := ⟨w.heap.size, 5, none⟩) (by simp; omega) (by simp; omega)]; exact w3x5
  clear ht4 hb4 hcv w3x0 w3x1 w3x2 w3x3 w3x4 w3x5
  go_wp2_with fail
  rw [← toL_len s]
  refine (plBuild_yes a b p sp dp f _ _ (toL s) _ hra hrb hrp hsp hdp hf (by rw [toL_len]; exact hs) (toL_byt s) (R4.out.pay (by omega)) HM.out K HK.out).mono ?_
  rintro e w5 ⟨g5, rfl, hg5, hb5, hB5⟩
  rw [toL_len s]
  have F5 : Hid (Buf w5 g (List.replicate (K + s.size) 99)) := F4.out.below hb5 F4.out.lt
  have B5 : Hid (Below w.heap.size w w5) := B4.out.trans (hb5.mono (by omega))
  have hcv5 := hB5.conv HY.out (K + s.size) (K + s.size) HN.out
  clear hb5 hB5 w4x0 w4x1 w4x2 w4x3 w4x4 w4x5
  go_wp2_with fail
  refine (stays_any g (K + s.size) _ (by omega) F5.out).mono ?_
  rintro e w6 ⟨rfl, rfl⟩
  go_wp2
  go_ret
  exact ⟨rfl, B5.out⟩
end Go.Proofs.YtclpnafiiobfhaaDoor


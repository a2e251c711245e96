import Derived.Test.YtclpnafiiobfhabDoorMCheck
import Derived.Test.YtclpnafiiobfhabDoorMExecs
import Derived.Test.YtclpnafiiobfhabDoorMachSafe
import Derived.Lib.ConvBytes
namespace Go.Proofs.YtclpnafiiobfhabDoor
open Go.RowKit
set_option linter.unusedVariables false
set_option linter.unusedSimpArgs false

theorem bw_row (W : World) (s : ByteArray) : Row (Lib.bytesWorld W 5 s) W.heap.size 0 s := fun i hi => by
  rw [Nat.zero_add, Lib.bytesWorld_cell _ _ _ _ hi]; rfl
theorem bw_below (W : World) (s : ByteArray) : Below W.heap.size W (Lib.bytesWorld W 5 s) :=
  ⟨rfl, rfl, rfl, by rw [Lib.bytesWorld_size]; omega, fun k hk => Lib.bytesWorld_at_old _ _ _ _ hk⟩
/-- the code that only accepts -/
def ret1 : ByteArray := ⟨#[0, 0, 0, 0, 0, 0, 0, 1]⟩
theorem ret1_at : insAt ret1 0 = ⟨0, 0, 0, 0, 1⟩ := by kernel_rfl
theorem ret1_fine : Fine ret1 1 := by
  have a0 : ∀ i, i < 1 → insAt ret1 i = ⟨0, 0, 0, 0, 1⟩ := fun i hi => by
    obtain rfl : i = 0 := by omega
    exact ret1_at
  refine ⟨⟨⟨⟨rfl, by omega, by omega⟩, fun i hi => ?_⟩, fun i hi => ?_⟩, fun i hi => ?_⟩
  · rw [a0 i hi]; decide
  · unfold jumps; rw [a0 i hi, show (⟨0, 0, 0, 0, 1⟩ : Ins).overs = [] by rfl]; rfl
  · unfold usesK
    rw [a0 i hi]
    split
    · unfold Fc.fault
      have h0 : (⟨0, 0, 0, 0, 1⟩ : Ins).uses = false := by decide
      have h1 : (⟨0, 0, 0, 0, 1⟩ : Ins).wide = 0 := by decide
      rw [h0, h1, Bool.false_and, if_neg (by decide)]
      have := (oks_get (factsAt_ok ret1 1 i) i).there
      rw [if_neg (by unfold here; omega)]
    · rfl
theorem ret1_row (W : World) : Row (W.alloc (.cells #[.int .u8 0, .int .u8 0, .int .u8 0, .int .u8 0, .int .u8 0, .int .u8 0, .int .u8 0, .int .u8 1] 5)) W.heap.size 0 ret1 := fun i hi => by
  rw [World.cell?_alloc_at _ _ _ _ rfl]
  have : i < 8 := hi
  have h8 : i = 0 ∨ i = 1 ∨ i = 2 ∨ i = 3 ∨ i = 4 ∨ i = 5 ∨ i = 6 ∨ i = 7 := by omega
  rcases h8 with rfl | rfl | rfl | rfl | rfl | rfl | rfl | rfl <;> rfl

set_option maxHeartbeats 1600000 in
theorem safe_any (s d : ByteArray) (a b : Int) (w : World) (hL : Laid w) (hs : s.size ≤ maxLen) (hd : d.size ≤ maxLen) :
    Calls Tryd.prog 3 #[.string s, .string d, .int .i64 a, .int .i64 b] w fun e w' => e = .returned (.bool true) ∧ Below w.heap.size w w' := by
  have HL : Hid (Laid w) := hL
  have hs' := hs
  have hd' := hd
  unfold maxLen at hs' hd'
  clear hL
  by_cases c1 : 262144 < (s.size : Int)
  · go_enter Tryd.func3, Tryd.ntmps3
    go_wp2_with fail
    go_ret
    exact ⟨rfl, Below.refl _ _⟩
  have c1 : (s.size : Int) ≤ 262144 := by omega
  by_cases c2 : 262144 < (d.size : Int)
  · go_enter Tryd.func3, Tryd.ntmps3
    go_wp2_with fail
    go_ret
    exact ⟨rfl, Below.refl _ _⟩
  have c2 : (d.size : Int) ≤ 262144 := by omega
  have hcv := fun (W : World) (s : ByteArray) => Lib.run_convert_string_bytes (P := Tryd.prog) W 9 25 5 s Tryd.underlying9 Tryd.underlying25 Tryd.underlying5
  obtain ⟨k, i, hO⟩ := out_total s
  have HO : Hid (Out s k i) := hO
  have HC1 : Hid (∀ W, Laid W → Calls Tryd.prog 4 _ _ _) := fun W hW => plCheck_any s k i W.heap.size 0 (grownCap W s.size 0 5) (Lib.bytesWorld W 5 s) (hW.below (bw_below W s)) (grownCap_ge _ _ _ _) (grownCap_le_maxLen _ _ _ _ hs) (by rw [Lib.bytesWorld_size]; omega) (bw_row W s) hO
  by_cases hk : k = 0
  · subst hk
    obtain ⟨n, hF, rfl⟩ : ∃ n, Fine s n ∧ i = 0 := by
      rcases hO with ⟨_, _, hk, _⟩ | ⟨_, _, _, _, _, _, hk, _⟩ | ⟨_, _, _, _, _, _, h3, _, _⟩ | ⟨n, hF, _, hi⟩
      · omega
      · omega
      · exact absurd rfl h3
      · exact ⟨n, hF, hi⟩
    obtain ⟨v, z, k', hG⟩ := goes_total s n d (a % 4294967296, b % 4294967296) n 0 0 st0 (by omega)
    have hS := safe_goes hF (by omega : d.size ≤ 4294967295) (by dsimp only; omega) (by dsimp only; omega) hG hF.pos (Nat.le_refl _) st0_ok (holds_start s n hF.pos d)
    obtain ⟨rfl, v0, v2, z1, zn⟩ := hS
    have hR : Ran s d (a % 4294967296, b % 4294967296) v z 0 := .inr ⟨n, hF.toFormed, hG⟩
    have HE : Hid (∀ W, Laid W → Calls Tryd.prog 5 #[.slice (some ⟨W.heap.size, 0, none⟩) s.size (grownCap W s.size 0 5), .slice (some ⟨W.heap.size + 1, 0, none⟩) d.size (grownCap (Lib.bytesWorld W 5 s) d.size 0 5), .agg #[.int .u32 (a % 4294967296), .int .u32 (b % 4294967296)]] (Lib.bytesWorld (Lib.bytesWorld W 5 s) 5 d) fun e w' => e = .returned (.tuple #[.int .u8 v, .int .i64 z, .int .i64 0]) ∧ Below (Lib.bytesWorld (Lib.bytesWorld W 5 s) 5 d).heap.size (Lib.bytesWorld (Lib.bytesWorld W 5 s) 5 d) w') := fun W hW => by
      have b1 := bw_below W s
      have b2 := bw_below (Lib.bytesWorld W 5 s) d
      have z1 := Lib.bytesWorld_size W 5 s
      have z2 := Lib.bytesWorld_size (Lib.bytesWorld W 5 s) 5 d
      have r2 := bw_row (Lib.bytesWorld W 5 s) d
      rw [z1] at r2
      exact plExec_any s d (a % 4294967296, b % 4294967296) v z 0 W.heap.size 0 _ (W.heap.size + 1) 0 _ _ ((hW.below b1).below b2) hR (grownCap_ge _ _ _ _) (grownCap_le_maxLen _ _ _ _ hs) (by rw [z2, z1]; omega)
        (fun i hi => (b2.cell (p := ⟨W.heap.size, 0 + i, none⟩) (by rw [z1]; show W.heap.size < _; omega)).trans (bw_row W s i hi)) r2 (by rw [z2, z1]; omega) (grownCap_ge _ _ _ _) (grownCap_le_maxLen _ _ _ _ hd) (by omega) (by dsimp only; omega) (by dsimp only; omega)
    have n8 : (s.size : Int) / 8 = n := by have := hF.size; omega
    have zn' : (z : Int) ≤ (s.size : Int) / 8 := by omega
    have z1' : (1 : Int) ≤ (z : Int) := by omega
    clear hO hF hG hR n8
    go_enter Tryd.func3, Tryd.ntmps3
    go_wp2_with fail
    refine (HC1.out w HL.out).mono ?_
    rintro e w1 ⟨rfl, hb1⟩
    have HB1 : Hid (Below w.heap.size w w1) := (bw_below w s).trans (hb1.mono (by rw [Lib.bytesWorld_size]; omega))
    have zs1 := Lib.bytesWorld_size w1 5 s
    clear hb1
    go_wp2_with fail
    refine (HE.out w1 (HL.out.below HB1.out)).mono ?_
    rintro e w2 ⟨rfl, hb2⟩
    have HB2 : Hid (Below w.heap.size w w2) := HB1.out.trans ((((bw_below w1 s).trans ((bw_below _ d).mono (by rw [zs1]; omega))).trans (hb2.mono (by rw [Lib.bytesWorld_size, zs1]; omega))).mono HB1.out.size)
    clear hb2 HC1 HE
    go_wp2_with fail
    go_ret
    exact ⟨rfl, HB2.out⟩
  · have hk' : (k != 0) = true := by simpa using hk
    clear hk hO
    go_enter Tryd.func3, Tryd.ntmps3
    go_wp2_with fail
    refine (HC1.out w HL.out).mono ?_
    rintro e w1 ⟨rfl, hb1⟩
    have HB1 : Hid (Below w.heap.size w w1) := (bw_below w s).trans (hb1.mono (by rw [Lib.bytesWorld_size]; omega))
    clear hb1 HC1
    have hR1 := fun W hW => plCheck_any ret1 0 0 W.heap.size 0 8 (W.alloc (.cells #[.int .u8 0, .int .u8 0, .int .u8 0, .int .u8 0, .int .u8 0, .int .u8 0, .int .u8 0, .int .u8 1] 5)) (Laid.alloc hW _) (by decide) (by decide) (by simp) (ret1_row W) (.inr (.inr (.inr ⟨1, ret1_fine, rfl, rfl⟩)))
    rw [show ret1.size = 8 from rfl] at hR1
    have HR1 : Hid (∀ W, Laid W → Calls _ _ _ _ _) := hR1
    clear hR1
    go_wp2_with fail
    refine (HR1.out w1 (HL.out.below HB1.out)).mono ?_
    rintro e w2 ⟨rfl, hb2⟩
    have HB2 : Hid (Below w.heap.size w w2) := HB1.out.trans ((((Below.refl _ _).alloc (Nat.le_refl _) _).trans (hb2.mono (by simp))).mono HB1.out.size)
    clear hb2 HR1
    go_wp2_with fail
    go_ret
    exact ⟨rfl, HB2.out⟩
end Go.Proofs.YtclpnafiiobfhabDoor

import Derived.Test.YtclpnafiiobfhaaGreatDoorDRead
import Derived.Test.YtclpnafiiobfhaaGreatDoorDSpoil
import Derived.Test.YtclpnafiiobfhaaGreatDoorPlCompile
import Derived.Test.YtclpnafiiobfhaaGreatDoorRUses
import Derived.Lib.ConvBytes
import Derived.Lib.SlBytesRow
import Derived.Deep.QuietTactic
import Derived.BigQuiet
namespace Go.Proofs.YtclpnafiiobfhaaGreatDoor
open Go.RowKit
set_option linter.unusedVariables false
set_option linter.unusedSimpArgs false

set_option maxRecDepth 20000 in
set_option maxHeartbeats 3200000 in
theorem dcomp_bad (s : ByteArray) (w : World) (hm : MaxL w) (hL : Laid w) (hs : s.size ≤ maxLen) (hk : (readT s).1 ≠ 0) :
    Calls Tryz.prog 11 #[.string s] w fun e w' => e = .returned (.tuple #[.slice none 0 0, .bool true]) ∧ Below w.heap.size w w' := by
  have HC : Hid (Calls _ _ _ w _) := plCompile_any s w hm hL hs
  have HR : Hid (∀ W : World, Calls Tryz.prog 9 #[.string s] W (ReadOut s W)) := fun W => dread_any s W hs
  unfold ReadOut at HR
  obtain ⟨k, n, b, hkn⟩ : ∃ k n b, readT s = (k, n, b) := ⟨_, _, _, rfl⟩
  rw [hkn] at HC HR hk
  dsimp only at HC HR hk
  have hkb : ((k : Int) != 0) = true := by simp; omega
  have hsn : ∀ W, (binOp .eql 32 (.slice none 0 0) (.slice none 0 0)).run Tryz.prog W = .ok (.bool true) W := fun W => by kernel_rfl
  clear hkn hm hL hs
  go_enter Tryz.func11, Tryz.ntmps11
  go_wp2_with (first | (go_at_call 27; refine HC.out.mono ?_; rintro e w1 ⟨h1, h2, hb1⟩; obtain rfl := h1 hk; have HB1 : Hid (Below w.heap.size w w1) := hb1; clear h1 h2 hb1) | (go_at_call 9; refine (HR.out _).mono ?_; rintro e w2 ⟨pol, rp, rl, rc, B, rfl, _, _, hb2⟩; have HB2 : Hid (Below w1.heap.size w1 w2) := hb2; clear hb2))
  refine bodyPost_ret (v := .tuple #[.slice none 0 0, .bool true]) (by simp [results, Tryz.results11, go_sem]) rfl ⟨rfl, ?_⟩
  have h0 : Below w.heap.size w w2 := HB1.out.trans (HB2.out.mono HB1.out.size)
  repeat (first | with_reducible exact h0 | with_reducible refine Below.alloc ?_ (by first | omega | exact h0.size) _)
theorem d_row {w w' : World} {g B : Nat} {d : ByteArray} (h : Row w g 0 d) (hb : Below B w w') (hg : g < B) : Row w' g 0 d := fun i hi => (hb.cell (p := ⟨g, 0 + i, none⟩) hg).trans (h i hi)
theorem row_conv {W : World} {g : Nat} {d : ByteArray} (h : Row W g 0 d) (c : Nat) : (convert 32 9 (.slice (some ⟨g, 0, none⟩) d.size c)).run Tryz.prog W = .ok (.string d) W :=
  Lib.run_convert_whole (P := Tryz.prog) W 32 5 9 Tryz.underlying32 Tryz.underlying5 Tryz.underlying9 g 0 d (fun i hi => by rw [nth_at d i hi]; exact h i hi) c
/-- what compiled leaves of a text that is one -/
structure CompOut (s : ByteArray) (w : World) (g c : Nat) (w' : World) : Prop where
  row : Row w' g 0 (codeT s)
  lo : w.heap.size ≤ g
  hi : g < w'.heap.size
  le : (codeT s).size ≤ c
  cap : c ≤ maxLen
  b : Below w.heap.size w w'
set_option maxRecDepth 20000 in
set_option maxHeartbeats 6400000 in
theorem dcomp_good (s : ByteArray) (w : World) (hm : MaxL w) (hL : Laid w) (hs : s.size ≤ maxLen) (hk : (readT s).1 = 0) :
    Calls Tryz.prog 11 #[.string s] w fun e w' => ∃ g c, e = .returned (.tuple #[.slice (some ⟨g, 0, none⟩) (codeT s).size c, .bool true]) ∧ CompOut s w g c w' := by
  have HC : Hid (∀ W, MaxL W → Laid W → Calls Tryz.prog 27 #[.string s] W fun e w' => ∃ g c, e = .returned (.tuple #[.slice (some ⟨g, 0, none⟩) (codeT s).size c, .int .i64 0, .int .i64 0]) ∧ (∃ l, Raw w' g l ∧ l.length = c) ∧ CompOut s W g c w') := fun W h1 h2 => (plCompile_any s W h1 h2 hs).mono fun e w' ⟨_, h, hb⟩ => by
    obtain ⟨g, c, e, ho⟩ := h hk
    obtain ⟨l, r1, r2, r3, r4, r5, _⟩ := raw_own ho
    exact ⟨g, c, e, ⟨l, r1, r2⟩, own_code ho (book_bd _ (read_good s)) rfl, r5, r1.lt, r3, r4, hb⟩
  have HR : Hid (∀ W : World, Calls Tryz.prog 9 #[.string s] W (ReadOut s W)) := fun W => dread_any s W hs
  have hF := book_fine _ _ (read_good s) (book_code _ (read_good s))
  have HK : Hid (∀ W : World, Calls Tryz.prog 28 #[.string (codeT s)] W fun e w' => e = .returned (.tuple #[.int .i64 0, .int .i64 0]) ∧ Below W.heap.size W w') := fun W => (rcheck_use (codeT s) _ _ 0 W hF.toJumps (Nat.le_refl _) hF.uses (fun q => absurd q (by omega))).mono fun e w' ⟨hb, h, _⟩ => ⟨h rfl, hb⟩
  have hpos : 1 ≤ (codeT s).size := by rw [codeT_size]; have := hF.pos; omega
  unfold ReadOut at HR
  obtain ⟨k, n, b, hkn⟩ : ∃ k n b, readT s = (k, n, b) := ⟨_, _, _, rfl⟩
  rw [hkn] at HR hk
  dsimp only at HR hk
  subst hk
  obtain ⟨d, hd⟩ : ∃ d, codeT s = d := ⟨_, rfl⟩
  have HD : Hid (codeT s = d) := hd
  rw [hd] at HC HK hpos ⊢
  have HM : Hid (MaxL w) := hm
  have HL : Hid (Laid w) := hL
  have hmp := hm.pos
  have hlp := hL.pos
  clear hkn hm hL hs hF hd
  go_enter Tryz.func11, Tryz.ntmps11
  go_wp2_with fail
  refine (HC.out _ HM.out HL.out).mono ?_
  rintro e w1 ⟨g, c, rfl, ⟨l, hraw, hlen⟩, ho⟩
  have R1 : Hid (Raw w1 g l) := hraw
  have N1 : Hid (l.length = c) := hlen
  have O1 : Hid (CompOut s w g c w1) := ho
  have x1 := ho.lo
  have x2 := ho.hi
  have x3 := ho.b.size
  have x4 := ho.cap
  have x5 := ho.le
  rw [HD.out] at x5
  clear hraw hlen ho
  go_wp2_with fail
  refine (HR.out _).mono ?_
  rintro e w2 ⟨pol, rp, rl, rc, B, rfl, _, _, hb2⟩
  have B2 : Hid (Below w1.heap.size w1 w2) := hb2
  clear hb2
  have e0 : ((d.size : Int) == 0) = false := by rw [beq_eq_false_iff_ne]; omega
  go_upto_region 7 with fail
  have B3 : Hid (Below w1.heap.size w1 (w2.alloc (.cells #[.int .i64 (b.pol : Int), .slice rp rl rc] 27))) := B2.out.alloc B2.out.size _
  generalize w2.alloc (.cells #[.int .i64 (b.pol : Int), .slice rp rl rc] 27) = W3 at B3 ⊢
  have x6 := B3.out.size
  have Q3 : Row W3 g 0 d := by rw [← HD.out]; exact d_row O1.out.row B3.out x2
  have hcv := row_conv Q3 c
  clear Q3
  go_wp2_with fail
  refine (HK.out _).mono ?_
  rintro e w4 ⟨rfl, hb4⟩
  have B4 : Hid (Below W3.heap.size W3 w4) := hb4
  have R4 : Hid (Raw w4 g l) := (R1.out.below B3.out x2).below hb4 (by omega)
  have x7 := hb4.size
  clear hb4 hcv
  go_wp2_with fail
  refine (spoil_any l g d.size c _ N1.out x5 x4 R4.out).mono ?_
  rintro e w5 ⟨rfl, ht5, hr5⟩
  have B5 : Hid (Below w.heap.size w w5) := ((O1.out.b.trans (B3.out.mono x3)).trans (B4.out.mono (by omega))).trans (ht5.below x1 (by omega))
  have R5 : Hid (Raw w5 g (List.replicate c (.int .u8 99))) := hr5
  have x8 := ht5.size
  clear ht5 hr5
  go_wp2_with fail
  refine (HC.out _ (HM.out.below B5.out) (HL.out.below B5.out)).mono ?_
  rintro e w6 ⟨g6, c6, rfl, _, ho6⟩
  have O6 : Hid (CompOut s w5 g6 c6 w6) := ho6
  have R6 : Hid (Raw w6 g (List.replicate c (.int .u8 99))) := R5.out.below ho6.b (by omega)
  have hcv6 := fun nn : Nat => row_conv (W := w6.drewN nn) (HD.out ▸ ho6.row : Row w6 g6 0 d) c6
  clear ho6
  go_wp2_with fail
  refine (stay_any g d.size c _ x5 x4 R6.out).mono ?_
  rintro e w7 ⟨rfl, h7⟩
  obtain rfl : w6 = w7 := h7.symm
  clear h7
  have e1 : (d.toList == d.toList) = true := by simp
  go_upto_region 12 with fail
  go_quiet (fail)
  go_wp2_with fail
  refine bodyPost_ret (v := .tuple #[.slice (some ⟨g6, 0, none⟩) d.size c6, .bool true]) (by simp [results, Tryz.results11, go_sem]) rfl ⟨g6, c6, rfl, ?_⟩
  exact ⟨O6.out.row, by have := O6.out.lo; have := B5.out.size; omega, O6.out.hi, O6.out.le, O6.out.cap, dbelow_drewN (B5.out.trans (O6.out.b.mono B5.out.size)) _⟩
end Go.Proofs.YtclpnafiiobfhaaGreatDoor

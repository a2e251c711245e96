import Derived.Test.YtclpnafiiobfhabGreatDoorFrInner
namespace Go.Proofs.YtclpnafiiobfhabGreatDoor
open Go.RowKit
set_option linter.unusedVariables false
set_option linter.unusedSimpArgs false

theorem headSum_N (s : ByteArray) (N b off cap : Nat) (w : World) (hN : s.size = N) (hs : N ≤ maxLen) (hr : Row w b off s) (h : 34 ≤ N) :
    Calls Tryz.prog 94 #[.slice (some ⟨b, off, none⟩) N cap] w fun e w' => e = .returned (.int .u16 (fold (sumTo s 10))) ∧ ∃ n, w' = w.drewN n := by
  subst hN; exact headSum_any s b off cap w hs hr h

theorem tn14 : (14 : Int).toNat = 14 := rfl
theorem tn24 : (24 : Int).toNat = 24 := rfl

/-- the head, but for the sum -/
def headOf (l : List Int) (t a b p : Int) : List Int := set4 (set4 (((set2 ((set2 l 12 2048).set 14 69) 16 t).set 22 64).set 23 p) 26 a) 30 b
/-- the head, with the sum -/
def headed (l : List Int) (t a b p : Int) : List Int := set2 (headOf l t a b p) 24 (65535 - fold (sumTo (ofL (headOf l t a b p)) 10))
theorem headOf_len (l : List Int) (t a b p : Int) : (headOf l t a b p).length = l.length := by simp [headOf, set2_len, set4_len]
theorem headed_len (l : List Int) (t a b p : Int) : (headed l t a b p).length = l.length := by simp [headed, set2_len, headOf_len]
theorem headOf_byt {l : List Int} (h : Byt l) (t a b p : Int) (ht : 0 ≤ t ∧ t ≤ 65535) (ha : 0 ≤ a ∧ a ≤ 4294967295) (hb : 0 ≤ b ∧ b ≤ 4294967295) (hp : 0 ≤ p ∧ p ≤ 255) : Byt (headOf l t a b p) :=
  (((((((h.set2 _ _ (by omega)).set _ _ (by omega)).set2 _ _ ht).set _ _ (by omega)).set _ _ hp).set4 _ _ ha).set4 _ _ hb)
theorem xor16 (y : Nat) (hy : y < 65536) : 65535 ^^^ y = 65535 - y := by
  have h := congrArg BitVec.toNat (BitVec.allOnes_xor (x := BitVec.ofNat 16 y))
  rw [BitVec.toNat_xor, BitVec.toNat_not, BitVec.toNat_allOnes, BitVec.toNat_ofNat, Nat.mod_eq_of_lt (by simpa using hy)] at h
  exact h
theorem not16 (x : Int) (h : 0 ≤ x ∧ x ≤ 65535) : bits .xor .u16 IntKind.u16.max x = 65535 - x := by
  have e : IntKind.u16.max = 65535 := rfl
  rw [e, u16_xor _ _ (by omega) (by omega) (by omega) (by omega)]
  obtain ⟨y, rfl⟩ := Int.eq_ofNat_of_zero_le h.1
  have e2 : (65535 : Int).toNat = 65535 := rfl
  rw [Int.toNat_natCast, e2, xor16 y (by omega)]
  omega

set_option maxHeartbeats 1600000 in
theorem putHead_any (l : List Int) (g N cap : Nat) (a b p sp dp f : Int) (w : World) (hN : l.length = N) (hl : N ≤ 2000) (hB : Byt l) (hb : Buf w g l) (h : 34 ≤ N) (hra : 0 ≤ a ∧ a ≤ 4294967295) (hrb : 0 ≤ b ∧ b ≤ 4294967295) (hrp : 0 ≤ p ∧ p ≤ 255) :
    Calls Tryz.prog 61 #[.slice (some ⟨g, 0, none⟩) N cap, .agg #[.int .u32 a, .int .u32 b, .int .u8 p, .int .u16 sp, .int .u16 dp, .int .u8 f]] w fun e w' => e = .returned (.tuple #[]) ∧ Tch g w w' ∧ Buf w' g (headed l ((N : Int) - 14) a b p) := by
  have hg := hb.lt
  have gn : w.heap.size ≠ g := by omega
  have gn' : g ≠ w.heap.size := by omega
  have HT : Hid (Tch g w (w.alloc (.cells #[.int .u32 a, .int .u32 b, .int .u8 p, .int .u16 sp, .int .u16 dp, .int .u8 f] 28))) := (Tch.refl g w).alloc _
  have HB : Hid (Buf (w.alloc (.cells #[.int .u32 a, .int .u32 b, .int .u8 p, .int .u16 sp, .int .u16 dp, .int .u8 f] 28)) g l) := hb.alloc _
  have HN : Hid (l.length = N) := hN
  have HY : Hid (Byt l) := hB
  clear hb hN hB
  have l14 : (14 : Int) < (N : Int) := by omega
  have l22 : (22 : Int) < (N : Int) := by omega
  have l23 : (23 : Int) < (N : Int) := by omega
  go_enter Tryz.func61, Tryz.ntmps61
  go_wp2_with fail
  refine (putHalf_any l g N cap 12 2048 _ HN.out hl HB.out (by omega) (by omega) (by omega)).mono ?_
  rintro e w1 ⟨rfl, ht1, hb1⟩
  simp only [tn12] at hb1
  have HX1 : Hid (Tch g (w.alloc (.cells #[.int .u32 a, .int .u32 b, .int .u8 p, .int .u16 sp, .int .u16 dp, .int .u8 f] 28)) w1) := ht1
  have HB1 : Hid (Buf w1 g (set2 l 12 2048)) := hb1
  have c14 := hb1.cell 14 (by rw [set2_len, HN.out]; omega)
  have f14 := hb1.frozen 14
  clear ht1 hb1
  go_wp2_with fail
  refine (putHalf_any ((set2 l 12 2048).set 14 69) g N cap 16 ((N : Int) - 14) _ (by simp [set2_len]; exact HN.out) hl (HB1.out.set 14 69) (by omega) (by omega) (by omega)).mono ?_
  rintro e w2 ⟨rfl, ht2, hb2⟩
  simp only [tn16] at hb2
  have HX2 : Hid (Tch g (w.alloc (.cells #[.int .u32 a, .int .u32 b, .int .u8 p, .int .u16 sp, .int .u16 dp, .int .u8 f] 28)) w2) := (HX1.out.set 14 _).trans ht2
  have HB2 : Hid (Buf w2 g (set2 ((set2 l 12 2048).set 14 69) 16 ((N : Int) - 14))) := hb2
  have c22 := hb2.cell 22 (by simp [set2_len, HN.out]; omega)
  have c23 := hb2.cell 23 (by simp [set2_len, HN.out]; omega)
  have f22 := hb2.frozen 22
  have f23 := hb2.frozen 23
  have x0 : w2.cell? ⟨w.heap.size, 0, none⟩ = some (.int .u32 a) := by rw [box_cell HX2.out hg]; rfl
  have x1 : w2.cell? ⟨w.heap.size, 1, none⟩ = some (.int .u32 b) := by rw [box_cell HX2.out hg]; rfl
  have x2 : w2.cell? ⟨w.heap.size, 2, none⟩ = some (.int .u8 p) := by rw [box_cell HX2.out hg]; rfl
  clear ht2 hb2 c14 f14
  go_wp2_with fail
  refine (putWord_any (((set2 ((set2 l 12 2048).set 14 69) 16 ((N : Int) - 14)).set 22 64).set 23 p) g N cap 26 a _ (by simp [set2_len]; exact HN.out) hl ((HB2.out.set 22 64).set 23 p) (by omega) (by omega) hra).mono ?_
  rintro e w3 ⟨rfl, ht3, hb3⟩
  simp only [tn26] at hb3
  have HX3 : Hid (Tch g (w.alloc (.cells #[.int .u32 a, .int .u32 b, .int .u8 p, .int .u16 sp, .int .u16 dp, .int .u8 f] 28)) w3) := ((HX2.out.set 22 _).set 23 _).trans ht3
  have HB3 : Hid (Buf w3 g (set4 (((set2 ((set2 l 12 2048).set 14 69) 16 ((N : Int) - 14)).set 22 64).set 23 p) 26 a)) := hb3
  have y1 : w3.cell? ⟨w.heap.size, 1, none⟩ = some (.int .u32 b) := by rw [box_cell HX3.out hg]; rfl
  clear ht3 hb3 c22 f22 c23 f23 x0 x1 x2
  go_wp2_with fail
  refine (putWord_any _ g N cap 30 b _ (by simp [set2_len, set4_len]; exact HN.out) hl HB3.out (by omega) (by omega) hrb).mono ?_
  rintro e w4 ⟨rfl, ht4, hb4⟩
  simp only [tn30] at hb4
  have HX4 : Hid (Tch g (w.alloc (.cells #[.int .u32 a, .int .u32 b, .int .u8 p, .int .u16 sp, .int .u16 dp, .int .u8 f] 28)) w4) := HX3.out.trans ht4
  have HB4 : Hid (Buf w4 g (headOf l ((N : Int) - 14) a b p)) := hb4
  have HY4 : Hid (Byt (headOf l ((N : Int) - 14) a b p)) := headOf_byt HY.out _ _ _ _ (by omega) hra hrb hrp
  clear ht4 hb4 y1
  go_wp2_with fail
  refine (headSum_N (ofL (headOf l ((N : Int) - 14) a b p)) N g 0 cap _ (by rw [ofL_size, headOf_len]; exact HN.out) (by unfold maxLen; omega) (HB4.out.row HY4.out) h).mono ?_
  rintro e w5 ⟨rfl, n5, rfl⟩
  have bf := fold_bd (ofL (headOf l ((N : Int) - 14) a b p))
  go_wp2_with fail
  rw [not16 _ bf]
  refine (putHalf_any (headOf l ((N : Int) - 14) a b p) g N cap 24 _ _ (by rw [headOf_len]; exact HN.out) hl (HB4.out.drewN _) (by omega) (by omega) (by omega)).mono ?_
  rintro e w6 ⟨rfl, ht6, hb6⟩
  simp only [tn24] at hb6
  go_wp2
  go_end0
  exact ⟨rfl, HT.out.trans ((HX4.out.drewN _).trans ht6), hb6⟩
end Go.Proofs.YtclpnafiiobfhabGreatDoor

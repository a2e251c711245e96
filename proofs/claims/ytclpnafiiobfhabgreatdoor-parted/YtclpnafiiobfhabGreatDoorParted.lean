import Derived.Test.YtclpnafiiobfhabGreatDoorKParts
import Derived.Test.YtclpnafiiobfhabGreatDoorKSay
import Derived.Deep.CutBlock
namespace Go.Proofs.YtclpnafiiobfhabGreatDoor
open Go.RowKit
set_option linter.unusedVariables false
set_option linter.unusedSimpArgs false

/-- Parted's texts, as they are put together -/
theorem seven : dec 7 = [55] := dec_small (by decide)
theorem eight : dec 8 = [56] := dec_small (by decide)
theorem wV0 : wV 0 = [100, 114, 111, 112] := by decide
theorem wV1 : wV 1 = [97, 99, 99, 101, 112, 116] := by decide
theorem strW (lo hi : Nat) : (⟨#[112, 111, 108, 105, 99, 121, 32, 100, 114, 111, 112, 10]⟩ : ByteArray) ++ ⟨#[97, 99, 99, 101, 112, 116, 32, 112, 114, 111, 116, 111, 32, 116, 99, 112, 32, 115, 112, 111, 114, 116, 32]⟩ ++ ba (dec lo) ++ ⟨#[45]⟩ ++ ba (dec hi) = ba (textW lo hi) := by
  show ba [112, 111, 108, 105, 99, 121, 32, 100, 114, 111, 112, 10] ++ ba [97, 99, 99, 101, 112, 116, 32, 112, 114, 111, 116, 111, 32, 116, 99, 112, 32, 115, 112, 111, 114, 116, 32] ++ _ ++ ba [45] ++ _ = _
  simp only [ba_append]
  congr 1
  simp [textW, lnPol, lnTs, glue, wPolicy, wProto, wTcp, wSport, wV0, wV1]
theorem strP (lo mid mi hi : Nat) : (⟨#[112, 111, 108, 105, 99, 121, 32, 100, 114, 111, 112, 10]⟩ : ByteArray) ++ ⟨#[97, 99, 99, 101, 112, 116, 32, 112, 114, 111, 116, 111, 32, 116, 99, 112, 32, 115, 112, 111, 114, 116, 32]⟩ ++ ba (dec lo) ++ ⟨#[45]⟩ ++ ba (dec mid) ++ ⟨#[10, 97, 99, 99, 101, 112, 116, 32, 115, 112, 111, 114, 116, 32]⟩ ++ ba (dec mi) ++ ⟨#[45]⟩ ++ ba (dec hi) ++ ⟨#[32, 112, 114, 111, 116, 111, 32, 116, 99, 112]⟩ = ba (textP lo mid mi hi) := by
  show ba [112, 111, 108, 105, 99, 121, 32, 100, 114, 111, 112, 10] ++ ba [97, 99, 99, 101, 112, 116, 32, 112, 114, 111, 116, 111, 32, 116, 99, 112, 32, 115, 112, 111, 114, 116, 32] ++ _ ++ ba [45] ++ _ ++ ba [10, 97, 99, 99, 101, 112, 116, 32, 115, 112, 111, 114, 116, 32] ++ _ ++ ba [45] ++ _ ++ ba [32, 112, 114, 111, 116, 111, 32, 116, 99, 112] = _
  simp only [ba_append]
  congr 1
  simp [textP, lnPol, lnTs, lnSt, glue, wPolicy, wProto, wTcp, wSport, wV0, wV1]
theorem strN (n : Nat) : (⟨#[112, 111, 108, 105, 99, 121, 32, 100, 114, 111, 112, 10]⟩ : ByteArray) ++ ⟨#[97, 99, 99, 101, 112, 116, 32, 102, 114, 111, 109, 32]⟩ ++ ba (dec n) ++ ⟨#[46, 48, 46, 48, 46, 48, 47, 55]⟩ = ba (textN n) := by
  show ba [112, 111, 108, 105, 99, 121, 32, 100, 114, 111, 112, 10] ++ ba [97, 99, 99, 101, 112, 116, 32, 102, 114, 111, 109, 32] ++ _ ++ ba [46, 48, 46, 48, 46, 48, 47, 55] = _
  simp only [ba_append]
  congr 1
  simp [textN, lnPol, lnFr, glue, netW, wPolicy, wFrom, wV0, wV1, seven]
theorem strH (n m : Nat) : (⟨#[112, 111, 108, 105, 99, 121, 32, 100, 114, 111, 112, 10]⟩ : ByteArray) ++ ⟨#[97, 99, 99, 101, 112, 116, 32, 102, 114, 111, 109, 32]⟩ ++ ba (dec n) ++ ⟨#[46, 48, 46, 48, 46, 48, 47, 56, 10, 97, 99, 99, 101, 112, 116, 32, 102, 114, 111, 109, 32]⟩ ++ ba (dec m) ++ ⟨#[46, 48, 46, 48, 46, 48, 47, 56]⟩ = ba (textH n m) := by
  show ba [112, 111, 108, 105, 99, 121, 32, 100, 114, 111, 112, 10] ++ ba [97, 99, 99, 101, 112, 116, 32, 102, 114, 111, 109, 32] ++ _ ++ ba [46, 48, 46, 48, 46, 48, 47, 56, 10, 97, 99, 99, 101, 112, 116, 32, 102, 114, 111, 109, 32] ++ _ ++ ba [46, 48, 46, 48, 46, 48, 47, 56] = _
  simp only [ba_append]
  congr 1
  simp [textH, lnPol, lnFr, glue, netW, wPolicy, wFrom, wV0, wV1, eight]

theorem even_all : ∀ k : Fin 256, bits BinOp.andNot IntKind.i64 (k.val : Int) 1 = ((k.val / 2 * 2 : Nat) : Int) := of_decide_eq_true (by kernel_rfl)
theorem even_of (a : Int) (h : 0 ≤ a ∧ a ≤ 4294967295) : bits BinOp.andNot IntKind.i64 (a / 16777216) 1 = ((a.toNat / 33554432 * 2 : Nat) : Int) := by
  have hk : a.toNat / 16777216 < 256 := by omega
  have e : a / 16777216 = (((⟨a.toNat / 16777216, hk⟩ : Fin 256).val : Nat) : Int) := by
    show a / 16777216 = ((a.toNat / 16777216 : Nat) : Int)
    omega
  rw [e, even_all]
  show ((a.toNat / 16777216 / 2 * 2 : Nat) : Int) = _
  omega

set_option maxRecDepth 100000 in
set_option maxHeartbeats 6400000 in
theorem parted_any (a b c n : Int) (w : World) (hL : Laid w) (hM : MaxL w) (hc : -9223372036854775808 ≤ c ∧ c ≤ 9223372036854775807) (hn : -9223372036854775808 ≤ n ∧ n ≤ 9223372036854775807) :
    Calls Tryz.prog 5 #[.int .i64 a, .int .i64 b, .int .i64 c, .int .i64 n] w fun e w' => e = .returned (.bool true) ∧ Below w.heap.size w w' := by
  have HL : Hid (Laid w) := hL
  have HM : Hid (MaxL w) := hM
  have HH : Hid (Calls _ _ _ w _) := kheader_tcp a b c w hc
  have h64 := pk_bd (c / 4294967296) 64 (by omega)
  have hR : Ranges (a % 4294967296) (b % 4294967296) 6 (IntKind.u16.wrap c) (IntKind.u16.wrap (c / 65536)) (pk (c / 4294967296) 64) := by
    refine ⟨by omega, by omega, by omega, ?_, ?_, by omega⟩
    · rw [IntKind.wrap_u16]; omega
    · rw [IntKind.wrap_u16]; omega
  obtain ⟨hBy, hF⟩ := tcp_frame _ _ _ _ _ hR
  generalize a % 4294967296 = x0 at HH hR hBy hF
  generalize b % 4294967296 = x1 at HH hR hBy hF
  generalize IntKind.u16.wrap c = x3 at HH hR hBy hF
  generalize IntKind.u16.wrap (c / 65536) = x4 at HH hR hBy hF
  generalize pk (c / 4294967296) 64 = x5 at HH hR hBy hF h64
  have HB : Hid (∀ W, Calls Tryz.prog 10 #[.agg #[.int .u32 x0, .int .u32 x1, .int .u8 6, .int .u16 x3, .int .u16 x4, .int .u8 x5], .slice none 0 0] W fun e w' => ∃ g, e = .returned (.tuple #[.slice (some ⟨g, 0, none⟩) 54 54, .int .i64 0]) ∧ W.heap.size ≤ g ∧ Below W.heap.size W w' ∧ Buf w' g (frameI x0 x1 6 x3 x4 x5 54 [])) := fun W =>
    plBuild_yes x0 x1 6 x3 x4 x5 none 0 [] W hR.a hR.b hR.p hR.sp hR.dp hR.f (by simp) (fun x hx => by cases hx) (.inl rfl) (by simp [mayB]; omega) 54 (by decide)
  have hx0 := hR.a
  have hx3 := hR.sp
  have HF : Hid (TcpFrame _ _ _ _ _) := hF
  have HY : Hid (Byt _) := hBy
  clear hL hM hR hBy hF
  generalize frameI x0 x1 6 x3 x4 x5 54 [] = FL at HB HF HY
  have HPk : Hid (∀ (W : World) (m k : Int), -9223372036854775808 ≤ m ∧ m ≤ 9223372036854775807 → 1 ≤ k ∧ k ≤ 100000 → Calls Tryz.prog 12 #[.int .i64 m, .int .i64 k] W fun e w' => e = .returned (.int .i64 (pk m k)) ∧ w' = W) := fun W m k hm hk => pick_any m k W hm hk
  have p0 := pk_bd n 60000 (by omega)
  have p1 := pk_bd (n / 65536) 2000 (by omega)
  have p2 := pk_bd (n / 4294967296) 2000 (by omega)
  go_enter Tryz.func5, Tryz.ntmps5
  go_upto_region 8 with (first | (go_at_call 9; refine HH.out.mono ?_; rintro e w1 ⟨rfl, hb1⟩; have HB1 : Hid (Below w.heap.size w w1) := hb1; have z1 := hb1.size; clear hb1) | (go_at_call 10; refine (HB.out _).mono ?_; rintro e w2 ⟨g, rfl, hg, hb2, hBf⟩; have HB2 : Hid (Below _ _ w2) := hb2; have HBf : Hid (Buf w2 g _) := hBf; have HG : Hid (_ ≤ g) := hg; have c0 := (hdr_cell hb2 0 _ rfl).1; have c3 := (hdr_cell hb2 3 _ rfl).1; have z2 := (hdr_cell hb2 3 _ rfl).2; clear hb2 hBf hg) | (go_at_call 12; refine (HPk.out _ _ _ (by omega) (by omega)).mono ?_; rintro e w3 ⟨rfl, h3⟩; rw [h3]; clear h3 w3))
  obtain ⟨lo, e0⟩ : ∃ x : Nat, pk n 60000 = (x : Int) := ⟨(pk n 60000).toNat, by omega⟩
  obtain ⟨mid, e1⟩ : ∃ x : Nat, pk n 60000 + pk (n / 65536) 2000 = (x : Int) := ⟨(pk n 60000 + pk (n / 65536) 2000).toNat, by omega⟩
  obtain ⟨hi, e2⟩ : ∃ x : Nat, pk n 60000 + pk (n / 65536) 2000 + 1 + pk (n / 4294967296) 2000 = (x : Int) := ⟨(pk n 60000 + pk (n / 65536) 2000 + 1 + pk (n / 4294967296) 2000).toNat, by omega⟩
  rw [e2, e1, e0]
  have l0 : lo ≤ mid := by omega
  have l1 : mid + 1 ≤ hi := by omega
  have l2 : hi ≤ 65535 := by omega
  have l3 : (lo : Int) ≤ 65535 := by omega
  have l4 : (mid : Int) ≤ 65534 := by omega
  have l5 : (hi : Int) ≤ 65535 := by omega
  have HW0 : Hid (Below w.heap.size w w2) := (HB1.out.alloc z1 _).trans (HB2.out.mono (by simp; omega))
  obtain ⟨D, hD⟩ : ∃ D : Int → ByteArray, D = fun i => ba (dec i.toNat) := ⟨_, rfl⟩
  have HN : Hid (∀ (i : Int) (W' : World), 0 ≤ i ∧ i < 65536 → Below w2.heap.size w2 W' → Calls Tryz.prog 13 #[.int .i64 i] W' fun e w' => e = .returned (.string (D i)) ∧ Below w2.heap.size w2 w') := fun i W' hi hW => by
    obtain ⟨k, rfl⟩ : ∃ k : Nat, i = (k : Int) := ⟨i.toNat, by omega⟩
    rw [hD]
    exact num_hid k (by omega) w2 W' hW
  have hsz : ∀ i : Int, 0 ≤ i → i < 65536 → (D i).size ≤ 5 := fun i h0 h1 => by rw [hD]; exact dec_size _ (by omega)
  have s0 := hsz (lo : Int) (by omega) (by omega)
  have s1 := hsz (hi : Int) (by omega) (by omega)
  have s2 := hsz (mid : Int) (by omega) (by omega)
  have s3 := hsz ((mid : Int) + 1) (by omega) (by omega)
  have HW : Hid ((⟨#[112, 111, 108, 105, 99, 121, 32, 100, 114, 111, 112, 10]⟩ : ByteArray) ++ ⟨#[97, 99, 99, 101, 112, 116, 32, 112, 114, 111, 116, 111, 32, 116, 99, 112, 32, 115, 112, 111, 114, 116, 32]⟩ ++ D (lo : Int) ++ ⟨#[45]⟩ ++ D (hi : Int) = ba (textW lo hi)) := show _ = _ by rw [hD]; exact strW lo hi
  have HP : Hid ((⟨#[112, 111, 108, 105, 99, 121, 32, 100, 114, 111, 112, 10]⟩ : ByteArray) ++ ⟨#[97, 99, 99, 101, 112, 116, 32, 112, 114, 111, 116, 111, 32, 116, 99, 112, 32, 115, 112, 111, 114, 116, 32]⟩ ++ D (lo : Int) ++ ⟨#[45]⟩ ++ D (mid : Int) ++ ⟨#[10, 97, 99, 99, 101, 112, 116, 32, 115, 112, 111, 114, 116, 32]⟩ ++ D ((mid : Int) + 1) ++ ⟨#[45]⟩ ++ D (hi : Int) ++ ⟨#[32, 112, 114, 111, 116, 111, 32, 116, 99, 112]⟩ = ba (textP lo mid (mid + 1) hi)) := show _ = _ by rw [hD]; exact strP lo mid (mid + 1) hi
  have HD : Hid (D = fun i => ba (dec i.toNat)) := hD
  clear HPk HB HH HB1 HB2 HG p0 p1 p2 e0 e1 e2 z1 hD hsz
  have hb0 : Below w2.heap.size w2 w2 := Below.refl _ _
  go_upto_region 11 with (go_at_call 13; refine (HN.out _ _ (by omega) (by assumption)).mono ?_; rintro e w4 ⟨rfl, hb4⟩)
  rw [HW.out, HP.out]
  have HVW : Hid (∀ W' : World, Below w2.heap.size w2 W' → Calls Tryz.prog 11 #[.string (ba (textW lo hi)), .slice (some ⟨g, 0, none⟩) 54 54, .int .i64 0, .int .i64 0] W' fun e w' => e = .returned (.tuple #[.int .u8 ((if (lo : Int) ≤ x3 ∧ x3 ≤ hi then 1 else 0 : Nat) : Int), .bool true]) ∧ Below w2.heap.size w2 w') := fun W' hW => by
    have h := verdict_tcp (ba (textW lo hi)) _ 0 FL g 0 0 w2 W' (HM.out.below HW0.out) (HL.out.below HW0.out) hW (by rw [ba_size]; exact lenW (by omega) l2) (readW (by omega) l2) HBf.out HY.out HF.out (by omega) (by omega)
    rw [verdW HF.out lo hi] at h
    exact h
  have HVP : Hid (∀ W' : World, Below w2.heap.size w2 W' → Calls Tryz.prog 11 #[.string (ba (textP lo mid (mid + 1) hi)), .slice (some ⟨g, 0, none⟩) 54 54, .int .i64 0, .int .i64 0] W' fun e w' => e = .returned (.tuple #[.int .u8 ((if (lo : Int) ≤ x3 ∧ x3 ≤ hi then 1 else 0 : Nat) : Int), .bool true]) ∧ Below w2.heap.size w2 w') := fun W' hW => by
    have h := verdict_tcp (ba (textP lo mid (mid + 1) hi)) _ 0 FL g 0 0 w2 W' (HM.out.below HW0.out) (HL.out.below HW0.out) hW (by rw [ba_size]; exact lenP (by omega) (by omega) (by omega) l2) (readP l0 (by omega) l1 l2) HBf.out HY.out HF.out (by omega) (by omega)
    rw [verdP HF.out lo mid hi _ l0 l1] at h
    exact h
  obtain ⟨V, hV, hk⟩ : ∃ V : Nat, (if (lo : Int) ≤ x3 ∧ x3 ≤ hi then 1 else 0 : Nat) = V ∧ ((V = 1 ∧ (lo : Int) ≤ x3 ∧ x3 ≤ hi) ∨ (V = 0 ∧ x3 < (lo : Int)) ∨ (V = 0 ∧ (lo : Int) ≤ x3 ∧ (hi : Int) < x3)) := by
    by_cases q : (lo : Int) ≤ x3 ∧ x3 ≤ hi
    · exact ⟨1, if_pos q, .inl ⟨rfl, q⟩⟩
    · exact ⟨0, if_neg q, .inr (by omega)⟩
  rw [hV] at HVW HVP
  generalize ba (textW lo hi) = TW at *
  generalize ba (textP lo mid (mid + 1) hi) = TP at *
  have HKV : Hid ((V = 1 ∧ (lo : Int) ≤ x3 ∧ x3 ≤ hi) ∨ (V = 0 ∧ x3 < (lo : Int)) ∨ (V = 0 ∧ (lo : Int) ≤ x3 ∧ (hi : Int) < x3)) := hk
  clear hV hk HW HP s0 s1 s2 s3
  go_upto_region 12 with (go_at_call 11; refine (HVW.out _ (by assumption)).mono ?_; rintro e w5 ⟨rfl, hb5⟩)
  go_upto_region 13 with (go_at_call 11; refine (HVP.out _ (by assumption)).mono ?_; rintro e w6 ⟨rfl, hb6⟩)
  have hlt : w1.heap.size < w2.heap.size := by omega
  have d0 := (hb6.cell (p := ⟨w1.heap.size, 0, none⟩) hlt).trans c0
  have d3 := (hb6.cell (p := ⟨w1.heap.size, 3, none⟩) hlt).trans c3
  have HB6 : Hid (Below w2.heap.size w2 w6) := hb6
  clear HVW HVP
  go_cut [22] from 23 (fun v w' => v = .bool (decide (V = 1)) ∧ w' = w6)
  case first =>
    rcases HKV.out with ⟨rfl, k1, k2⟩ | ⟨rfl, k1⟩ | ⟨rfl, k1, k2⟩
    all_goals
      go_wp2_with fail
      go_meet
      exact ⟨by first | rfl | (simp; omega), rfl⟩
  obtain ⟨rfl, hw6⟩ := hcut
  obtain rfl := hw6
  have hV2 : V = 1 ∨ V = 0 := by
    rcases HKV.out with h | h | h
    · exact .inl h.1
    · exact .inr h.1
    · exact .inr h.1
  rcases hV2 with rfl | rfl
  all_goals
    go_upto_region 17 with fail
    rw [even_of x0 hx0]
    obtain ⟨k, hk⟩ : ∃ k, x0.toNat / 33554432 * 2 = k := ⟨_, rfl⟩
    rw [hk]
    have k1 : (k : Int) ≤ 254 := by omega
    have k2 : k % 2 = 0 := by omega
    have HN7 : Hid ((⟨#[112, 111, 108, 105, 99, 121, 32, 100, 114, 111, 112, 10]⟩ : ByteArray) ++ ⟨#[97, 99, 99, 101, 112, 116, 32, 102, 114, 111, 109, 32]⟩ ++ D (k : Int) ++ ⟨#[46, 48, 46, 48, 46, 48, 47, 55]⟩ = ba (textN k)) := show _ = _ by rw [HD.out]; exact strN k
    have HN8 : Hid ((⟨#[112, 111, 108, 105, 99, 121, 32, 100, 114, 111, 112, 10]⟩ : ByteArray) ++ ⟨#[97, 99, 99, 101, 112, 116, 32, 102, 114, 111, 109, 32]⟩ ++ D (k : Int) ++ ⟨#[46, 48, 46, 48, 46, 48, 47, 56, 10, 97, 99, 99, 101, 112, 116, 32, 102, 114, 111, 109, 32]⟩ ++ D ((k : Int) + 1) ++ ⟨#[46, 48, 46, 48, 46, 48, 47, 56]⟩ = ba (textH k (k + 1))) := show _ = _ by rw [HD.out]; exact strH k (k + 1)
    have s0 : (D (k : Int)).size ≤ 5 := by rw [HD.out]; exact dec_size _ (by omega)
    have s1 : (D ((k : Int) + 1)).size ≤ 5 := by rw [HD.out]; exact dec_size _ (by omega)
    have HVN : Hid (∀ W' : World, Below w2.heap.size w2 W' → Calls Tryz.prog 11 #[.string (ba (textN k)), .slice (some ⟨g, 0, none⟩) 54 54, .int .i64 0, .int .i64 0] W' fun e w' => e = .returned (.tuple #[.int .u8 ((1 : Nat) : Int), .bool true]) ∧ Below w2.heap.size w2 w') := fun W' hW => by
      have h := verdict_tcp (ba (textN k)) _ 0 FL g 0 0 w2 W' (HM.out.below HW0.out) (HL.out.below HW0.out) hW (by rw [ba_size]; exact lenN (by omega)) (readN (by omega) k2) HBf.out HY.out HF.out (by omega) (by omega)
      rw [verdN HF.out hx0 k _ hk.symm] at h
      exact h
    have HVH : Hid (∀ W' : World, Below w2.heap.size w2 W' → Calls Tryz.prog 11 #[.string (ba (textH k (k + 1))), .slice (some ⟨g, 0, none⟩) 54 54, .int .i64 0, .int .i64 0] W' fun e w' => e = .returned (.tuple #[.int .u8 ((1 : Nat) : Int), .bool true]) ∧ Below w2.heap.size w2 w') := fun W' hW => by
      have h := verdict_tcp (ba (textH k (k + 1))) _ 0 FL g 0 0 w2 W' (HM.out.below HW0.out) (HL.out.below HW0.out) hW (by rw [ba_size]; exact lenH (by omega) (by omega)) (readH (by omega) (by omega)) HBf.out HY.out HF.out (by omega) (by omega)
      rw [verdH HF.out hx0 k _ hk.symm] at h
      exact h
    generalize ba (textN k) = TN at *
    generalize ba (textH k (k + 1)) = TH at *
    clear hk
    go_upto_region 19 with (go_at_call 13; refine (HN.out _ _ (by omega) (by assumption)).mono ?_; rintro e w7 ⟨rfl, hb7⟩)
    rw [HN7.out, HN8.out]
    go_upto_region 20 with (go_at_call 11; refine (HVN.out _ (by assumption)).mono ?_; rintro e w8 ⟨rfl, hb8⟩)
    go_wp2_with (go_at_call 11; refine (HVH.out _ (by assumption)).mono ?_; rintro e w9 ⟨rfl, hb9⟩)
    go_ret
    exact ⟨rfl, HW0.out.trans (hb9.mono HW0.out.size)⟩
end Go.Proofs.YtclpnafiiobfhabGreatDoor

import Derived.Test.YtclpnafiiobfhabGreatDoorKRules
import Derived.Test.YtclpnafiiobfhabGreatDoorKSay
import Derived.Deep.CutBlock
import Derived.Deep.RegionHeld3
namespace Go.Proofs.YtclpnafiiobfhabGreatDoor
open Go.RowKit
set_option linter.unusedVariables false
set_option linter.unusedSimpArgs false

theorem vws_ba (x : Nat) : vws.getD x ByteArray.empty = ba (wV x) := (ba_bl _).symm
theorem vws_size (i : Nat) : (vws.getD i ByteArray.empty).size ≤ 6 := by
  rcases i with _ | _ | _ | i
  · decide
  · decide
  · decide
  · simp [vws, List.getD]
/-- First's texts, as they are put together -/
theorem str0 (x u v o : Nat) : (⟨#[112, 111, 108, 105, 99, 121, 32]⟩ : ByteArray) ++ vws.getD x ByteArray.empty ++ ⟨#[10]⟩ ++ vws.getD u ByteArray.empty ++ ⟨#[32, 112, 114, 111, 116, 111, 32, 117, 100, 112, 10]⟩ ++ vws.getD v ByteArray.empty ++ ⟨#[32, 112, 114, 111, 116, 111, 32, 116, 99, 112, 32, 100, 112, 111, 114, 116, 32]⟩ ++ ba (dec o) ++ ⟨#[10]⟩ = ba (text0 x u v o) := by
  rw [vws_ba, vws_ba, vws_ba]
  show ba [112, 111, 108, 105, 99, 121, 32] ++ _ ++ ba [10] ++ _ ++ ba [32, 112, 114, 111, 116, 111, 32, 117, 100, 112, 10] ++ _ ++ ba [32, 112, 114, 111, 116, 111, 32, 116, 99, 112, 32, 100, 112, 111, 114, 116, 32] ++ _ ++ ba [10] = _
  simp only [ba_append]
  congr 1
  simp [text0, lnPol, lnUdp, lnTd, glue, wPolicy, wProto, wUdp, wTcp, wDport]
theorem str1 (x u v o y p z : Nat) : ba (text0 x u v o) ++ vws.getD y ByteArray.empty ++ ⟨#[32, 100, 112, 111, 114, 116, 32]⟩ ++ ba (dec p) ++ ⟨#[32, 112, 114, 111, 116, 111, 32, 116, 99, 112, 10]⟩ ++ vws.getD z ByteArray.empty ++ ⟨#[10]⟩ = ba (text1 x u v o y p z) := by
  rw [vws_ba, vws_ba]
  show ba _ ++ _ ++ ba [32, 100, 112, 111, 114, 116, 32] ++ _ ++ ba [32, 112, 114, 111, 116, 111, 32, 116, 99, 112, 10] ++ _ ++ ba [10] = _
  simp only [ba_append]
  congr 1
  simp [text0, text1, lnPol, lnUdp, lnTd, lnDt, glue, wPolicy, wProto, wUdp, wTcp, wDport]
theorem str2 (x u v o y p z : Nat) : ba (text0 x u v o) ++ vws.getD z ByteArray.empty ++ ⟨#[10]⟩ ++ vws.getD y ByteArray.empty ++ ⟨#[32, 100, 112, 111, 114, 116, 32]⟩ ++ ba (dec p) ++ ⟨#[32, 112, 114, 111, 116, 111, 32, 116, 99, 112, 10]⟩ = ba (text2 x u v o y p z) := by
  rw [vws_ba, vws_ba]
  show ba _ ++ _ ++ ba [10] ++ _ ++ ba [32, 100, 112, 111, 114, 116, 32] ++ _ ++ ba [32, 112, 114, 111, 116, 111, 32, 116, 99, 112, 10] = _
  simp only [ba_append]
  congr 1
  simp [text0, text2, lnPol, lnUdp, lnTd, lnDt, glue, wPolicy, wProto, wUdp, wTcp, wDport]
set_option maxRecDepth 100000 in
set_option maxHeartbeats 6400000 in
theorem first_any (a b c n : Int) (w : World) (hL : Laid w) (hM : MaxL w) (hc : -9223372036854775808 ≤ c ∧ c ≤ 9223372036854775807) (hn : -9223372036854775808 ≤ n ∧ n ≤ 9223372036854775807) :
    Calls Tryz.prog 4 #[.int .i64 a, .int .i64 b, .int .i64 c, .int .i64 n] w fun e w' => e = .returned (.bool true) ∧ Below w.heap.size w w' := by
  have HL : Hid (Laid w) := hL
  have HM : Hid (MaxL w) := hM
  have HH : Hid (Calls _ _ _ w _) := kheader_tcp a b c w hc
  have h64 := pk_bd (c / 4294967296) 64 (by omega)
  have hR : Ranges (a % 4294967296) (b % 4294967296) 6 (IntKind.u16.wrap c) (IntKind.u16.wrap (c / 65536)) (pk (c / 4294967296) 64) := by
    refine ⟨by omega, by omega, by omega, ?_, ?_, by omega⟩
    · rw [IntKind.wrap_u16]; omega
    · rw [IntKind.wrap_u16]; omega
  obtain ⟨hBy, hF⟩ := tcp_frame _ _ _ _ _ hR
  generalize a % 4294967296 = x0 at HH hR hBy hF
  generalize b % 4294967296 = x1 at HH hR hBy hF
  generalize IntKind.u16.wrap c = x3 at HH hR hBy hF
  generalize IntKind.u16.wrap (c / 65536) = x4 at HH hR hBy hF
  generalize pk (c / 4294967296) 64 = x5 at HH hR hBy hF h64
  have HB : Hid (∀ W, Calls Tryz.prog 10 #[.agg #[.int .u32 x0, .int .u32 x1, .int .u8 6, .int .u16 x3, .int .u16 x4, .int .u8 x5], .slice none 0 0] W fun e w' => ∃ g, e = .returned (.tuple #[.slice (some ⟨g, 0, none⟩) 54 54, .int .i64 0]) ∧ W.heap.size ≤ g ∧ Below W.heap.size W w' ∧ Buf w' g (frameI x0 x1 6 x3 x4 x5 54 [])) := fun W =>
    plBuild_yes x0 x1 6 x3 x4 x5 none 0 [] W hR.a hR.b hR.p hR.sp hR.dp hR.f (by simp) (fun x hx => by cases hx) (.inl rfl) (by simp [mayB]; omega) 54 (by decide)
  have hx4 := hR.dp
  have HF : Hid (TcpFrame _ _ _ _ _) := hF
  have HY : Hid (Byt _) := hBy
  clear hL hM hR hBy hF
  generalize frameI x0 x1 6 x3 x4 x5 54 [] = FL at HB HF HY
  have HP : Hid (∀ (W : World) (m : Int), -9223372036854775808 ≤ m ∧ m ≤ 9223372036854775807 → Calls Tryz.prog 12 #[.int .i64 m, .int .i64 3] W fun e w' => e = .returned (.int .i64 (pk m 3)) ∧ w' = W) := fun W m hm => pick_any m 3 W hm (by omega)
  have p0 := pk_bd n 3 (by omega)
  have p1 := pk_bd (n / 16) 3 (by omega)
  have p2 := pk_bd (n / 256) 3 (by omega)
  go_enter Tryz.func4, Tryz.ntmps4
  go_upto_region 11 with (first | (go_at_call 9; refine HH.out.mono ?_; rintro e w1 ⟨rfl, hb1⟩; have HB1 : Hid (Below w.heap.size w w1) := hb1; have z1 := hb1.size; clear hb1) | (go_at_call 10; refine (HB.out _).mono ?_; rintro e w2 ⟨g, rfl, hg, hb2, hBf⟩; have HB2 : Hid (Below _ _ w2) := hb2; have HBf : Hid (Buf w2 g _) := hBf; have HG : Hid (_ ≤ g) := hg; have c4 := (hdr_cell hb2 4 _ rfl).1; have z2 := (hdr_cell hb2 4 _ rfl).2; clear hb2 hBf hg) | (go_at_call 12; refine (HP.out _ _ (by omega)).mono ?_; rintro e w3 ⟨rfl, rfl⟩))
  obtain ⟨x, hx⟩ : ∃ x : Nat, pk n 3 = (x : Int) := ⟨(pk n 3).toNat, by omega⟩
  obtain ⟨y, hy⟩ : ∃ x : Nat, pk (n / 16) 3 = (x : Int) := ⟨(pk (n / 16) 3).toNat, by omega⟩
  obtain ⟨z, hz⟩ : ∃ x : Nat, pk (n / 256) 3 = (x : Int) := ⟨(pk (n / 256) 3).toNat, by omega⟩
  obtain ⟨p, rfl⟩ : ∃ x : Nat, x4 = (x : Int) := ⟨x4.toNat, by omega⟩
  obtain ⟨o, ho⟩ : ∃ x : Nat, ((p : Int) + 1) % 65536 = (x : Int) := ⟨(((p : Int) + 1) % 65536).toNat, by omega⟩
  obtain ⟨u, hu⟩ : ∃ u : Nat, ((x : Int) + 1).tmod 3 = (u : Int) := ⟨(((x : Int) + 1) % 3).toNat, by rw [Int.tmod_eq_emod_of_nonneg (by omega)]; omega⟩
  obtain ⟨v, hv⟩ : ∃ u : Nat, ((y : Int) + 1).tmod 3 = (u : Int) := ⟨(((y : Int) + 1) % 3).toNat, by rw [Int.tmod_eq_emod_of_nonneg (by omega)]; omega⟩
  rw [hx, hy, hz, ho]
  rw [hx] at p0
  rw [hy] at p1
  rw [hz] at p2
  have hu3 : (u : Int) < 3 := by rw [← hu, Int.tmod_eq_emod_of_nonneg (by omega)]; omega
  have hv3 : (v : Int) < 3 := by rw [← hv, Int.tmod_eq_emod_of_nonneg (by omega)]; omega
  have hS : Small x u v o y p z := ⟨by omega, by omega, by omega, by omega, by omega, by omega, by omega⟩
  have hpo : ¬ (p : Int) = (o : Int) := by omega
  have HS : Hid (Small x u v o y p z) := hS
  have hcell : ∀ i, i < 3 → (w2.alloc (Obj.cells #[.string ⟨#[100, 114, 111, 112]⟩, .string ⟨#[97, 99, 99, 101, 112, 116]⟩, .string ⟨#[114, 101, 106, 101, 99, 116]⟩] 9)).cell? ⟨w2.heap.size, i, none⟩ = some (.string (vws.getD i ByteArray.empty)) := fun i hi => by
    rw [World.cell?_alloc_at _ _ _ _ rfl]
    have h3 : i = 0 ∨ i = 1 ∨ i = 2 := by omega
    rcases h3 with rfl | rfl | rfl <;> rfl
  have cx := hcell x hS.x
  have cy := hcell y hS.y
  have cz := hcell z hS.z
  have cu := hcell u hS.x1
  have cv := hcell v hS.y1
  have hb2 := HB2.out
  have hzz : (w1.alloc (.cells #[.int .u32 x0, .int .u32 x1, .int .u8 6, .int .u16 x3, .int .u16 (p : Int), .int .u8 x5] 28)).heap.size = w1.heap.size + 1 := by simp
  have hW0 : Below w.heap.size w (w2.alloc (Obj.cells #[.string ⟨#[100, 114, 111, 112]⟩, .string ⟨#[97, 99, 99, 101, 112, 116]⟩, .string ⟨#[114, 101, 106, 101, 99, 116]⟩] 9)) := by
    refine Below.alloc ?_ (by omega) _
    refine (HB1.out.alloc z1 _).trans (hb2.mono ?_)
    rw [hzz]; omega
  have hBW := HBf.out.alloc (Obj.cells #[.string ⟨#[100, 114, 111, 112]⟩, .string ⟨#[97, 99, 99, 101, 112, 116]⟩, .string ⟨#[114, 101, 106, 101, 99, 116]⟩] 9)
  have hWz : w2.heap.size < (w2.alloc (Obj.cells #[.string ⟨#[100, 114, 111, 112]⟩, .string ⟨#[97, 99, 99, 101, 112, 116]⟩, .string ⟨#[114, 101, 106, 101, 99, 116]⟩] 9)).heap.size := by simp
  generalize w2.alloc (Obj.cells #[.string ⟨#[100, 114, 111, 112]⟩, .string ⟨#[97, 99, 99, 101, 112, 116]⟩, .string ⟨#[114, 101, 106, 101, 99, 116]⟩] 9) = W at cx cy cz cu cv hWz hW0 hBW ⊢
  have HW0 : Hid (Below w.heap.size w W) := hW0
  have HN : Hid (∀ W' : World, Below W.heap.size W W' → Calls Tryz.prog 13 #[.int .i64 (o : Int)] W' fun e w' => e = .returned (.string (ba (dec o))) ∧ Below W.heap.size W w') := num_hid o (by omega) W
  have HNp : Hid (∀ W' : World, Below W.heap.size W W' → Calls Tryz.prog 13 #[.int .i64 (p : Int)] W' fun e w' => e = .returned (.string (ba (dec p))) ∧ Below W.heap.size W w') := num_hid p (by omega) W
  have HV0 : Hid (∀ W' : World, Below W.heap.size W W' → Calls Tryz.prog 11 #[.string (ba (text0 x u v o)), .slice (some ⟨g, 0, none⟩) 54 54, .int .i64 1, .int .i64 0] W' fun e w' => e = .returned (.tuple #[.int .u8 (x : Int), .bool true]) ∧ Below W.heap.size W w') := fun W' hW => by
    have h := verdict_tcp (ba (text0 x u v o)) _ 0 FL g 1 0 W W' (HM.out.below HW0.out) (HL.out.below HW0.out) hW (by rw [ba_size]; have := (text_len hS).1; omega) (read0 hS) hBW HY.out HF.out (by omega) (by omega)
    rw [verd0 HF.out x u v o _ hpo] at h
    exact h
  have HV1 : Hid (∀ W' : World, Below W.heap.size W W' → Calls Tryz.prog 11 #[.string (ba (text1 x u v o y p z)), .slice (some ⟨g, 0, none⟩) 54 54, .int .i64 1, .int .i64 0] W' fun e w' => e = .returned (.tuple #[.int .u8 (y : Int), .bool true]) ∧ Below W.heap.size W w') := fun W' hW => by
    have h := verdict_tcp (ba (text1 x u v o y p z)) _ 0 FL g 1 0 W W' (HM.out.below HW0.out) (HL.out.below HW0.out) hW (by rw [ba_size]; have := (text_len hS).2.1; omega) (read1 hS) hBW HY.out HF.out (by omega) (by omega)
    rw [verd1 HF.out x u v o y p z _ hpo rfl] at h
    exact h
  have HV2 : Hid (∀ W' : World, Below W.heap.size W W' → Calls Tryz.prog 11 #[.string (ba (text2 x u v o y p z)), .slice (some ⟨g, 0, none⟩) 54 54, .int .i64 1, .int .i64 0] W' fun e w' => e = .returned (.tuple #[.int .u8 (z : Int), .bool true]) ∧ Below W.heap.size W w') := fun W' hW => by
    have h := verdict_tcp (ba (text2 x u v o y p z)) _ 0 FL g 1 0 W W' (HM.out.below HW0.out) (HL.out.below HW0.out) hW (by rw [ba_size]; have := (text_len hS).2.2; omega) (read2 hS) hBW HY.out HF.out (by omega) (by omega)
    rw [verd2 HF.out x u v o y p z _ hpo] at h
    exact h
  have t0 : (ba (text0 x u v o)).size ≤ 1000 := by rw [ba_size]; exact (text_len hS).1
  have so := dec_size o (by omega)
  have sp := dec_size p (by omega)
  have H0 : Hid (_ = ba (text0 x u v o)) := str0 x u v o
  have H1 : Hid (_ = ba (text1 x u v o y p z)) := str1 x u v o y p z
  have H2 : Hid (_ = ba (text2 x u v o y p z)) := str2 x u v o y p z
  have sx := vws_size x
  have sy := vws_size y
  have sz := vws_size z
  have su := vws_size u
  have sv := vws_size v
  generalize vws.getD x ByteArray.empty = Sx at *
  generalize vws.getD y ByteArray.empty = Sy at *
  generalize vws.getD z ByteArray.empty = Sz at *
  generalize vws.getD u ByteArray.empty = Su at *
  generalize vws.getD v ByteArray.empty = Sv at *
  generalize ba (dec o) = So at *
  generalize ba (dec p) = Sp at *
  generalize ba (text0 x u v o) = T0 at *
  generalize ba (text1 x u v o y p z) = T1 at *
  generalize ba (text2 x u v o y p z) = T2 at *
  have q0 : (x : Int) < 3 := p0.2
  have q1 : (y : Int) < 3 := p1.2
  have q2 : (z : Int) < 3 := p2.2
  have hxe := hu
  have gu0 : (0 : Int) ≤ ((x : Int) + 1).tmod 3 := by rw [hu]; omega
  have gu1 : ((x : Int) + 1).tmod 3 < (3 : Int) := by rw [hu]; omega
  have gv0 : (0 : Int) ≤ ((y : Int) + 1).tmod 3 := by rw [hv]; omega
  have gv1 : ((y : Int) + 1).tmod 3 < (3 : Int) := by rw [hv]; omega
  have tu : u = (((x : Int) + 1).tmod 3).toNat := by rw [hu]; rfl
  have tv : v = (((y : Int) + 1).tmod 3).toNat := by rw [hv]; rfl
  rw [tu] at cu
  rw [tv] at cv
  have wu : IntKind.i64.wrap ((x : Int) + 1) = (x : Int) + 1 := by rw [IntKind.wrap_i64]; omega
  have wv : IntKind.i64.wrap ((y : Int) + 1) = (y : Int) + 1 := by rw [IntKind.wrap_i64]; omega
  generalize hB0 : w2.heap.size = B0 at *
  clear hcell HP HB HH HB1 HB2 HBf HG hx hy hz c4 z1 z2 hb2 hzz hW0 hBW hS hxe tu tv hu hv hu3 hv3 hB0 p0 p1 p2 ho hx4 h64 hpo HS
  go_cut [18] from 19 (fun s w' => s = .string T0 ∧ Below W.heap.size W w')
  case first =>
    have HBc : Hid (Below W.heap.size W W) := Below.refl _ _
    have f0 : ((9223372036854775807 : Nat) < 7 + Sx.size) = False := by rw [eq_iff_iff, iff_false]; omega
    have f1 : ((9223372036854775807 : Nat) < 7 + Sx.size + 1) = False := by rw [eq_iff_iff, iff_false]; omega
    have f2 : ((9223372036854775807 : Nat) < 7 + Sx.size + 1 + Su.size) = False := by rw [eq_iff_iff, iff_false]; omega
    have f3 : ((9223372036854775807 : Nat) < 7 + Sx.size + 1 + Su.size + 11) = False := by rw [eq_iff_iff, iff_false]; omega
    have f4 : ((9223372036854775807 : Nat) < 7 + Sx.size + 1 + Su.size + 11 + Sv.size) = False := by rw [eq_iff_iff, iff_false]; omega
    have f5 : ((9223372036854775807 : Nat) < 7 + Sx.size + 1 + Su.size + 11 + Sv.size + 17) = False := by rw [eq_iff_iff, iff_false]; omega
    have f6 : ((9223372036854775807 : Nat) < 7 + Sx.size + 1 + Su.size + 11 + Sv.size + 17 + So.size) = False := by rw [eq_iff_iff, iff_false]; omega
    have f7 : ((9223372036854775807 : Nat) < 7 + Sx.size + 1 + Su.size + 11 + Sv.size + 17 + So.size + 1) = False := by rw [eq_iff_iff, iff_false]; omega
    go_region_held3 (fun w' => w'.cell? ⟨B0, x, none⟩ = some (.string Sx) ∧ w'.cell? ⟨B0, (((x : Int) + 1).tmod 3).toNat, none⟩ = some (.string Su) ∧ w'.cell? ⟨B0, (((y : Int) + 1).tmod 3).toNat, none⟩ = some (.string Sv)) (go_keep) (first | (go_at_call 13; refine (HN.out _ (by repeat (first | with_reducible exact Below.refl _ _ | with_reducible exact HBc.out | with_reducible refine Below.drew ?_))).mono ?_; rintro e w4 ⟨rfl, hb4⟩; have k1 := (hb4.cell (p := ⟨B0, x, none⟩) hWz).trans cx; have k2 := (hb4.cell (p := ⟨B0, (((x : Int) + 1).tmod 3).toNat, none⟩) hWz).trans cu; have k3 := (hb4.cell (p := ⟨B0, (((y : Int) + 1).tmod 3).toNat, none⟩) hWz).trans cv))
    all_goals
      go_wp2_with fail
      go_meet
      refine ⟨congrArg Value.string H0.out, ?_⟩
      repeat (first | with_reducible exact hb4 | with_reducible refine Below.drew ?_)
  obtain ⟨rfl, hb1⟩ := hcut
  have HB1 : Hid (Below W.heap.size W wc) := hb1
  clear hb1 H0 HN cx cu cv gu0 gu1 gv0 gv1 wu wv
  go_upto_region 13 with (go_at_call 11; refine (HV0.out _ HB1.out).mono ?_; rintro e w5 ⟨rfl, hb5⟩; have HBc : Hid (Below W.heap.size W w5) := hb5; have cy5 := (hb5.cell (p := ⟨B0, y, none⟩) hWz).trans cy; have cz5 := (hb5.cell (p := ⟨B0, z, none⟩) hWz).trans cz; clear hb5)
  go_cut [21] from 22 (fun s w' => s = .string T1 ∧ Below W.heap.size W w')
  case first =>
    have f0 : ((9223372036854775807 : Nat) < T0.size + Sy.size) = False := by rw [eq_iff_iff, iff_false]; omega
    have f1 : ((9223372036854775807 : Nat) < T0.size + Sy.size + 7) = False := by rw [eq_iff_iff, iff_false]; omega
    have f2 : ((9223372036854775807 : Nat) < T0.size + Sy.size + 7 + Sp.size) = False := by rw [eq_iff_iff, iff_false]; omega
    have f3 : ((9223372036854775807 : Nat) < T0.size + Sy.size + 7 + Sp.size + 11) = False := by rw [eq_iff_iff, iff_false]; omega
    have f4 : ((9223372036854775807 : Nat) < T0.size + Sy.size + 7 + Sp.size + 11 + Sz.size) = False := by rw [eq_iff_iff, iff_false]; omega
    have f5 : ((9223372036854775807 : Nat) < T0.size + Sy.size + 7 + Sp.size + 11 + Sz.size + 1) = False := by rw [eq_iff_iff, iff_false]; omega
    go_region_held3 (fun w' => w'.cell? ⟨B0, y, none⟩ = some (.string Sy) ∧ w'.cell? ⟨B0, z, none⟩ = some (.string Sz)) (go_keep) (first | (go_at_call 13; refine (HNp.out _ (by repeat (first | with_reducible exact HBc.out | with_reducible refine Below.drew ?_))).mono ?_; rintro e w4 ⟨rfl, hb4⟩; have k1 := (hb4.cell (p := ⟨B0, y, none⟩) hWz).trans cy; have k2 := (hb4.cell (p := ⟨B0, z, none⟩) hWz).trans cz))
    all_goals
      go_wp2_with fail
      go_meet
      refine ⟨congrArg Value.string H1.out, ?_⟩
      repeat (first | with_reducible exact hb4 | with_reducible refine Below.drew ?_)
  obtain ⟨rfl, hb6⟩ := hcut
  have HB6 : Hid (Below W.heap.size W wc) := hb6
  clear hb6 H1 HBc cy5 cz5
  go_upto_region 15 with (go_at_call 11; refine (HV1.out _ HB6.out).mono ?_; rintro e w7 ⟨rfl, hb7⟩; have HBc : Hid (Below W.heap.size W w7) := hb7; have cy7 := (hb7.cell (p := ⟨B0, y, none⟩) hWz).trans cy; have cz7 := (hb7.cell (p := ⟨B0, z, none⟩) hWz).trans cz; clear hb7)
  go_cut [24] from 25 (fun s w' => s = .string T2 ∧ Below W.heap.size W w')
  case first =>
    have f0 : ((9223372036854775807 : Nat) < T0.size + Sz.size) = False := by rw [eq_iff_iff, iff_false]; omega
    have f1 : ((9223372036854775807 : Nat) < T0.size + Sz.size + 1) = False := by rw [eq_iff_iff, iff_false]; omega
    have f2 : ((9223372036854775807 : Nat) < T0.size + Sz.size + 1 + Sy.size) = False := by rw [eq_iff_iff, iff_false]; omega
    have f3 : ((9223372036854775807 : Nat) < T0.size + Sz.size + 1 + Sy.size + 7) = False := by rw [eq_iff_iff, iff_false]; omega
    have f4 : ((9223372036854775807 : Nat) < T0.size + Sz.size + 1 + Sy.size + 7 + Sp.size) = False := by rw [eq_iff_iff, iff_false]; omega
    have f5 : ((9223372036854775807 : Nat) < T0.size + Sz.size + 1 + Sy.size + 7 + Sp.size + 11) = False := by rw [eq_iff_iff, iff_false]; omega
    go_region_held3 (fun w' => w'.cell? ⟨B0, y, none⟩ = some (.string Sy) ∧ w'.cell? ⟨B0, z, none⟩ = some (.string Sz)) (go_keep) (first | (go_at_call 13; refine (HNp.out _ (by repeat (first | with_reducible exact HBc.out | with_reducible refine Below.drew ?_))).mono ?_; rintro e w4 ⟨rfl, hb4⟩; have k1 := (hb4.cell (p := ⟨B0, y, none⟩) hWz).trans cy; have k2 := (hb4.cell (p := ⟨B0, z, none⟩) hWz).trans cz))
    all_goals
      go_wp2_with fail
      go_meet
      refine ⟨congrArg Value.string H2.out, ?_⟩
      repeat (first | with_reducible exact hb4 | with_reducible refine Below.drew ?_)
  obtain ⟨rfl, hb8⟩ := hcut
  have HB8 : Hid (Below W.heap.size W wc) := hb8
  clear hb8 H2 HBc cy7 cz7
  go_wp2_with (go_at_call 11; refine (HV2.out _ HB8.out).mono ?_; rintro e w9 ⟨rfl, hb9⟩; have HB9 : Hid (Below w.heap.size w w9) := HW0.out.trans (hb9.mono HW0.out.size); clear hb9)
  go_ret
  exact ⟨rfl, HB9.out⟩
end Go.Proofs.YtclpnafiiobfhabGreatDoor

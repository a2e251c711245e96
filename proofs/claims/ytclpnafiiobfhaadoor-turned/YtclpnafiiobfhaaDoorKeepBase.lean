import Derived.Test.YtclpnafiiobfhaaDoorFrameParse
import Derived.Test.YtclpnafiiobfhaaDoorPlBuild
import Derived.Test.YtclpnafiiobfhaaDoorKHead
import Derived.Lib.ConvBytes
import Derived.KernelRfl
namespace Go.Proofs.YtclpnafiiobfhaaDoor
open Go.RowKit
set_option linter.unusedVariables false
set_option linter.unusedSimpArgs false

set_option maxHeartbeats 1600000 in
theorem kheader_0 (a b c d : Int) (w : World) (hc : -9223372036854775808 ≤ c ∧ c ≤ 9223372036854775807) (hd : -9223372036854775808 ≤ d ∧ d ≤ 9223372036854775807) (hk : pk d 4 = 0) :
    Calls Tryd.prog 15 #[.int .i64 a, .int .i64 b, .int .i64 c, .int .i64 d] w fun e w' => (∃ x0 x1 x2 x3 x4 x5 : Int, e = .returned (.agg #[.int .u32 x0, .int .u32 x1, .int .u8 x2, .int .u16 x3, .int .u16 x4, .int .u8 x5]) ∧ Ranges x0 x1 x2 x3 x4 x5 ∧ Hdr4 x2 x3 x4 x5) ∧ Below w.heap.size w w' := by
  have HK : Hid (pk d 4 = 0) := hk
  have hb := pk_bd (c / 4294967296) 64 (by omega)
  have hcb : -9223372036854775808 ≤ c / 4294967296 ∧ c / 4294967296 ≤ 9223372036854775807 := by omega
  clear hk
  go_enter Tryd.func15, Tryd.ntmps15
  go_wp2_with fail
  refine (pick_any d 4 _ hd (by omega)).mono ?_
  rintro e w1 ⟨rfl, rfl⟩
  rw [HK.out]
  go_wp2_with fail
  refine (pick_any (c / 4294967296) 64 _ hcb (by omega)).mono ?_
  rintro e w1 ⟨rfl, rfl⟩
  go_wp2
  refine bodyPost_ret (v := .agg #[.int .u32 (a % 4294967296), .int .u32 (b % 4294967296), .int .u8 6, .int .u16 (IntKind.u16.wrap c), .int .u16 (IntKind.u16.wrap (c / 65536)), .int .u8 (pk (c / 4294967296) 64)]) (by simp [results, Tryd.results15, go_sem]) rfl ⟨⟨_, _, _, _, _, _, rfl, ⟨by omega, by omega, by omega, by first | omega | (rw [IntKind.wrap_u16]; omega), by first | omega | (rw [IntKind.wrap_u16]; omega), by omega⟩, .inl ⟨rfl, by omega⟩⟩, ?_⟩
  exact ((Below.refl _ _).alloc (Nat.le_refl _) _).alloc (by simp) _
set_option maxHeartbeats 1600000 in
theorem kheader_1 (a b c d : Int) (w : World) (hc : -9223372036854775808 ≤ c ∧ c ≤ 9223372036854775807) (hd : -9223372036854775808 ≤ d ∧ d ≤ 9223372036854775807) (hk : pk d 4 = 1) :
    Calls Tryd.prog 15 #[.int .i64 a, .int .i64 b, .int .i64 c, .int .i64 d] w fun e w' => (∃ x0 x1 x2 x3 x4 x5 : Int, e = .returned (.agg #[.int .u32 x0, .int .u32 x1, .int .u8 x2, .int .u16 x3, .int .u16 x4, .int .u8 x5]) ∧ Ranges x0 x1 x2 x3 x4 x5 ∧ Hdr4 x2 x3 x4 x5) ∧ Below w.heap.size w w' := by
  have HK : Hid (pk d 4 = 1) := hk
  have hb := pk_bd (c / 4294967296) 64 (by omega)
  have hcb : -9223372036854775808 ≤ c / 4294967296 ∧ c / 4294967296 ≤ 9223372036854775807 := by omega
  clear hk
  go_enter Tryd.func15, Tryd.ntmps15
  go_wp2_with fail
  refine (pick_any d 4 _ hd (by omega)).mono ?_
  rintro e w1 ⟨rfl, rfl⟩
  rw [HK.out]
  go_wp2
  refine bodyPost_ret (v := .agg #[.int .u32 (a % 4294967296), .int .u32 (b % 4294967296), .int .u8 17, .int .u16 (IntKind.u16.wrap c), .int .u16 (IntKind.u16.wrap (c / 65536)), .int .u8 0]) (by simp [results, Tryd.results15, go_sem]) rfl ⟨⟨_, _, _, _, _, _, rfl, ⟨by omega, by omega, by omega, by first | omega | (rw [IntKind.wrap_u16]; omega), by first | omega | (rw [IntKind.wrap_u16]; omega), by omega⟩, .inr (.inl ⟨rfl, rfl⟩)⟩, ?_⟩
  exact ((Below.refl _ _).alloc (Nat.le_refl _) _).alloc (by simp) _
set_option maxHeartbeats 1600000 in
theorem kheader_2 (a b c d : Int) (w : World) (hc : -9223372036854775808 ≤ c ∧ c ≤ 9223372036854775807) (hd : -9223372036854775808 ≤ d ∧ d ≤ 9223372036854775807) (hk : pk d 4 = 2) :
    Calls Tryd.prog 15 #[.int .i64 a, .int .i64 b, .int .i64 c, .int .i64 d] w fun e w' => (∃ x0 x1 x2 x3 x4 x5 : Int, e = .returned (.agg #[.int .u32 x0, .int .u32 x1, .int .u8 x2, .int .u16 x3, .int .u16 x4, .int .u8 x5]) ∧ Ranges x0 x1 x2 x3 x4 x5 ∧ Hdr4 x2 x3 x4 x5) ∧ Below w.heap.size w w' := by
  have HK : Hid (pk d 4 = 2) := hk
  have hb := pk_bd (c / 4294967296) 64 (by omega)
  have hcb : -9223372036854775808 ≤ c / 4294967296 ∧ c / 4294967296 ≤ 9223372036854775807 := by omega
  clear hk
  go_enter Tryd.func15, Tryd.ntmps15
  go_wp2_with fail
  refine (pick_any d 4 _ hd (by omega)).mono ?_
  rintro e w1 ⟨rfl, rfl⟩
  rw [HK.out]
  go_wp2
  refine bodyPost_ret (v := .agg #[.int .u32 (a % 4294967296), .int .u32 (b % 4294967296), .int .u8 1, .int .u16 (IntKind.u16.wrap c), .int .u16 (IntKind.u16.wrap c), .int .u8 8]) (by simp [results, Tryd.results15, go_sem]) rfl ⟨⟨_, _, _, _, _, _, rfl, ⟨by omega, by omega, by omega, by first | omega | (rw [IntKind.wrap_u16]; omega), by first | omega | (rw [IntKind.wrap_u16]; omega), by omega⟩, .inr (.inr (.inl ⟨rfl, rfl, rfl⟩))⟩, ?_⟩
  exact ((Below.refl _ _).alloc (Nat.le_refl _) _).alloc (by simp) _
set_option maxHeartbeats 1600000 in
theorem kheader_3 (a b c d : Int) (w : World) (hc : -9223372036854775808 ≤ c ∧ c ≤ 9223372036854775807) (hd : -9223372036854775808 ≤ d ∧ d ≤ 9223372036854775807) (hk : pk d 4 = 3) :
    Calls Tryd.prog 15 #[.int .i64 a, .int .i64 b, .int .i64 c, .int .i64 d] w fun e w' => (∃ x0 x1 x2 x3 x4 x5 : Int, e = .returned (.agg #[.int .u32 x0, .int .u32 x1, .int .u8 x2, .int .u16 x3, .int .u16 x4, .int .u8 x5]) ∧ Ranges x0 x1 x2 x3 x4 x5 ∧ Hdr4 x2 x3 x4 x5) ∧ Below w.heap.size w w' := by
  have HK : Hid (pk d 4 = 3) := hk
  have hb := pk_bd (c / 4294967296) 64 (by omega)
  have hcb : -9223372036854775808 ≤ c / 4294967296 ∧ c / 4294967296 ≤ 9223372036854775807 := by omega
  clear hk
  go_enter Tryd.func15, Tryd.ntmps15
  go_wp2_with fail
  refine (pick_any d 4 _ hd (by omega)).mono ?_
  rintro e w1 ⟨rfl, rfl⟩
  rw [HK.out]
  go_wp2
  refine bodyPost_ret (v := .agg #[.int .u32 (a % 4294967296), .int .u32 (b % 4294967296), .int .u8 89, .int .u16 0, .int .u16 0, .int .u8 0]) (by simp [results, Tryd.results15, go_sem]) rfl ⟨⟨_, _, _, _, _, _, rfl, ⟨by omega, by omega, by omega, by first | omega | (rw [IntKind.wrap_u16]; omega), by first | omega | (rw [IntKind.wrap_u16]; omega), by omega⟩, .inr (.inr (.inr ⟨rfl, rfl, rfl, rfl⟩))⟩, ?_⟩
  exact ((Below.refl _ _).alloc (Nat.le_refl _) _).alloc (by simp) _
theorem kheader_any (a b c d : Int) (w : World) (hc : -9223372036854775808 ≤ c ∧ c ≤ 9223372036854775807) (hd : -9223372036854775808 ≤ d ∧ d ≤ 9223372036854775807) :
    Calls Tryd.prog 15 #[.int .i64 a, .int .i64 b, .int .i64 c, .int .i64 d] w fun e w' => (∃ x0 x1 x2 x3 x4 x5 : Int, e = .returned (.agg #[.int .u32 x0, .int .u32 x1, .int .u8 x2, .int .u16 x3, .int .u16 x4, .int .u8 x5]) ∧ Ranges x0 x1 x2 x3 x4 x5 ∧ Hdr4 x2 x3 x4 x5) ∧ Below w.heap.size w w' := by
  have h := pk_bd d 4 (by omega)
  by_cases h0 : pk d 4 = 0
  · exact kheader_0 a b c d w hc hd h0
  by_cases h1 : pk d 4 = 1
  · exact kheader_1 a b c d w hc hd h1
  by_cases h2 : pk d 4 = 2
  · exact kheader_2 a b c d w hc hd h2
  · exact kheader_3 a b c d w hc hd (by omega)

theorem frameI_form (a b p sp dp f : Int) (K : Nat) (pl r : List Int) (hr : Ranges a b p sp dp f) (hm : pl.length ≤ 1000) (hY : Byt pl) (hK : (K : Int) = 34 + isz p) (t : Int) (ht : t = ((K + pl.length : Nat) : Int) - 14)
    (e : headOf ((innerOf (List.replicate (K + pl.length) 0) p sp dp f pl.length).take K ++ pl) t a b p = hd34 a b p t 0 ++ r) :
    frameI a b p sp dp f K pl = hd34 a b p t (65535 - fold (34048 + p + t + (a / 65536 + a % 65536) + (b / 65536 + b % 65536))) ++ r := by
  have hz := isz_bd p
  have hB : Byt ((innerOf (List.replicate (K + pl.length) 0) p sp dp f pl.length).take K ++ pl) := Byt.append (fun x hx => innerOf_byt (Byt.zeros _) p sp dp f pl.length hr.sp hr.dp hr.f (by omega) x (List.mem_of_mem_take hx)) hY
  have hB2 : Byt (hd34 a b p t 0 ++ r) := by rw [← e]; exact headOf_byt hB _ _ _ _ (by omega) hr.a hr.b hr.p
  unfold frameI headed
  rw [← ht, e, hd_sum a b p t 0 r hB2, Int.add_zero]
  generalize 65535 - fold (34048 + p + t + (a / 65536 + a % 65536) + (b / 65536 + b % 65536)) = v
  rfl

theorem form_tcp (a b sp dp f t : Int) (m : Nat) (pl : List Int) :
    headOf ((((set2 (set2 (List.replicate (54 + m) 0) 34 sp) 36 dp).set 46 80).set 47 f).take 54 ++ pl) t a b 6 = hd34 a b 6 t 0 ++ (inT sp dp f ++ pl) := by
  simp only [List.take_set, take_set2, take_set4, take_zeros]
  kernel_rfl
theorem form_udp (a b sp dp n t : Int) (m : Nat) (pl : List Int) :
    headOf ((set2 (set2 (set2 (List.replicate (42 + m) 0) 34 sp) 36 dp) 38 n).take 42 ++ pl) t a b 17 = hd34 a b 17 t 0 ++ (inU sp dp n ++ pl) := by
  simp only [List.take_set, take_set2, take_set4, take_zeros]
  kernel_rfl
theorem form_icmp (a b sp f t : Int) (m : Nat) (pl : List Int) :
    headOf ((set2 ((List.replicate (42 + m) 0).set 34 f) 38 sp).take 42 ++ pl) t a b 1 = hd34 a b 1 t 0 ++ (inI sp f ++ pl) := by
  simp only [List.take_set, take_set2, take_set4, take_zeros]
  kernel_rfl
theorem form_other (a b t : Int) (m : Nat) (pl : List Int) :
    headOf ((List.replicate (34 + m) 0).take 34 ++ pl) t a b 89 = hd34 a b 89 t 0 ++ pl := by
  simp only [take_zeros]
  kernel_rfl

/-- what is built is taken apart as it was, whatever stands behind -/
theorem frame_parse (a b p sp dp f : Int) (K : Nat) (pl q : List Int) (hr : Ranges a b p sp dp f) (h4 : Hdr4 p sp dp f) (hm : pl.length ≤ 1000) (hY : Byt pl) (hQ : Byt q) (hK : (K : Int) = 34 + isz p) :
    parsedAs (ofL (frameI a b p sp dp f K pl ++ q)) = .tuple #[.agg #[.int .u32 a, .int .u32 b, .int .u8 p, .int .u16 sp, .int .u16 dp, .int .u8 f], .int .u8 0] := by
  have hB : Byt (frameI a b p sp dp f K pl ++ q) := (frameI_byt a b p sp dp f K pl hr.a hr.b hr.p hr.sp hr.dp hr.f hm hY hK).append hQ
  rcases h4 with ⟨rfl, h⟩ | ⟨rfl, rfl⟩ | ⟨rfl, rfl, rfl⟩ | ⟨rfl, rfl, rfl, rfl⟩
  · obtain rfl : K = 54 := by simp [isz] at hK; omega
    have e := frameI_form a b 6 sp dp f 54 pl (inT sp dp f ++ pl) hr hm hY hK (40 + (pl.length : Int)) (by omega) (by rw [show innerOf (List.replicate (54 + pl.length) 0) 6 sp dp f pl.length = (((set2 (set2 (List.replicate (54 + pl.length) 0) 34 sp) 36 dp).set 46 80).set 47 f) from by simp [innerOf]]; exact form_tcp a b sp dp f _ _ pl)
    rw [e] at hB ⊢
    rw [List.append_assoc, List.append_assoc] at hB ⊢
    exact parse_tcp a b _ _ sp dp f (pl ++ q) hB hr.a hr.b hr.sp hr.dp (by have := hr.f; omega) (by omega) rfl (by simp; omega)
  · obtain rfl : K = 42 := by simp [isz] at hK; omega
    have e := frameI_form a b 17 sp dp 0 42 pl (inU sp dp (8 + pl.length) ++ pl) hr hm hY hK (28 + (pl.length : Int)) (by omega) (by rw [show innerOf (List.replicate (42 + pl.length) 0) 17 sp dp 0 pl.length = set2 (set2 (set2 (List.replicate (42 + pl.length) 0) 34 sp) 36 dp) 38 (8 + pl.length) from by simp [innerOf]]; exact form_udp a b sp dp _ _ _ pl)
    rw [e] at hB ⊢
    rw [List.append_assoc, List.append_assoc] at hB ⊢
    exact parse_udp a b _ _ sp dp _ (pl ++ q) hB hr.a hr.b hr.sp hr.dp (by omega) (by omega) (by omega) rfl (by simp; omega)
  · obtain rfl : K = 42 := by simp [isz] at hK; omega
    have e := frameI_form a b 1 sp sp 8 42 pl (inI sp 8 ++ pl) hr hm hY hK (28 + (pl.length : Int)) (by omega) (by rw [show innerOf (List.replicate (42 + pl.length) 0) 1 sp sp 8 pl.length = set2 ((List.replicate (42 + pl.length) 0).set 34 8) 38 sp from by simp [innerOf]]; exact form_icmp a b sp 8 _ _ pl)
    rw [e] at hB ⊢
    rw [List.append_assoc, List.append_assoc] at hB ⊢
    exact parse_icmp a b _ _ sp (pl ++ q) hB hr.a hr.b hr.sp (by omega) rfl (by simp; omega)
  · obtain rfl : K = 34 := by simp [isz] at hK; omega
    have e := frameI_form a b 89 0 0 0 34 pl pl hr hm hY hK (20 + (pl.length : Int)) (by omega) (by rw [show innerOf (List.replicate (34 + pl.length) 0) 89 0 0 0 pl.length = List.replicate (34 + pl.length) 0 from by simp [innerOf]]; exact form_other a b _ _ pl)
    rw [e] at hB ⊢
    rw [List.append_assoc] at hB ⊢
    exact parse_other a b _ _ (pl ++ q) hB hr.a hr.b (by omega) rfl (by simp; omega)
end Go.Proofs.YtclpnafiiobfhaaDoor

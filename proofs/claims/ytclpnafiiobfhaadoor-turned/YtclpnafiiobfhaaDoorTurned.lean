import Derived.Test.YtclpnafiiobfhaaDoorRebuilt
import Derived.Test.YtclpnafiiobfhaaDoorTurnMath
namespace Go.Proofs.YtclpnafiiobfhaaDoor
open Go.RowKit
set_option linter.unusedVariables false
set_option linter.unusedSimpArgs false

/-- a frame without content, told by what it is good for -/
structure Bare (N : Nat) (FL : List Int) : Prop where
  len : FL.length = N
  byt : Byt FL
  low : 34 ≤ N
  high : N ≤ 54
  fine : cls (ofL FL) = 0
  total : FL.getD 16 0 * 256 + FL.getD 17 0 = (FL.length : Int) - 14
theorem total_form (a b p t v : Int) (r : List Int) (h : t = 20 + (r.length : Int)) : (hd34 a b p t v ++ r).getD 16 0 * 256 + (hd34 a b p t v ++ r).getD 17 0 = ((hd34 a b p t v ++ r).length : Int) - 14 := by
  show t / 256 * 256 + t % 256 = _
  simp [hd34]
  omega
theorem bare (a b p sp dp f : Int) (K : Nat) (hr : Ranges a b p sp dp f) (h4 : Hdr4 p sp dp f) (hK : (K : Int) = 34 + isz p) : Bare K (frameI a b p sp dp f K []) where
  len := by rw [frameI_len]; simp
  byt := frameI_byt a b p sp dp f K [] hr.a hr.b hr.p hr.sp hr.dp hr.f (by simp) (fun x hx => by cases hx) hK
  low := by have := isz_bd p; omega
  high := by have := isz_bd p; omega
  fine := by
    have h := frame_parse a b p sp dp f K [] [] hr h4 (by simp) (fun x hx => by cases hx) (fun x hx => by cases hx) hK
    rw [List.append_nil] at h
    unfold parsedAs at h
    simp at h
    exact h.2
  total := by
    rcases h4 with ⟨rfl, h⟩ | ⟨rfl, rfl⟩ | ⟨rfl, rfl, rfl⟩ | ⟨rfl, rfl, rfl, rfl⟩
    · obtain rfl : K = 54 := by simp [isz] at hK; omega
      rw [frameI_form a b 6 sp dp f 54 [] (inT sp dp f ++ []) hr (by simp) (fun x hx => by cases hx) hK 40 (by simp) (by rw [show innerOf (List.replicate (54 + ([] : List Int).length) 0) 6 sp dp f ([] : List Int).length = (((set2 (set2 (List.replicate (54 + 0) 0) 34 sp) 36 dp).set 46 80).set 47 f) from by simp [innerOf]]; exact form_tcp a b sp dp f _ _ [])]
      exact total_form _ _ _ _ _ _ (by simp [inT])
    · obtain rfl : K = 42 := by simp [isz] at hK; omega
      rw [frameI_form a b 17 sp dp 0 42 [] (inU sp dp 8 ++ []) hr (by simp) (fun x hx => by cases hx) hK 28 (by simp) (by rw [show innerOf (List.replicate (42 + ([] : List Int).length) 0) 17 sp dp 0 ([] : List Int).length = set2 (set2 (set2 (List.replicate (42 + 0) 0) 34 sp) 36 dp) 38 8 from by simp [innerOf]]; exact form_udp a b sp dp _ _ _ [])]
      exact total_form _ _ _ _ _ _ (by simp [inU])
    · obtain rfl : K = 42 := by simp [isz] at hK; omega
      rw [frameI_form a b 1 sp sp 8 42 [] (inI sp 8 ++ []) hr (by simp) (fun x hx => by cases hx) hK 28 (by simp) (by rw [show innerOf (List.replicate (42 + ([] : List Int).length) 0) 1 sp sp 8 ([] : List Int).length = set2 ((List.replicate (42 + 0) 0).set 34 8) 38 sp from by simp [innerOf]]; exact form_icmp a b sp 8 _ _ [])]
      exact total_form _ _ _ _ _ _ (by simp [inI])
    · obtain rfl : K = 34 := by simp [isz] at hK; omega
      rw [frameI_form a b 89 0 0 0 34 [] [] hr (by simp) (fun x hx => by cases hx) hK 20 (by simp) (by rw [show innerOf (List.replicate (34 + ([] : List Int).length) 0) 89 0 0 0 ([] : List Int).length = List.replicate (34 + 0) 0 from by simp [innerOf]]; exact form_other a b _ _ [])]
      exact total_form _ _ _ _ _ _ (by simp)

theorem plBuild_nil (a b p sp dp f : Int) (w : World) (hr : Ranges a b p sp dp f) (h4 : Hdr4 p sp dp f) (K : Nat) (hK : (K : Int) = 34 + isz p) :
    Calls Tryd.prog 16 #[.agg #[.int .u32 a, .int .u32 b, .int .u8 p, .int .u16 sp, .int .u16 dp, .int .u8 f], .slice none 0 0] w fun e w' => ∃ g FL, e = .returned (.tuple #[.slice (some ⟨g, 0, none⟩) K K, .int .i64 0]) ∧ w.heap.size ≤ g ∧ Below w.heap.size w w' ∧ Buf w' g FL ∧ Bare K FL := by
  refine (plBuild_yes a b p sp dp f none 0 [] w hr.a hr.b hr.p hr.sp hr.dp hr.f (by simp) (fun x hx => by cases hx) (.inl rfl) h4.may K hK).mono ?_
  rintro e w' ⟨g, he, hg, hb, hB⟩
  exact ⟨g, _, he, hg, hb, hB, bare a b p sp dp f K hr h4 hK⟩

theorem set_same (l : List Int) (k : Nat) (h : k < l.length) : l.set k (l.getD k 0) = l := by
  rw [List.getD_eq_getElem?_getD, List.getElem?_eq_getElem h]
  simp
theorem bad_parse (s : ByteArray) (h : cls s ≠ 0) : ∃ cl : Int, cl ≠ 0 ∧ parsedAs s = .tuple #[.agg #[.int .u32 0, .int .u32 0, .int .u8 0, .int .u16 0, .int .u16 0, .int .u8 0], .int .u8 cl] :=
  ⟨cls s, h, by simp [parsedAs, h, hdr0]⟩

set_option maxRecDepth 100000 in
set_option maxHeartbeats 1600000 in
theorem turned_any (a b c d n : Int) (w : World) (hL : Laid w) (hc : -9223372036854775808 ≤ c ∧ c ≤ 9223372036854775807) (hd : -9223372036854775808 ≤ d ∧ d ≤ 9223372036854775807) (hn : -9223372036854775808 ≤ n ∧ n ≤ 9223372036854775807) :
    Calls Tryd.prog 8 #[.int .i64 a, .int .i64 b, .int .i64 c, .int .i64 d, .int .i64 n] w fun e w' => e = .returned (.bool true) ∧ Below w.heap.size w w' := by
  have HL : Hid (Laid w) := hL
  clear hL
  go_enter Tryd.func8, Tryd.ntmps8
  go_wp2_with fail
  refine (kheader_any a b c d _ hc hd).mono ?_
  rintro e w1 ⟨⟨x0, x1, x2, x3, x4, x5, rfl, hR, h4⟩, hb1⟩
  have hz := isz_bd x2
  obtain ⟨K, hK⟩ : ∃ K : Nat, (K : Int) = 34 + isz x2 := ⟨(34 + isz x2).toNat, by omega⟩
  have HK : Hid ((K : Int) = 34 + isz x2) := hK
  have kl : 34 ≤ (K : Int) := by omega
  have kh : (K : Int) ≤ 54 := by omega
  have HR : Hid (Ranges x0 x1 x2 x3 x4 x5) := hR
  have H4 : Hid (Hdr4 x2 x3 x4 x5) := h4
  have B1 : Hid (Below w.heap.size w w1) := hb1
  have z1 := hb1.size
  clear hb1 hR h4 hK hz
  go_wp2_with fail
  refine (plBuild_nil x0 x1 x2 x3 x4 x5 _ HR.out H4.out K HK.out).mono ?_
  rintro e w2 ⟨g, FL, rfl, hg2, hb2, hB2, hBare⟩
  have F2 : Hid (Buf w2 g FL) := hB2
  have HF : Hid (Bare K FL) := hBare
  have B2 : Hid (Below w.heap.size w w2) := (B1.out.alloc z1 _).trans (hb2.mono (by simp; omega))
  have z2 : w1.heap.size + 1 ≤ w2.heap.size := by have := hb2.size; simpa using this
  have gl2 : g < w2.heap.size := hB2.lt
  have gg : w1.heap.size + 1 ≤ g := by simpa using hg2
  clear hb2 hB2 hBare hg2 HR H4 HK
  go_wp2_with fail
  refine (pick_any n 160 _ hn (by omega)).mono ?_
  rintro e w3 ⟨rfl, hw3⟩
  subst hw3
  have hq := pk_bd n 160 (by omega)
  obtain ⟨i, hi⟩ : ∃ i : Nat, pk n 160 / 8 = (i : Int) := ⟨(pk n 160 / 8).toNat, by omega⟩
  obtain ⟨j, hj⟩ : ∃ j : Nat, pk n 160 % 8 = (j : Int) := ⟨(pk n 160 % 8).toNat, by omega⟩
  have hi20 : i < 20 := by omega
  have hj8 : j < 8 := by omega
  have hx0 := HF.out.byt
  obtain ⟨x, hx⟩ : ∃ x, x = FL.getD (14 + i) 0 := ⟨_, rfl⟩
  have hxb : 0 ≤ x ∧ x ≤ 255 := by
    rw [hx, List.getD_eq_getElem?_getD, List.getElem?_eq_getElem (by rw [HF.out.len]; omega)]
    exact HF.out.byt _ (List.getElem_mem _)
  obtain ⟨m, hm⟩ : ∃ m : Int, m = 2 ^ j := ⟨_, rfl⟩
  obtain ⟨y, hy, hy0, hy1, hy2, hy3⟩ := xor_bits x m j hxb hj8 hm
  have ci : w3.cell? ⟨g, 14 + i, none⟩ = some (.int .u8 x) := by rw [F2.out.cell (14 + i) (by rw [HF.out.len]; omega), hx]
  have fi := F2.out.frozen (14 + i)
  have li : (14 : Int) + (i : Int) < (K : Int) := by omega
  have HXX : Hid (x = FL.getD (14 + i) 0) := hx
  have HM : Hid (m = 2 ^ j) := hm
  have HY2 : Hid (y = x + 2 ^ j ∨ y = x - 2 ^ j) := hy2
  generalize pk n 160 = q at *
  clear hx hm hy2 hx0
  go_upto_region 6 with fail
  go_cut [12] from 37 to 47 (fun v w' => v = .slice (some ⟨g, 0, none⟩) K K ∧ Hid (Buf w' g (FL.set (14 + i) y)) ∧ Hid (Below w.heap.size w w') ∧ g < w'.heap.size)
  case first =>
    go_region
    all_goals
      go_wp2_with fail
      go_meet
      refine ⟨rfl, ?_, ?_, ?_⟩
      · rw [show (2 : Int) ^ j % 256 = m from by rw [HM.out]; have := pow8 j hj8; omega, hy]
        exact F2.out.set (14 + i) y
      · exact (B2.out.setCell (p := ⟨g, 14 + i, none⟩) (by simp; omega) _).drew
      · simpa using gl2
  case rest =>
    obtain ⟨rfl, F3, B3, gl3⟩ := hcut
    obtain ⟨cl, hcl, hpa⟩ := bad_parse (ofL (FL.set (14 + i) y)) (turned_cls FL i j y HF.out.byt (by rw [HF.out.len]; omega) hi20 hj8 ⟨hy0, hy1⟩ (by rw [← HXX.out]; exact HY2.out) HF.out.fine)
    have HPA : Hid (parsedAs (ofL (FL.set (14 + i) y)) = .tuple #[.agg #[.int .u32 0, .int .u32 0, .int .u8 0, .int .u16 0, .int .u16 0, .int .u8 0], .int .u8 cl]) := hpa
    have hcb : (cl == 0) = false := by simpa using hcl
    clear hpa hcl ci fi
    go_wp2_with fail
    refine (parse_N (ofL (FL.set (14 + i) y)) K g 0 _ _ (by rw [ofL_size, List.length_set]; exact HF.out.len) (by unfold maxLen; omega) (F3.out.row (HF.out.byt.set _ _ ⟨hy0, hy1⟩)) gl3).mono ?_
    rintro e w4 ⟨rfl, hb4⟩
    rw [HPA.out]
    have F4 : Hid (Buf w4 g (FL.set (14 + i) y)) := F3.out.below hb4 gl3
    have B4 : Hid (Below w.heap.size w w4) := B3.out.trans (hb4.mono (by have := B3.out.size; omega))
    have z4 : w.heap.size ≤ w4.heap.size := B4.out.size
    have gl4 : g < w4.heap.size := F4.out.lt
    have ci : (w4.alloc (.cells #[.int .u32 0, .int .u32 0, .int .u8 0, .int .u16 0, .int .u16 0, .int .u8 0] 28)).cell? ⟨g, 14 + i, none⟩ = some (.int .u8 y) := by
      rw [(F4.out.alloc _).cell (14 + i) (by rw [List.length_set, HF.out.len]; omega), getD_set _ _ _ _ (by rw [HF.out.len]; omega), if_pos rfl]
    have fi := (F4.out.alloc (.cells #[.int .u32 0, .int .u32 0, .int .u8 0, .int .u16 0, .int .u16 0, .int .u8 0] 28)).frozen (14 + i)
    have HY3 : Hid (bits .xor .u8 y m = x) := hy3
    clear hb4 hy3 hy
    go_upto_region 10 with fail
    go_cut [12] from 60 to 70 (fun v w' => v = .slice (some ⟨g, 0, none⟩) K K ∧ Hid (Buf w' g FL) ∧ Hid (Below w.heap.size w w') ∧ w4.heap.size < w'.heap.size ∧ (w'.cell? ⟨w4.heap.size, 0, none⟩ = some (.int .u32 0) ∧ w'.cell? ⟨w4.heap.size, 1, none⟩ = some (.int .u32 0) ∧ w'.cell? ⟨w4.heap.size, 2, none⟩ = some (.int .u8 0) ∧ w'.cell? ⟨w4.heap.size, 3, none⟩ = some (.int .u16 0) ∧ w'.cell? ⟨w4.heap.size, 4, none⟩ = some (.int .u16 0) ∧ w'.cell? ⟨w4.heap.size, 5, none⟩ = some (.int .u8 0)) ∧ w'.frozen? ⟨w4.heap.size, 0, none⟩ = false ∧ w'.frozen? ⟨w4.heap.size, 1, none⟩ = false ∧ w'.frozen? ⟨w4.heap.size, 2, none⟩ = false ∧ w'.frozen? ⟨w4.heap.size, 3, none⟩ = false ∧ w'.frozen? ⟨w4.heap.size, 4, none⟩ = false ∧ w'.frozen? ⟨w4.heap.size, 5, none⟩ = false)
    case first =>
      go_region
      all_goals
        go_wp2_with fail
        go_meet
        rw [show (2 : Int) ^ j % 256 = m from by rw [HM.out]; have := pow8 j hj8; omega, HY3.out]
        refine ⟨rfl, ?_, ?_, ?_, ⟨(by show (World.alloc _ _).cell? _ = _; rw [World.cell?_alloc_at _ _ _ _ (by simp)]; rfl), (by show (World.alloc _ _).cell? _ = _; rw [World.cell?_alloc_at _ _ _ _ (by simp)]; rfl), (by show (World.alloc _ _).cell? _ = _; rw [World.cell?_alloc_at _ _ _ _ (by simp)]; rfl), (by show (World.alloc _ _).cell? _ = _; rw [World.cell?_alloc_at _ _ _ _ (by simp)]; rfl), (by show (World.alloc _ _).cell? _ = _; rw [World.cell?_alloc_at _ _ _ _ (by simp)]; rfl), (by show (World.alloc _ _).cell? _ = _; rw [World.cell?_alloc_at _ _ _ _ (by simp)]; rfl)⟩, (by show (World.alloc _ _).frozen? _ = _; exact World.frozen?_alloc_at _ _ _ _ (by simp)), (by show (World.alloc _ _).frozen? _ = _; exact World.frozen?_alloc_at _ _ _ _ (by simp)), (by show (World.alloc _ _).frozen? _ = _; exact World.frozen?_alloc_at _ _ _ _ (by simp)), (by show (World.alloc _ _).frozen? _ = _; exact World.frozen?_alloc_at _ _ _ _ (by simp)), (by show (World.alloc _ _).frozen? _ = _; exact World.frozen?_alloc_at _ _ _ _ (by simp)), (by show (World.alloc _ _).frozen? _ = _; exact World.frozen?_alloc_at _ _ _ _ (by simp))⟩
        · refine (((F4.out.set (14 + i) x).alloc _).drew).congr ?_
          rw [List.set_set, HXX.out]
          exact set_same FL (14 + i) (by rw [HF.out.len]; omega)
        · exact (((B4.out.setCell (p := ⟨g, 14 + i, none⟩) (by simp; omega) _).alloc (by simpa using z4) _)).drew
        · simp
    case rest =>
      obtain ⟨rfl, F5, B5, z5, ⟨u0, u1, u2, u3, u4, u5⟩, r0, r1, r2, r3, r4, r5⟩ := hcut
      have gl5 : g < wc.heap.size := F5.out.lt
      clear ci fi
      go_wp2_with fail
      refine (pick_any n (K : Int) _ hn (by omega)).mono ?_
      rintro e w6 ⟨rfl, hw6⟩
      subst hw6
      have hrb := pk_bd n (K : Int) (by omega)
      obtain ⟨r, hr⟩ : ∃ r : Nat, pk n (K : Int) = (r : Int) := ⟨(pk n (K : Int)).toNat, by omega⟩
      rw [hr] at hrb ⊢
      have hrK : r < K := by omega
      clear hr
      obtain ⟨cm, hcm, hpb⟩ := bad_parse (ofL (FL.take r)) (cut_cls FL r HF.out.byt (by rw [HF.out.len]; exact hrK) HF.out.total)
      have HPB : Hid (parsedAs (ofL (FL.take r)) = .tuple #[.agg #[.int .u32 0, .int .u32 0, .int .u8 0, .int .u16 0, .int .u16 0, .int .u8 0], .int .u8 cm]) := hpb
      have hmb : (cm != 0) = true := by simpa using hcm
      have HRow : Hid (Row w6 g 0 (ofL (FL.take r))) := fun i hi => by
        rw [ofL_size, List.length_take] at hi
        rw [Nat.zero_add, F5.out.cell i (by omega), ofL_nth _ (fun x hx => HF.out.byt x (List.mem_of_mem_take hx))]
        simp only [List.getD_eq_getElem?_getD]
        rw [List.getElem?_take_of_lt (by omega)]
      clear hpb hcm
      go_wp2_with fail
      refine (parse_N (ofL (FL.take r)) r g 0 _ _ (by rw [ofL_size, List.length_take, HF.out.len]; omega) (by unfold maxLen; omega) HRow.out gl5).mono ?_
      rintro e w7 ⟨rfl, hb7⟩
      rw [HPB.out]
      have B7 : Hid (Below w.heap.size w w7) := B5.out.trans (hb7.mono (by have := B5.out.size; omega))
      have z7 := hb7.size
      have c0 : w7.cell? ⟨w4.heap.size, 0, none⟩ = some (.int .u32 0) := by rw [hb7.cell (p := ⟨w4.heap.size, 0, none⟩) z5]; exact u0
      have c1 : w7.cell? ⟨w4.heap.size, 1, none⟩ = some (.int .u32 0) := by rw [hb7.cell (p := ⟨w4.heap.size, 1, none⟩) z5]; exact u1
      have c2 : w7.cell? ⟨w4.heap.size, 2, none⟩ = some (.int .u8 0) := by rw [hb7.cell (p := ⟨w4.heap.size, 2, none⟩) z5]; exact u2
      have c3 : w7.cell? ⟨w4.heap.size, 3, none⟩ = some (.int .u16 0) := by rw [hb7.cell (p := ⟨w4.heap.size, 3, none⟩) z5]; exact u3
      have c4 : w7.cell? ⟨w4.heap.size, 4, none⟩ = some (.int .u16 0) := by rw [hb7.cell (p := ⟨w4.heap.size, 4, none⟩) z5]; exact u4
      have c5 : w7.cell? ⟨w4.heap.size, 5, none⟩ = some (.int .u8 0) := by rw [hb7.cell (p := ⟨w4.heap.size, 5, none⟩) z5]; exact u5
      have e0 : w7.frozen? ⟨w4.heap.size, 0, none⟩ = false := by rw [hb7.frozen (p := ⟨w4.heap.size, 0, none⟩) z5]; exact r0
      have e1 : w7.frozen? ⟨w4.heap.size, 1, none⟩ = false := by rw [hb7.frozen (p := ⟨w4.heap.size, 1, none⟩) z5]; exact r1
      have e2 : w7.frozen? ⟨w4.heap.size, 2, none⟩ = false := by rw [hb7.frozen (p := ⟨w4.heap.size, 2, none⟩) z5]; exact r2
      have e3 : w7.frozen? ⟨w4.heap.size, 3, none⟩ = false := by rw [hb7.frozen (p := ⟨w4.heap.size, 3, none⟩) z5]; exact r3
      have e4 : w7.frozen? ⟨w4.heap.size, 4, none⟩ = false := by rw [hb7.frozen (p := ⟨w4.heap.size, 4, none⟩) z5]; exact r4
      have e5 : w7.frozen? ⟨w4.heap.size, 5, none⟩ = false := by rw [hb7.frozen (p := ⟨w4.heap.size, 5, none⟩) z5]; exact r5
      clear hb7 u0 u1 u2 u3 u4 u5 r0 r1 r2 r3 r4 r5
      go_wp2
      go_ret
      refine ⟨rfl, ?_⟩
      repeat (first | with_reducible exact B7.out | with_reducible refine below_drewN ?_ _ | with_reducible refine Below.setCell ?_ (by simp; omega) _)
end Go.Proofs.YtclpnafiiobfhaaDoor

import Derived.Test.YtclpnafiiobfhaaDoorKeepBase
import Derived.Deep.CutRange
namespace Go.Proofs.YtclpnafiiobfhaaDoor
open Go.RowKit
set_option linter.unusedVariables false
set_option linter.unusedSimpArgs false

theorem parse_N (s : ByteArray) (N b off cap : Nat) (w : World) (hN : s.size = N) (hs : N ≤ maxLen) (hr : Row w b off s) (hb : b < w.heap.size) :
    Calls Tryd.prog 17 #[.slice (some ⟨b, off, none⟩) N cap] w fun e w' => e = .returned (parsedAs s) ∧ Below w.heap.size w w' := by
  subst hN; exact parse_any s b off cap w hs hr hb

set_option maxHeartbeats 400000 in
theorem clip_any (s : ByteArray) (w : World) (hs : s.size ≤ maxLen) :
    Calls Tryd.prog 14 #[.string s, .int .i64 1000] w fun e w' => ∃ s' : ByteArray, s'.size ≤ 1000 ∧ e = .returned (.string s') ∧ w = w' := by
  unfold maxLen at hs
  by_cases h : 1000 < s.size
  · have h' : (1000 : Int) < (s.size : Int) := by omega
    go_enter Tryd.func14, Tryd.ntmps14
    go_wp2
    go_ret
    exact ⟨_, by simp; omega, rfl, rfl⟩
  · have h' : (s.size : Int) ≤ 1000 := by omega
    go_enter Tryd.func14, Tryd.ntmps14
    go_wp2
    go_ret
    exact ⟨s, by omega, rfl, rfl⟩

theorem bytes_below (w : World) (s : ByteArray) : Below w.heap.size w (Lib.bytesWorld w 5 s) :=
  ⟨rfl, rfl, rfl, by rw [Lib.bytesWorld_size]; omega, fun k hk => Lib.bytesWorld_at_old w 5 s k hk⟩
theorem bytes_pay (w : World) (s : ByteArray) : PayIs (Lib.bytesWorld w 5 s) (some ⟨w.heap.size, 0, none⟩) (toL s) :=
  .inr ⟨w.heap.size, 0, rfl, by rw [Lib.bytesWorld_size]; omega, fun i hi => by
    rw [toL_len] at hi
    rw [Nat.zero_add, Lib.bytesWorld_cell w 5 s i hi, toL_nth]; rfl⟩

theorem conv_tail (W : World) (g K d cap : Nat) (FL : List Int) (s : ByteArray) (hb : Buf W g FL) (hl : FL.length = K + s.size) (ht : FL.drop K = toL s) (hd : s.size ≠ 0 → d = K) :
    (convert 35 9 (.slice (some ⟨g, d, none⟩) s.size cap)).run Tryd.prog W = .ok (.string s) W :=
  Lib.run_convert_whole (P := Tryd.prog) W 35 5 9 Tryd.underlying35 Tryd.underlying5 Tryd.underlying9 g d s (fun i hi => by
    rw [hd (by omega), hb.cell (K + i) (by omega), nth_at s i hi, ← toL_nth s i, ← ht]
    simp [List.getD_eq_getElem?_getD]) cap
/-- what append gives, as a row of bytes -/
theorem own_row {w : World} {B : Nat} {v : Value} {n : Nat} {l : List Int} (h : w.ownsRow B 5 1 v n (l.map (Value.int .u8))) (hn : 0 < n) (hB : Byt l) :
    ∃ g cap, v = .slice (some ⟨g, 0, none⟩) n cap ∧ g < w.heap.size ∧ Row w g 0 (ofL l) ∧ l.length = n := by
  obtain ⟨hl, h | ⟨g, cap, cur, hv, hg, hh, hc, hm, hs, ht⟩⟩ := h
  · omega
  · refine ⟨g, cap, hv, (Array.getElem?_eq_some_iff.1 hh).1, fun i hi => ?_, by simpa using hl⟩
    rw [ofL_size] at hi
    rw [Nat.zero_add, ofL_nth l hB]
    simp only [World.cell?, hh]
    simp only [List.length_map, Nat.mul_one] at hl ht
    have e : cur[i]? = (cur.toList.take n)[i]? := by
      rw [List.getElem?_take_of_lt (by omega), Array.getElem?_toList]
    simp only [e, ht, List.getElem?_map, List.getElem?_eq_getElem hi, Option.map_some, List.getD_eq_getElem?_getD, Option.getD_some]
    simp
theorem own_alloc {w : World} {B e z n : Nat} {v : Value} {xs : List Value} (h : w.ownsRow B e z v n xs) (o : Obj) : (w.alloc o).ownsRow B e z v n xs :=
  h.kept (row := none) ⟨rfl, rfl, rfl, by simp, fun k hk _ => Below.heap_alloc _ _ _ hk⟩ (by cases v.ownBlock <;> simp)
/-- a frame that was built, told by what it is good for -/
structure Framed (a b p sp dp f : Int) (N : Nat) (pl FL : List Int) : Prop where
  len : FL.length = N
  byt : Byt FL
  low : pl.length + 34 ≤ N
  high : N ≤ 1054
  parse : ∀ q, Byt q → parsedAs (ofL (FL ++ q)) = .tuple #[.agg #[.int .u32 a, .int .u32 b, .int .u8 p, .int .u16 sp, .int .u16 dp, .int .u8 f], .int .u8 0]
  tail : FL.drop (N - pl.length) = pl
theorem frameI_tail (a b p sp dp f : Int) (K : Nat) (pl : List Int) (hK : 34 ≤ K) : (frameI a b p sp dp f K pl).drop K = pl := by
  apply List.ext_getElem?
  intro i
  rw [List.getElem?_drop]
  unfold frameI headed headOf set4 set2
  simp only [List.getElem?_set, List.length_set]
  rw [if_neg (by omega), if_neg (by omega), if_neg (by omega), if_neg (by omega), if_neg (by omega), if_neg (by omega), if_neg (by omega), if_neg (by omega), if_neg (by omega), if_neg (by omega), if_neg (by omega), if_neg (by omega), if_neg (by omega), if_neg (by omega), if_neg (by omega), if_neg (by omega), if_neg (by omega)]
  rw [List.getElem?_append_right (by simp; omega)]
  simp [innerOf_len]
theorem framed (a b p sp dp f : Int) (K : Nat) (s : ByteArray) (hr : Ranges a b p sp dp f) (h4 : Hdr4 p sp dp f) (hs : s.size ≤ 1000) (hK : (K : Int) = 34 + isz p) : Framed a b p sp dp f (K + s.size) (toL s) (frameI a b p sp dp f K (toL s)) where
  len := by rw [frameI_len, toL_len]
  byt := frameI_byt a b p sp dp f K (toL s) hr.a hr.b hr.p hr.sp hr.dp hr.f (by rw [toL_len]; exact hs) (toL_byt s) hK
  low := by have := isz_bd p; rw [toL_len]; omega
  high := by have := isz_bd p; omega
  parse := fun q hq => frame_parse a b p sp dp f K (toL s) q hr h4 (by rw [toL_len]; exact hs) (toL_byt s) hq hK
  tail := by
    have := isz_bd p
    rw [toL_len, show K + s.size - s.size = K from by omega]
    exact frameI_tail a b p sp dp f K (toL s) (by omega)

set_option maxRecDepth 100000 in
set_option maxHeartbeats 800000 in
theorem rebuilt_any (a b c d : Int) (s : ByteArray) (w : World) (hL : Laid w) (hm : s.size ≤ maxLen) (hc : -9223372036854775808 ≤ c ∧ c ≤ 9223372036854775807) (hd : -9223372036854775808 ≤ d ∧ d ≤ 9223372036854775807) :
    Calls Tryd.prog 7 #[.int .i64 a, .int .i64 b, .int .i64 c, .int .i64 d, .string s] w fun e w' => e = .returned (.bool true) ∧ Below w.heap.size w w' := by
  have HL : Hid (Laid w) := hL
  clear hL
  have hcv := fun (W : World) (s : ByteArray) => Lib.run_convert_string_bytes (P := Tryd.prog) W 9 35 5 s Tryd.underlying9 Tryd.underlying35 Tryd.underlying5
  go_enter Tryd.func7, Tryd.ntmps7
  go_wp2_with fail
  refine (clip_any s _ hm).mono ?_
  rintro e w0 ⟨s', hs', rfl, rfl⟩
  go_wp2_with fail
  refine (kheader_any a b c d _ hc hd).mono ?_
  rintro e w1 ⟨⟨x0, x1, x2, x3, x4, x5, rfl, hR, h4⟩, hb1⟩
  have hz := isz_bd x2
  obtain ⟨K, hK⟩ : ∃ K : Nat, (K : Int) = 34 + isz x2 := ⟨(34 + isz x2).toNat, by omega⟩
  have HK : Hid ((K : Int) = 34 + isz x2) := hK
  have kl : 34 ≤ K := by omega
  have kh : K ≤ 54 := by omega
  have HR : Hid (Ranges x0 x1 x2 x3 x4 x5) := hR
  have H4 : Hid (Hdr4 x2 x3 x4 x5) := h4
  have B1 : Hid (Below w.heap.size w w1) := hb1
  have z1 := hb1.size
  have bs : (s'.size : Int) ≤ 1000 := by omega
  clear hb1 hR h4 hK hz
  go_wp2_with fail
  rw [← toL_len s']
  refine (plBuild_yes x0 x1 x2 x3 x4 x5 _ _ (toL s') _ HR.out.a HR.out.b HR.out.p HR.out.sp HR.out.dp HR.out.f (by rw [toL_len]; exact hs') (toL_byt s') (by
    have h := bytes_pay (w1.alloc (.cells #[.int .u32 x0, .int .u32 x1, .int .u8 x2, .int .u16 x3, .int .u16 x4, .int .u8 x5] 28)) s'
    rw [show (w1.alloc (.cells #[.int .u32 x0, .int .u32 x1, .int .u8 x2, .int .u16 x3, .int .u16 x4, .int .u8 x5] 28)).heap.size = w1.heap.size + 1 from by simp] at h
    exact h) H4.out.may K HK.out).mono ?_
  rintro e w2 ⟨g, rfl, hg2, hb2, hB2⟩
  rw [toL_len s']
  have zb : (Lib.bytesWorld (w1.alloc (.cells #[.int .u32 x0, .int .u32 x1, .int .u8 x2, .int .u16 x3, .int .u16 x4, .int .u8 x5] 28)) 5 s').heap.size = w1.heap.size + 2 := by rw [Lib.bytesWorld_size]; simp
  rw [zb] at hg2 hb2
  have hFr := framed x0 x1 x2 x3 x4 x5 K s' HR.out H4.out hs' HK.out
  obtain ⟨FL, hFL⟩ : ∃ FL, FL = (frameI x0 x1 x2 x3 x4 x5 K (toL s')) := ⟨_, rfl⟩
  rw [← hFL] at hB2 hFr
  have F2 : Hid (Buf w2 g FL) := hB2
  have HF : Hid (Framed x0 x1 x2 x3 x4 x5 (K + s'.size) (toL s') FL) := hFr
  clear hFL hFr
  have B2 : Hid (Below w.heap.size w w2) := ((B1.out.alloc z1 _).trans ((bytes_below _ s').mono (by simp; omega))).trans (hb2.mono (by omega))
  have z2 : w1.heap.size + 2 ≤ w2.heap.size := by have := hb2.size; rw [zb] at this; exact this
  have gl2 : g < w2.heap.size := hB2.lt
  have u0 : w2.cell? ⟨w1.heap.size, 0, none⟩ = some (.int .u32 x0) := by rw [hb2.cell (p := ⟨w1.heap.size, 0, none⟩) (by simp), Lib.bytesWorld_old _ _ _ _ (by simp), World.cell?_alloc_at _ _ _ _ rfl]; rfl
  have u1 : w2.cell? ⟨w1.heap.size, 1, none⟩ = some (.int .u32 x1) := by rw [hb2.cell (p := ⟨w1.heap.size, 1, none⟩) (by simp), Lib.bytesWorld_old _ _ _ _ (by simp), World.cell?_alloc_at _ _ _ _ rfl]; rfl
  have u2 : w2.cell? ⟨w1.heap.size, 2, none⟩ = some (.int .u8 x2) := by rw [hb2.cell (p := ⟨w1.heap.size, 2, none⟩) (by simp), Lib.bytesWorld_old _ _ _ _ (by simp), World.cell?_alloc_at _ _ _ _ rfl]; rfl
  have u3 : w2.cell? ⟨w1.heap.size, 3, none⟩ = some (.int .u16 x3) := by rw [hb2.cell (p := ⟨w1.heap.size, 3, none⟩) (by simp), Lib.bytesWorld_old _ _ _ _ (by simp), World.cell?_alloc_at _ _ _ _ rfl]; rfl
  have u4 : w2.cell? ⟨w1.heap.size, 4, none⟩ = some (.int .u16 x4) := by rw [hb2.cell (p := ⟨w1.heap.size, 4, none⟩) (by simp), Lib.bytesWorld_old _ _ _ _ (by simp), World.cell?_alloc_at _ _ _ _ rfl]; rfl
  have u5 : w2.cell? ⟨w1.heap.size, 5, none⟩ = some (.int .u8 x5) := by rw [hb2.cell (p := ⟨w1.heap.size, 5, none⟩) (by simp), Lib.bytesWorld_old _ _ _ _ (by simp), World.cell?_alloc_at _ _ _ _ rfl]; rfl
  have ln : (34 : Int) + (s'.size : Int) ≤ (((K + s'.size : Nat)) : Int) := by omega
  clear hb2 hB2 zb hcv HR H4 HK
  go_wp2_with fail
  refine (parse_N (ofL FL) (K + s'.size) g 0 _ _ (by rw [ofL_size]; exact HF.out.len) (by unfold maxLen; omega) (F2.out.row HF.out.byt) gl2).mono ?_
  rintro e w3 ⟨rfl, hb3⟩
  rw [show parsedAs (ofL FL) = .tuple #[.agg #[.int .u32 x0, .int .u32 x1, .int .u8 x2, .int .u16 x3, .int .u16 x4, .int .u8 x5], .int .u8 0] from by
    have h := HF.out.parse [] (fun x hx => by cases hx)
    rw [List.append_nil] at h; exact h]
  have F3 : Hid (Buf w3 g FL) := F2.out.below hb3 gl2
  have B3 : Hid (Below w.heap.size w w3) := B2.out.trans (hb3.mono (by omega))
  have z3 := hb3.size
  have v0 : w3.cell? ⟨w1.heap.size, 0, none⟩ = some (.int .u32 x0) := by rw [hb3.cell (p := ⟨w1.heap.size, 0, none⟩) (by simp; omega)]; exact u0
  have v1 : w3.cell? ⟨w1.heap.size, 1, none⟩ = some (.int .u32 x1) := by rw [hb3.cell (p := ⟨w1.heap.size, 1, none⟩) (by simp; omega)]; exact u1
  have v2 : w3.cell? ⟨w1.heap.size, 2, none⟩ = some (.int .u8 x2) := by rw [hb3.cell (p := ⟨w1.heap.size, 2, none⟩) (by simp; omega)]; exact u2
  have v3 : w3.cell? ⟨w1.heap.size, 3, none⟩ = some (.int .u16 x3) := by rw [hb3.cell (p := ⟨w1.heap.size, 3, none⟩) (by simp; omega)]; exact u3
  have v4 : w3.cell? ⟨w1.heap.size, 4, none⟩ = some (.int .u16 x4) := by rw [hb3.cell (p := ⟨w1.heap.size, 4, none⟩) (by simp; omega)]; exact u4
  have v5 : w3.cell? ⟨w1.heap.size, 5, none⟩ = some (.int .u8 x5) := by rw [hb3.cell (p := ⟨w1.heap.size, 5, none⟩) (by simp; omega)]; exact u5
  have n13 : w1.heap.size < w3.heap.size := by omega
  clear hb3 u0 u1 u2 u3 u4 u5
  have hsl := slice_pay g K s'.size (K : Int) rfl
  obtain ⟨dd, hdd⟩ : ∃ dd, dd = (if s'.size = 0 then 0 else K) := ⟨_, rfl⟩
  rw [← hdd] at hsl
  have hct := conv_tail (w3.alloc (.cells #[.int .u32 x0, .int .u32 x1, .int .u8 x2, .int .u16 x3, .int .u16 x4, .int .u8 x5] 28)) g K dd s'.size FL s' (F3.out.alloc _) HF.out.len (by have h := HF.out.tail; rw [toL_len, show K + s'.size - s'.size = K from by omega] at h; exact h) (fun h => by rw [hdd, if_neg h])
  clear hdd
  have gl3 : g < w3.heap.size := F3.out.lt
  obtain ⟨i8, hi8, hi8'⟩ := Option.map_eq_some_iff.1 Tryd.info8
  simp only [Prod.mk.injEq] at hi8'
  obtain ⟨hz8, hs8, hb8⟩ := hi8'
  have HI : Hid (Tryd.prog.info? 5 = some i8) := hi8
  have HZ : Hid (i8.zero = some (.int .u8 0)) := hz8
  have HS : Hid (i8.size = 1) := hs8
  have HBy : Hid (i8.bytes = 1) := hb8
  clear hi8 hz8 hs8 hb8
  have N1 : Hid (∀ j u, (FL.map (Value.int .u8))[j]? = some u → (w3.alloc (.cells #[.int .u32 x0, .int .u32 x1, .int .u8 x2, .int .u16 x3, .int .u16 x4, .int .u8 x5] 28)).cell? ((⟨g, 0, none⟩ : Addr).add j) = some u) := fun j u hu => by
    have hj : j < FL.length := by
      have h := (List.getElem?_eq_some_iff.1 hu).1
      simpa using h
    have ea : (⟨g, 0, none⟩ : Addr).add j = ⟨g, j, none⟩ := by simp only [Addr.add]; split <;> simp_all
    rw [ea, (F3.out.alloc _).cell j hj]
    simp [List.getElem?_eq_getElem hj] at hu
    simp [List.getD_eq_getElem?_getD, List.getElem?_eq_getElem hj, hu]
  have O1 : Hid (∀ l : List Int, ∀ u ∈ l.map (Value.int .u8), u.oneCell' = true) := fun l u hu => by
    simp only [List.mem_map] at hu
    obtain ⟨x, _, rfl⟩ := hu
    rfl
  have L1 : Hid ((FL.map (Value.int .u8)).length = (K + s'.size) * 1) := by show _ = _; rw [List.length_map, HF.out.len, Nat.mul_one]
  have M1 : Hid (0 + (K + s'.size) ≤ maxLen) := by show _ ≤ _; unfold maxLen; omega
  have Q1 : Hid ((0 + (K + s'.size)) * 1 ≤ 140737488355328) := by show _ ≤ _; omega
  go_upto_region 10 with fail
  go_upto_region 11 with (at_builtin; refine wpList_append_own _ rfl _ _ 35 rfl (w3.heap.size + 1) 5 i8 (.int .u8 0) 1 1 Tryd.underlying35 HI.out HZ.out HS.out HBy.out rfl (by decide) (.slice none 0 0) 0 [] rfl (World.ownsRow_nil _ _ _ _) ⟨g, 0, none⟩ (K + s'.size) (K + s'.size) (FL.map (Value.int .u8)) rfl L1.out N1.out (O1.out FL) M1.out Q1.out (by simp) ?_; intro vA w5 own1 gr1 iff1)
  have W1 : Hid (w5.ownsRow (w3.heap.size + 1) 5 1 vA (K + s'.size) (FL.map (Value.int .u8))) := by
    rw [Nat.zero_add, List.nil_append] at own1; exact own1
  have z5 : w3.heap.size + 1 ≤ w5.heap.size := by have := gr1.size; simpa using this
  have B5 : Hid (Below w.heap.size w w5) := (B3.out.alloc (by omega) _).trans ⟨gr1.os, gr1.tape, gr1.output, gr1.size, fun k hk => gr1.block k (by simp; omega) (by simp [Value.ownBlock])⟩
  have G5 : Hid (∀ i, w5.cell? ⟨w3.heap.size, i, none⟩ = (w3.alloc (.cells #[.int .u32 x0, .int .u32 x1, .int .u8 x2, .int .u16 x3, .int .u16 x4, .int .u8 x5] 28)).cell? ⟨w3.heap.size, i, none⟩) := fun i => World.cell?_of_block (gr1.block w3.heap.size (by simp) (by simp [Value.ownBlock]))
  have H5 : Hid (∀ i, w5.cell? ⟨w1.heap.size, i, none⟩ = w3.cell? ⟨w1.heap.size, i, none⟩) := fun i => by
    rw [World.cell?_of_block (a := ⟨w1.heap.size, i, none⟩) (gr1.block w1.heap.size (by simp; omega) (by simp [Value.ownBlock])), World.cell?_alloc_lt _ _ _ (by simpa using n13)]
  have VV : Hid (∀ i (u : Value), w3.cell? ⟨w1.heap.size, i, none⟩ = some u → w5.cell? ⟨w1.heap.size, i, none⟩ = some u) := fun i u h => by rw [H5.out i]; exact h
  have p0 : w5.cell? ⟨w1.heap.size, 0, none⟩ = some (.int .u32 x0) := VV.out 0 _ v0
  have p1 : w5.cell? ⟨w1.heap.size, 1, none⟩ = some (.int .u32 x1) := VV.out 1 _ v1
  have p2 : w5.cell? ⟨w1.heap.size, 2, none⟩ = some (.int .u8 x2) := VV.out 2 _ v2
  have p3 : w5.cell? ⟨w1.heap.size, 3, none⟩ = some (.int .u16 x3) := VV.out 3 _ v3
  have p4 : w5.cell? ⟨w1.heap.size, 4, none⟩ = some (.int .u16 x4) := VV.out 4 _ v4
  have p5 : w5.cell? ⟨w1.heap.size, 5, none⟩ = some (.int .u8 x5) := VV.out 5 _ v5
  have g0 : w5.cell? ⟨w3.heap.size, 0, none⟩ = some (.int .u32 x0) := by rw [G5.out 0, World.cell?_alloc_at _ _ _ _ rfl]; rfl
  have g1 : w5.cell? ⟨w3.heap.size, 1, none⟩ = some (.int .u32 x1) := by rw [G5.out 1, World.cell?_alloc_at _ _ _ _ rfl]; rfl
  have g2 : w5.cell? ⟨w3.heap.size, 2, none⟩ = some (.int .u8 x2) := by rw [G5.out 2, World.cell?_alloc_at _ _ _ _ rfl]; rfl
  have g3 : w5.cell? ⟨w3.heap.size, 3, none⟩ = some (.int .u16 x3) := by rw [G5.out 3, World.cell?_alloc_at _ _ _ _ rfl]; rfl
  have g4 : w5.cell? ⟨w3.heap.size, 4, none⟩ = some (.int .u16 x4) := by rw [G5.out 4, World.cell?_alloc_at _ _ _ _ rfl]; rfl
  have g5 : w5.cell? ⟨w3.heap.size, 5, none⟩ = some (.int .u8 x5) := by rw [G5.out 5, World.cell?_alloc_at _ _ _ _ rfl]; rfl
  have r0 : w5.frozen? ⟨w3.heap.size, 0, none⟩ = false := by rw [World.frozen?_of_block (a := ⟨w3.heap.size, 0, none⟩) (gr1.block w3.heap.size (by simp) (by simp [Value.ownBlock]))]; exact World.frozen?_alloc_at _ _ _ _ rfl
  have r1 : w5.frozen? ⟨w3.heap.size, 1, none⟩ = false := by rw [World.frozen?_of_block (a := ⟨w3.heap.size, 1, none⟩) (gr1.block w3.heap.size (by simp) (by simp [Value.ownBlock]))]; exact World.frozen?_alloc_at _ _ _ _ rfl
  have r2 : w5.frozen? ⟨w3.heap.size, 2, none⟩ = false := by rw [World.frozen?_of_block (a := ⟨w3.heap.size, 2, none⟩) (gr1.block w3.heap.size (by simp) (by simp [Value.ownBlock]))]; exact World.frozen?_alloc_at _ _ _ _ rfl
  have r3 : w5.frozen? ⟨w3.heap.size, 3, none⟩ = false := by rw [World.frozen?_of_block (a := ⟨w3.heap.size, 3, none⟩) (gr1.block w3.heap.size (by simp) (by simp [Value.ownBlock]))]; exact World.frozen?_alloc_at _ _ _ _ rfl
  have r4 : w5.frozen? ⟨w3.heap.size, 4, none⟩ = false := by rw [World.frozen?_of_block (a := ⟨w3.heap.size, 4, none⟩) (gr1.block w3.heap.size (by simp) (by simp [Value.ownBlock]))]; exact World.frozen?_alloc_at _ _ _ _ rfl
  have r5 : w5.frozen? ⟨w3.heap.size, 5, none⟩ = false := by rw [World.frozen?_of_block (a := ⟨w3.heap.size, 5, none⟩) (gr1.block w3.heap.size (by simp) (by simp [Value.ownBlock]))]; exact World.frozen?_alloc_at _ _ _ _ rfl
  clear own1 gr1 iff1 hsl hct
  have N2 : Hid (∀ j u, (([1, 2, 3] : List Int).map (Value.int .u8))[j]? = some u → (w5.alloc (.cells #[.int .u8 1, .int .u8 2, .int .u8 3] 5)).cell? ((⟨w5.heap.size, 0, none⟩ : Addr).add j) = some u) := fun j u hu => by
    have ea : (⟨w5.heap.size, 0, none⟩ : Addr).add j = ⟨w5.heap.size, j, none⟩ := by simp only [Addr.add]; split <;> simp_all
    rw [ea, World.cell?_alloc_at _ _ _ _ rfl]
    simpa using hu
  have M2 : Hid (K + s'.size + 3 ≤ maxLen) := by show _ ≤ _; unfold maxLen; omega
  have Q2 : Hid ((K + s'.size + 3) * 1 ≤ 140737488355328) := by show _ ≤ _; omega
  go_upto_region 12 with (at_builtin; refine wpList_append_own _ rfl _ _ 35 rfl (w3.heap.size + 1) 5 i8 (.int .u8 0) 1 1 Tryd.underlying35 HI.out HZ.out HS.out HBy.out rfl (by decide) vA (K + s'.size) (FL.map (Value.int .u8)) rfl (own_alloc W1.out _) ⟨w5.heap.size, 0, none⟩ 3 3 (([1, 2, 3] : List Int).map (Value.int .u8)) rfl rfl N2.out (O1.out _) M2.out Q2.out (by simp; omega) ?_; intro vB w7 own2 gr2 iff2)
  rw [← List.map_append] at own2
  have YB : Byt (FL ++ [1, 2, 3]) := HF.out.byt.append (fun x hx => by simp at hx; omega)
  obtain ⟨g7, cap7, rfl, gl7, row7, len7⟩ := own_row own2 (by omega) YB
  have HRow : Hid (Row w7 g7 0 (ofL (FL ++ [1, 2, 3]))) := row7
  have HLen : Hid ((FL ++ [1, 2, 3]).length = K + s'.size + 3) := len7
  have nk : ∀ k, vA.ownBlock = some k → w3.heap.size + 1 ≤ k := fun k hk => (W1.out.lt k hk).1
  have z7 : w5.heap.size + 1 ≤ w7.heap.size := by have := gr2.size; simpa using this
  have K7 : Hid (∀ k, k < w3.heap.size + 1 → w7.heap[k]? = w5.heap[k]?) := fun k hk => by
    rw [gr2.block k (by simp; omega) (fun e => by have := nk k e.symm; omega), Below.heap_alloc _ _ _ (by omega)]
  have B7 : Hid (Below w.heap.size w w7) := B5.out.trans ⟨gr2.os, gr2.tape, gr2.output, by omega, fun k hk => K7.out k (by omega)⟩
  have a0 : w7.cell? ⟨w1.heap.size, 0, none⟩ = some (.int .u32 x0) := by rw [World.cell?_of_block (a := ⟨w1.heap.size, 0, none⟩) (K7.out w1.heap.size (by omega))]; exact p0
  have a1 : w7.cell? ⟨w1.heap.size, 1, none⟩ = some (.int .u32 x1) := by rw [World.cell?_of_block (a := ⟨w1.heap.size, 1, none⟩) (K7.out w1.heap.size (by omega))]; exact p1
  have a2 : w7.cell? ⟨w1.heap.size, 2, none⟩ = some (.int .u8 x2) := by rw [World.cell?_of_block (a := ⟨w1.heap.size, 2, none⟩) (K7.out w1.heap.size (by omega))]; exact p2
  have a3 : w7.cell? ⟨w1.heap.size, 3, none⟩ = some (.int .u16 x3) := by rw [World.cell?_of_block (a := ⟨w1.heap.size, 3, none⟩) (K7.out w1.heap.size (by omega))]; exact p3
  have a4 : w7.cell? ⟨w1.heap.size, 4, none⟩ = some (.int .u16 x4) := by rw [World.cell?_of_block (a := ⟨w1.heap.size, 4, none⟩) (K7.out w1.heap.size (by omega))]; exact p4
  have a5 : w7.cell? ⟨w1.heap.size, 5, none⟩ = some (.int .u8 x5) := by rw [World.cell?_of_block (a := ⟨w1.heap.size, 5, none⟩) (K7.out w1.heap.size (by omega))]; exact p5
  have b0 : w7.cell? ⟨w3.heap.size, 0, none⟩ = some (.int .u32 x0) := by rw [World.cell?_of_block (a := ⟨w3.heap.size, 0, none⟩) (K7.out w3.heap.size (by omega))]; exact g0
  have b1 : w7.cell? ⟨w3.heap.size, 1, none⟩ = some (.int .u32 x1) := by rw [World.cell?_of_block (a := ⟨w3.heap.size, 1, none⟩) (K7.out w3.heap.size (by omega))]; exact g1
  have b2 : w7.cell? ⟨w3.heap.size, 2, none⟩ = some (.int .u8 x2) := by rw [World.cell?_of_block (a := ⟨w3.heap.size, 2, none⟩) (K7.out w3.heap.size (by omega))]; exact g2
  have b3 : w7.cell? ⟨w3.heap.size, 3, none⟩ = some (.int .u16 x3) := by rw [World.cell?_of_block (a := ⟨w3.heap.size, 3, none⟩) (K7.out w3.heap.size (by omega))]; exact g3
  have b4 : w7.cell? ⟨w3.heap.size, 4, none⟩ = some (.int .u16 x4) := by rw [World.cell?_of_block (a := ⟨w3.heap.size, 4, none⟩) (K7.out w3.heap.size (by omega))]; exact g4
  have b5 : w7.cell? ⟨w3.heap.size, 5, none⟩ = some (.int .u8 x5) := by rw [World.cell?_of_block (a := ⟨w3.heap.size, 5, none⟩) (K7.out w3.heap.size (by omega))]; exact g5
  have f0 : w7.frozen? ⟨w3.heap.size, 0, none⟩ = false := by rw [World.frozen?_of_block (a := ⟨w3.heap.size, 0, none⟩) (K7.out w3.heap.size (by omega))]; exact r0
  have f1 : w7.frozen? ⟨w3.heap.size, 1, none⟩ = false := by rw [World.frozen?_of_block (a := ⟨w3.heap.size, 1, none⟩) (K7.out w3.heap.size (by omega))]; exact r1
  have f2 : w7.frozen? ⟨w3.heap.size, 2, none⟩ = false := by rw [World.frozen?_of_block (a := ⟨w3.heap.size, 2, none⟩) (K7.out w3.heap.size (by omega))]; exact r2
  have f3 : w7.frozen? ⟨w3.heap.size, 3, none⟩ = false := by rw [World.frozen?_of_block (a := ⟨w3.heap.size, 3, none⟩) (K7.out w3.heap.size (by omega))]; exact r3
  have f4 : w7.frozen? ⟨w3.heap.size, 4, none⟩ = false := by rw [World.frozen?_of_block (a := ⟨w3.heap.size, 4, none⟩) (K7.out w3.heap.size (by omega))]; exact r4
  have f5 : w7.frozen? ⟨w3.heap.size, 5, none⟩ = false := by rw [World.frozen?_of_block (a := ⟨w3.heap.size, 5, none⟩) (K7.out w3.heap.size (by omega))]; exact r5
  clear own2 gr2 iff2 row7 len7 nk p0 p1 p2 p3 p4 p5 g0 g1 g2 g3 g4 g5 r0 r1 r2 r3 r4 r5 v0 v1 v2 v3 v4 v5
  go_wp2_with fail
  refine (parse_N (ofL (FL ++ [1, 2, 3])) (K + s'.size + 3) g7 0 _ _ (by rw [ofL_size]; exact HLen.out) (by unfold maxLen; omega) HRow.out gl7).mono ?_
  rintro e w8 ⟨rfl, hb8⟩
  rw [HF.out.parse [1, 2, 3] (fun x hx => by simp at hx; omega)]
  have z8 := hb8.size
  have B8 : Hid (Below w.heap.size w w8) := B7.out.trans (hb8.mono (by omega))
  have c0 : w8.cell? ⟨w1.heap.size, 0, none⟩ = some (.int .u32 x0) := by rw [hb8.cell (p := ⟨w1.heap.size, 0, none⟩) (by simp; omega)]; exact a0
  have c1 : w8.cell? ⟨w1.heap.size, 1, none⟩ = some (.int .u32 x1) := by rw [hb8.cell (p := ⟨w1.heap.size, 1, none⟩) (by simp; omega)]; exact a1
  have c2 : w8.cell? ⟨w1.heap.size, 2, none⟩ = some (.int .u8 x2) := by rw [hb8.cell (p := ⟨w1.heap.size, 2, none⟩) (by simp; omega)]; exact a2
  have c3 : w8.cell? ⟨w1.heap.size, 3, none⟩ = some (.int .u16 x3) := by rw [hb8.cell (p := ⟨w1.heap.size, 3, none⟩) (by simp; omega)]; exact a3
  have c4 : w8.cell? ⟨w1.heap.size, 4, none⟩ = some (.int .u16 x4) := by rw [hb8.cell (p := ⟨w1.heap.size, 4, none⟩) (by simp; omega)]; exact a4
  have c5 : w8.cell? ⟨w1.heap.size, 5, none⟩ = some (.int .u8 x5) := by rw [hb8.cell (p := ⟨w1.heap.size, 5, none⟩) (by simp; omega)]; exact a5
  have d0 : w8.cell? ⟨w3.heap.size, 0, none⟩ = some (.int .u32 x0) := by rw [hb8.cell (p := ⟨w3.heap.size, 0, none⟩) (by simp; omega)]; exact b0
  have d1 : w8.cell? ⟨w3.heap.size, 1, none⟩ = some (.int .u32 x1) := by rw [hb8.cell (p := ⟨w3.heap.size, 1, none⟩) (by simp; omega)]; exact b1
  have d2 : w8.cell? ⟨w3.heap.size, 2, none⟩ = some (.int .u8 x2) := by rw [hb8.cell (p := ⟨w3.heap.size, 2, none⟩) (by simp; omega)]; exact b2
  have d3 : w8.cell? ⟨w3.heap.size, 3, none⟩ = some (.int .u16 x3) := by rw [hb8.cell (p := ⟨w3.heap.size, 3, none⟩) (by simp; omega)]; exact b3
  have d4 : w8.cell? ⟨w3.heap.size, 4, none⟩ = some (.int .u16 x4) := by rw [hb8.cell (p := ⟨w3.heap.size, 4, none⟩) (by simp; omega)]; exact b4
  have d5 : w8.cell? ⟨w3.heap.size, 5, none⟩ = some (.int .u8 x5) := by rw [hb8.cell (p := ⟨w3.heap.size, 5, none⟩) (by simp; omega)]; exact b5
  have e0 : w8.frozen? ⟨w3.heap.size, 0, none⟩ = false := by rw [hb8.frozen (p := ⟨w3.heap.size, 0, none⟩) (by simp; omega)]; exact f0
  have e1 : w8.frozen? ⟨w3.heap.size, 1, none⟩ = false := by rw [hb8.frozen (p := ⟨w3.heap.size, 1, none⟩) (by simp; omega)]; exact f1
  have e2 : w8.frozen? ⟨w3.heap.size, 2, none⟩ = false := by rw [hb8.frozen (p := ⟨w3.heap.size, 2, none⟩) (by simp; omega)]; exact f2
  have e3 : w8.frozen? ⟨w3.heap.size, 3, none⟩ = false := by rw [hb8.frozen (p := ⟨w3.heap.size, 3, none⟩) (by simp; omega)]; exact f3
  have e4 : w8.frozen? ⟨w3.heap.size, 4, none⟩ = false := by rw [hb8.frozen (p := ⟨w3.heap.size, 4, none⟩) (by simp; omega)]; exact f4
  have e5 : w8.frozen? ⟨w3.heap.size, 5, none⟩ = false := by rw [hb8.frozen (p := ⟨w3.heap.size, 5, none⟩) (by simp; omega)]; exact f5
  have ne13 : w1.heap.size ≠ w3.heap.size := by omega
  have ne31 : w3.heap.size ≠ w1.heap.size := by omega
  have wl : w.heap.size ≤ w3.heap.size := by omega
  clear hb8 a0 a1 a2 a3 a4 a5 b0 b1 b2 b3 b4 b5 f0 f1 f2 f3 f4 f5
  go_wp2
  go_ret
  refine ⟨rfl, ?_⟩
  repeat (first | with_reducible exact B8.out | with_reducible refine below_drewN ?_ _ | with_reducible refine Below.setCell ?_ (by simp; omega) _)
end Go.Proofs.YtclpnafiiobfhaaDoor

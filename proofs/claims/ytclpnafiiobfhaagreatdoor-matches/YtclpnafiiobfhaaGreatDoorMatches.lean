import Derived.Test.YtclpnafiiobfhaaGreatDoorDComp
import Derived.Test.YtclpnafiiobfhaaGreatDoorDVerdict
import Derived.Test.YtclpnafiiobfhaaGreatDoorRefParse
import Derived.Test.YtclpnafiiobfhaaGreatDoorRExec
namespace Go.Proofs.YtclpnafiiobfhaaGreatDoor
open Go.RowKit
set_option linter.unusedVariables false
set_option linter.unusedSimpArgs false

/-- which of n things the raw number c speaks of -/
def lpk (c n : Int) : Int := (if c < 0 then -(c + 1) else c) % n
theorem lpk_bd (c n : Int) (h : 0 < n) : 0 ≤ lpk c n ∧ lpk c n < n := ⟨Int.emod_nonneg _ (by omega), Int.emod_lt_of_pos _ h⟩
set_option maxHeartbeats 400000 in
theorem lpick_any (c n : Int) (w : World) (hc : -9223372036854775808 ≤ c ∧ c ≤ 9223372036854775807) (hn : 1 ≤ n ∧ n ≤ 100000) :
    Calls Tryz.prog 13 #[.int .i64 c, .int .i64 n] w fun e w' => e = .returned (.int .i64 (lpk c n)) ∧ w' = w := by
  have h0 : ¬ n = 0 := by omega
  by_cases h : c < 0
  · have e : lpk c n = (-(c + 1)) % n := by simp [lpk, h]
    rw [e]
    go_enter Tryz.func13, Tryz.ntmps13
    go_wp2
    go_ret
    exact ⟨ret_int (by rw [← Int.neg_tmod, Int.tmod_eq_emod_of_nonneg (by omega)]), rfl⟩
  · have e : lpk c n = c % n := by simp [lpk, h]
    rw [e]
    go_enter Tryz.func13, Tryz.ntmps13
    go_wp2
    go_ret
    exact ⟨rfl, rfl⟩
theorem spOf_bd (s : ByteArray) : 0 ≤ spOf s ∧ spOf s ≤ 65535 := by
  have h1 := numv_bd2 s 34
  have h2 := numv_bd2 s 38
  unfold spOf; split
  · exact h1
  · split
    · exact h2
    · omega
theorem dpOf_bd (s : ByteArray) : 0 ≤ dpOf s ∧ dpOf s ≤ 65535 := by
  have h1 := numv_bd2 s 36
  have h2 := numv_bd2 s 38
  unfold dpOf; split
  · exact h1
  · split
    · exact h2
    · omega
theorem flOf_bd (s : ByteArray) : 0 ≤ flOf s ∧ flOf s ≤ 255 := by
  have h1 := nth_bd s 47
  have h2 := nth_bd s 34
  unfold flOf; split
  · omega
  · split
    · exact h2
    · omega
set_option maxRecDepth 20000 in
set_option maxHeartbeats 1600000 in
theorem matches_bad (s d : ByteArray) (c t : Int) (w : World) (hL : Laid w) (hm : MaxL w) (hs : s.size ≤ 262144) (hd : d.size ≤ 262144) (hk : (readT s).1 ≠ 0) :
    Calls Tryz.prog 5 #[.string s, .string d, .int .i64 c, .int .i64 t] w fun e w' => e = .returned (.bool true) ∧ Below w.heap.size w w' := by
  have HC : Hid (Calls _ _ _ w _) := dcomp_bad s w hm hL (by unfold maxLen; omega) hk
  have h1 : ¬ (262144 : Int) < (s.size : Int) := by omega
  have h2 : ¬ (262144 : Int) < (d.size : Int) := by omega
  have d1 : decide ((262144 : Int) < (s.size : Int)) = false := by simp; omega
  have d2 : decide ((262144 : Int) < (d.size : Int)) = false := by simp; omega
  have hsn : ∀ W, (binOp .eql 32 (.slice none 0 0) (.slice none 0 0)).run Tryz.prog W = .ok (.bool true) W := fun W => by kernel_rfl
  clear hL hm hs hd hk
  go_enter Tryz.func5, Tryz.ntmps5
  go_wp2_with fail
  refine HC.out.mono ?_
  rintro e w1 ⟨rfl, hb1⟩
  go_wp2_with fail
  go_ret
  exact ⟨rfl, hb1⟩
set_option maxRecDepth 20000 in
set_option maxHeartbeats 1600000 in
theorem matches_class (s d : ByteArray) (c t : Int) (w : World) (hL : Laid w) (hm : MaxL w) (hs : s.size ≤ 262144) (hd : d.size ≤ 262144) (hk : (readT s).1 = 0) (hcl : cls d ≠ 0) :
    Calls Tryz.prog 5 #[.string s, .string d, .int .i64 c, .int .i64 t] w fun e w' => e = .returned (.bool true) ∧ Below w.heap.size w w' := by
  have HC : Hid (Calls _ _ _ w _) := dcomp_good s w hm hL (by unfold maxLen; omega) hk
  have HP : Hid (∀ W : World, Calls Tryz.prog 12 #[.string d] W fun e w' => e = .returned (.tuple #[.agg hdr0, .int .u8 (cls d)]) ∧ Below W.heap.size W w') := fun W => (refParse_any d W (by unfold maxLen; omega)).mono fun e w' ⟨he, hb⟩ => ⟨by rw [he]; unfold parsedAs; rw [if_neg hcl], hb⟩
  unfold hdr0 at HP
  have h1 : ¬ (262144 : Int) < (s.size : Int) := by omega
  have h2 : ¬ (262144 : Int) < (d.size : Int) := by omega
  have d1 : decide ((262144 : Int) < (s.size : Int)) = false := by simp; omega
  have d2 : decide ((262144 : Int) < (d.size : Int)) = false := by simp; omega
  have hsn : ∀ (W : World) (g n c : Nat), (binOp .eql 32 (.slice (some ⟨g, 0, none⟩) n c) (.slice none 0 0)).run Tryz.prog W = .ok (.bool false) W := fun W g n c => by kernel_rfl
  have hc2 : (cls d != 0) = true := by simpa using hcl
  generalize cls d = k at HP hc2
  clear hL hm hs hd hk hcl
  go_enter Tryz.func5, Tryz.ntmps5
  go_wp2_with fail
  refine HC.out.mono ?_
  rintro e w1 ⟨g, cc, rfl, ho⟩
  have O1 : Hid (CompOut s w g cc w1) := ho
  clear ho
  go_wp2_with fail
  refine (HP.out _).mono ?_
  rintro e w2 ⟨rfl, hb2⟩
  have B2 : Hid (Below w.heap.size w w2) := O1.out.b.trans (hb2.mono O1.out.b.size)
  clear hb2
  go_wp2_with fail
  go_ret
  exact ⟨rfl, B2.out.alloc B2.out.size _⟩
set_option maxRecDepth 20000 in
set_option maxHeartbeats 3200000 in
theorem matches_fine (s d : ByteArray) (c t : Int) (w : World) (hL : Laid w) (hm : MaxL w) (hs : s.size ≤ 262144) (hd : d.size ≤ 262144) (hc : -9223372036854775808 ≤ c ∧ c ≤ 9223372036854775807) (ht : -9223372036854775808 ≤ t ∧ t ≤ 9223372036854775807) (hk : (readT s).1 = 0) (hcl : cls d = 0) :
    Calls Tryz.prog 5 #[.string s, .string d, .int .i64 c, .int .i64 t] w fun e w' => e = .returned (.bool true) ∧ Below w.heap.size w w' := by
  have HC : Hid (Calls _ _ _ w _) := dcomp_good s w hm hL (by unfold maxLen; omega) hk
  have HP : Hid (∀ W : World, Calls Tryz.prog 12 #[.string d] W fun e w' => e = .returned (.tuple #[.agg (hdr d), .int .u8 0]) ∧ Below W.heap.size W w') := fun W => (refParse_any d W (by unfold maxLen; omega)).mono fun e w' ⟨he, hb⟩ => ⟨by rw [he]; unfold parsedAs; rw [if_pos hcl, hcl], hb⟩
  rw [hdr_is] at HP
  have hF := fine_of hcl
  have HT : Hid (∀ W : World, Calls Tryz.prog 13 #[.int .i64 t, .int .i64 3] W fun e w' => e = .returned (.int .i64 (lpk t 3)) ∧ w' = W) := fun W => lpick_any t 3 W ht (by omega)
  have HI : Hid (∀ W : World, Calls Tryz.prog 13 #[.int .i64 c, .int .i64 256] W fun e w' => e = .returned (.int .i64 (lpk c 256)) ∧ w' = W) := fun W => lpick_any c 256 W hc (by omega)
  have bt := lpk_bd t 3 (by omega)
  have bc := lpk_bd c 256 (by omega)
  generalize lpk t 3 = st at HT bt
  generalize lpk c 256 = ic at HI bc
  have HR : Hid (∀ W : World, Calls Tryz.prog 9 #[.string s] W fun e w' => ∃ (rp : Option Addr) (rl rc B : Nat), e = .returned (.tuple #[.agg #[.int .i64 ((readT s).2.2.pol : Int), .slice rp rl rc], .int .i64 0, .int .i64 ((readT s).2.1 : Int)]) ∧ w'.ownsRow B 65 24 (.slice rp rl rc) (readT s).2.2.rs.length (docRules (readT s).2.2.rs) ∧ Below W.heap.size W w') := fun W => (dread_any s W (by unfold maxLen; omega)).mono fun e w' ⟨pol, rp, rl, rc, B, he, _, h, hb⟩ => by
    obtain ⟨rfl, ho⟩ := h hk
    exact ⟨rp, rl, rc, B, by rw [he, hk]; rfl, ho, hb⟩
  have hgb := read_good s
  obtain ⟨z, hz⟩ := book_goes (readT s).2.2 hgb d (ic, st) (by omega) hF.len (by dsimp only; omega) (by dsimp only; omega)
  rw [verd_two hF (ic, st) (by dsimp only; omega) _ _ hgb.rs] at hz
  have hFine := book_fine _ _ hgb (book_code _ hgb)
  have HX : Hid (∀ W : World, Calls Tryz.prog 15 #[.string (codeT s), .string d, .agg #[.int .u32 ic, .int .u32 st]] W fun e w' => e = .returned (.tuple #[.int .i64 (docV (readT s).2.2.pol (numv d 26 4) (numv d 30 4) (nth d 23) (spOf d) (dpOf d) (flOf d) (ic, st) (readT s).2.2.rs : Int), .int .i64 z, .int .i64 0]) ∧ Below W.heap.size W w') := fun W => rexec_run (codeT s) d _ (ic, st) _ z 0 W hFine.toFormed hz hd (by dsimp only; omega) (by dsimp only; omega)
  have HV : Hid (∀ (W : World) (rp : Option Addr) (rl rc B : Nat), W.ownsRow B 65 24 (.slice rp rl rc) (readT s).2.2.rs.length (docRules (readT s).2.2.rs) → Calls Tryz.prog 14 #[.agg #[.int .i64 ((readT s).2.2.pol : Int), .slice rp rl rc], .agg #[.int .u32 (numv d 26 4), .int .u32 (numv d 30 4), .int .u8 (nth d 23), .int .u16 (spOf d), .int .u16 (dpOf d), .int .u8 (flOf d)], .int .i64 ic, .int .i64 st] W fun e w' => e = .returned (.int .i64 (docV (readT s).2.2.pol (numv d 26 4) (numv d 30 4) (nth d 23) (spOf d) (dpOf d) (flOf d) (ic, st) (readT s).2.2.rs : Int)) ∧ Below W.heap.size W w') := fun W rp rl rc B h => dverdict_any (readT s).2.2.pol (readT s).2.2.rs rp rl rc B _ _ _ _ _ _ (ic, st) W h hgb.len hgb.rs (numv_bd4 d 26 4 (by omega)) (numv_bd4 d 30 4 (by omega)) (nth_bd d 23) (spOf_bd d) (dpOf_bd d) (flOf_bd d) (by dsimp only; omega)
  generalize docV (readT s).2.2.pol (numv d 26 4) (numv d 30 4) (nth d 23) (spOf d) (dpOf d) (flOf d) (ic, st) (readT s).2.2.rs = ver at HX HV
  generalize numv d 26 4 = x0 at HP HV
  generalize numv d 30 4 = x1 at HP HV
  generalize nth d 23 = x2 at HP HV
  generalize spOf d = x3 at HP HV
  generalize dpOf d = x4 at HP HV
  generalize flOf d = x5 at HP HV
  generalize docRules (readT s).2.2.rs = dr at HR HV
  generalize (readT s).2.2.rs.length = dn at HR HV
  generalize (readT s).2.2.pol = dp at HR HV
  generalize (readT s).2.1 = dl at HR
  obtain ⟨cd, hcd⟩ : ∃ cd, codeT s = cd := ⟨_, rfl⟩
  have HD : Hid (codeT s = cd) := hcd
  rw [hcd] at HC HX
  have h1 : ¬ (262144 : Int) < (s.size : Int) := by omega
  have h2 : ¬ (262144 : Int) < (d.size : Int) := by omega
  have d1 : decide ((262144 : Int) < (s.size : Int)) = false := by simp; omega
  have d2 : decide ((262144 : Int) < (d.size : Int)) = false := by simp; omega
  have hsn : ∀ (W : World) (g n c : Nat), (binOp .eql 32 (.slice (some ⟨g, 0, none⟩) n c) (.slice none 0 0)).run Tryz.prog W = .ok (.bool false) W := fun W g n c => by kernel_rfl
  have w1' : IntKind.u32.wrap ic = ic := by rw [IntKind.wrap_u32]; omega
  have w2' : IntKind.u32.wrap st = st := by rw [IntKind.wrap_u32]; omega
  clear hL hm hs hd hk hcl hF hz hFine hgb hcd hc ht
  go_enter Tryz.func5, Tryz.ntmps5
  go_wp2_with fail
  refine HC.out.mono ?_
  rintro e w1 ⟨g, cc, rfl, ho⟩
  have O1 : Hid (CompOut s w g cc w1) := ho
  clear ho
  go_wp2_with fail
  refine (HP.out _).mono ?_
  rintro e w2 ⟨rfl, hb2⟩
  have B2 : Hid (Below w1.heap.size w1 w2) := hb2
  clear hb2
  go_wp2_with fail
  have B3 : Hid (Below w1.heap.size w1 (w2.alloc (.cells #[.int .u32 x0, .int .u32 x1, .int .u8 x2, .int .u16 x3, .int .u16 x4, .int .u8 x5] 38))) := B2.out.alloc B2.out.size _
  have HH : Hid (∀ i x, (#[.int .u32 x0, .int .u32 x1, .int .u8 x2, .int .u16 x3, .int .u16 x4, .int .u8 x5] : Array Value)[i]? = some x → (w2.alloc (.cells #[.int .u32 x0, .int .u32 x1, .int .u8 x2, .int .u16 x3, .int .u16 x4, .int .u8 x5] 38)).cell? ⟨w2.heap.size, i, none⟩ = some x) := fun i x hx => by
    rw [World.cell?_alloc_at _ _ _ _ rfl]; exact hx
  have z3 : w2.heap.size < (w2.alloc (.cells #[.int .u32 x0, .int .u32 x1, .int .u8 x2, .int .u16 x3, .int .u16 x4, .int .u8 x5] 38)).heap.size := by simp
  generalize w2.alloc (.cells #[.int .u32 x0, .int .u32 x1, .int .u8 x2, .int .u16 x3, .int .u16 x4, .int .u8 x5] 38) = W3 at B3 HH z3 ⊢
  refine (HT.out _).mono ?_
  rintro e w4 ⟨rfl, h4⟩
  obtain rfl : W3 = w4 := h4.symm
  clear h4
  go_wp2_with fail
  refine (HI.out _).mono ?_
  rintro e w4 ⟨rfl, h4⟩
  obtain rfl : W3 = w4 := h4.symm
  clear h4
  go_wp2_with fail
  refine (HR.out _).mono ?_
  rintro e w5 ⟨rp, rl, rc, B, rfl, ho5, hb5⟩
  have B5 : Hid (Below W3.heap.size W3 w5) := hb5
  have O5 : Hid (w5.ownsRow B 65 24 (.slice rp rl rc) dn dr) := ho5
  have g0 := (hb5.cell (p := ⟨w2.heap.size, 0, none⟩) z3).trans (HH.out 0 _ rfl)
  have g1 := (hb5.cell (p := ⟨w2.heap.size, 1, none⟩) z3).trans (HH.out 1 _ rfl)
  have g2 := (hb5.cell (p := ⟨w2.heap.size, 2, none⟩) z3).trans (HH.out 2 _ rfl)
  have g3 := (hb5.cell (p := ⟨w2.heap.size, 3, none⟩) z3).trans (HH.out 3 _ rfl)
  have g4 := (hb5.cell (p := ⟨w2.heap.size, 4, none⟩) z3).trans (HH.out 4 _ rfl)
  have g5 := (hb5.cell (p := ⟨w2.heap.size, 5, none⟩) z3).trans (HH.out 5 _ rfl)
  have z5 := hb5.size
  have n5 : w2.heap.size ≠ w5.heap.size := by omega
  have n6 : w2.heap.size < w5.heap.size := by omega
  clear hb5 ho5
  go_wp2_with fail
  refine (HV.out _ rp rl rc B (O5.out.alloc _)).mono ?_
  rintro e w6 ⟨rfl, hb6⟩
  have B6 : Hid (Below w1.heap.size w1 w6) := (B3.out.trans ((B5.out.alloc B5.out.size _).mono B3.out.size)).trans (hb6.mono (by simp; have := B3.out.size; omega))
  have Q6 : Row w6 g 0 cd := by rw [← HD.out]; exact d_row O1.out.row B6.out O1.out.hi
  have hcv := row_conv Q6 cc
  clear hb6 Q6
  go_wp2_with fail
  refine (HX.out _).mono ?_
  rintro e w7 ⟨rfl, hb7⟩
  have B7 : Hid (Below w.heap.size w w7) := (O1.out.b.trans (B6.out.mono O1.out.b.size)).trans (hb7.mono (by have := O1.out.b.size; have := B6.out.size; omega))
  clear hb7 hcv
  go_wp2_with fail
  go_ret
  exact ⟨by simp, B7.out⟩
theorem matches_any (s d : ByteArray) (c t : Int) (w : World) (hL : Laid w) (hm : MaxL w) (hs : s.size ≤ maxLen) (hd : d.size ≤ maxLen) (hc : -9223372036854775808 ≤ c ∧ c ≤ 9223372036854775807) (ht : -9223372036854775808 ≤ t ∧ t ≤ 9223372036854775807) :
    Calls Tryz.prog 5 #[.string s, .string d, .int .i64 c, .int .i64 t] w fun e w' => e = .returned (.bool true) ∧ Below w.heap.size w w' := by
  unfold maxLen at hs hd
  by_cases h1 : s.size ≤ 262144
  · by_cases h2 : d.size ≤ 262144
    · by_cases hk : (readT s).1 = 0
      · by_cases hcl : cls d = 0
        · exact matches_fine s d c t w hL hm h1 h2 hc ht hk hcl
        · exact matches_class s d c t w hL hm h1 h2 hk hcl
      · exact matches_bad s d c t w hL hm h1 h2 hk
    · have d1 : decide ((262144 : Int) < (s.size : Int)) = false := by simp; omega
      have d2 : (262144 : Int) < (d.size : Int) := by omega
      have d3 : decide ((262144 : Int) < (d.size : Int)) = true := by simp; omega
      clear hL hm h1 h2 hc ht
      go_enter Tryz.func5, Tryz.ntmps5
      go_wp2_with fail
      go_ret
      exact ⟨rfl, Below.refl _ _⟩
  · have d1 : decide ((262144 : Int) < (s.size : Int)) = true := by simp; omega
    clear hL hm h1 hc ht
    go_enter Tryz.func5, Tryz.ntmps5
    go_wp2_with fail
    go_ret
    exact ⟨rfl, Below.refl _ _⟩
end Go.Proofs.YtclpnafiiobfhaaGreatDoor

import Derived.Test.YtclpnafiiobfhaaDoorBuilt
namespace Go.Proofs.YtclpnafiiobfhaaDoor
open Go.RowKit
set_option linter.unusedVariables false
set_option linter.unusedSimpArgs false

set_option maxHeartbeats 800000 in
theorem header_any (a b c d : Int) (w : World) :
    Calls Tryd.prog 10 #[.int .i64 a, .int .i64 b, .int .i64 c, .int .i64 d] w fun e w' => (∃ x0 x1 x2 x3 x4 x5 : Int, e = .returned (.agg #[.int .u32 x0, .int .u32 x1, .int .u8 x2, .int .u16 x3, .int .u16 x4, .int .u8 x5]) ∧ (0 ≤ x0 ∧ x0 ≤ 4294967295) ∧ (0 ≤ x1 ∧ x1 ≤ 4294967295) ∧ (0 ≤ x2 ∧ x2 ≤ 255) ∧ (0 ≤ x3 ∧ x3 ≤ 65535) ∧ (0 ≤ x4 ∧ x4 ≤ 65535) ∧ (0 ≤ x5 ∧ x5 ≤ 255)) ∧ Below w.heap.size w w' := by
  go_enter Tryd.func10, Tryd.ntmps10
  go_wp2
  refine bodyPost_ret (v := .agg #[.int .u32 (a % 4294967296), .int .u32 (b % 4294967296), .int .u8 (d % 256), .int .u16 (IntKind.u16.wrap c), .int .u16 (IntKind.u16.wrap (c / 65536)), .int .u8 (c / 4294967296 % 256)]) (by simp [results, Tryd.results10, go_sem]) rfl ⟨⟨_, _, _, _, _, _, rfl, by omega, by omega, by omega, by rw [IntKind.wrap_u16]; omega, by rw [IntKind.wrap_u16]; omega, by omega⟩, ?_⟩
  exact ((Below.refl _ _).alloc (Nat.le_refl _) _).alloc (by simp) _

theorem built_any (a b p sp dp f : Int) (s : ByteArray) (w : World) (hL : Laid w) (hra : 0 ≤ a ∧ a ≤ 4294967295) (hrb : 0 ≤ b ∧ b ≤ 4294967295) (hrp : 0 ≤ p ∧ p ≤ 255) (hsp : 0 ≤ sp ∧ sp ≤ 65535) (hdp : 0 ≤ dp ∧ dp ≤ 65535) (hf : 0 ≤ f ∧ f ≤ 255) (hs : s.size ≤ 262144) :
    Calls Tryd.prog 11 #[.agg #[.int .u32 a, .int .u32 b, .int .u8 p, .int .u16 sp, .int .u16 dp, .int .u8 f], .string s] w fun e w' => e = .returned (.bool true) ∧ Below w.heap.size w w' := by
  by_cases h : 1000 < s.size
  · exact built_no a b p sp dp f s w hL hs (.inl h)
  · cases hm : mayB p sp dp f
    · exact built_no a b p sp dp f s w hL hs (.inr hm)
    · have hz := isz_bd p
      exact built_yes a b p sp dp f s w hL hra hrb hrp hsp hdp hf (by omega) hm (34 + isz p).toNat (by omega)

set_option maxHeartbeats 800000 in
theorem builds_any (a b c d : Int) (s : ByteArray) (w : World) (hL : Laid w) (hm : s.size ≤ maxLen) :
    Calls Tryd.prog 4 #[.int .i64 a, .int .i64 b, .int .i64 c, .int .i64 d, .string s] w fun e w' => e = .returned (.bool true) ∧ Below w.heap.size w w' := by
  have HL : Hid (Laid w) := hL
  unfold maxLen at hm
  clear hL
  by_cases h : 262144 < s.size
  · have h' : (262144 : Int) < (s.size : Int) := by omega
    go_enter Tryd.func4, Tryd.ntmps4
    go_wp2
    go_ret
    exact ⟨rfl, Below.refl _ _⟩
  · have h' : (s.size : Int) ≤ 262144 := by omega
    go_enter Tryd.func4, Tryd.ntmps4
    go_wp2_with fail
    refine (header_any a b c d _).mono ?_
    rintro e w1 ⟨⟨x0, x1, x2, x3, x4, x5, rfl, h0, h1, h2, h3, h4, h5⟩, hb1⟩
    have B1 : Hid (Below w.heap.size w w1) := hb1
    have z1 := hb1.size
    clear hb1
    go_wp2_with fail
    refine (built_any x0 x1 x2 x3 x4 x5 s _ ((HL.out.below B1.out).alloc _) h0 h1 h2 h3 h4 h5 (by omega)).mono ?_
    rintro e w2 ⟨rfl, hb2⟩
    go_wp2
    go_ret
    exact ⟨rfl, (B1.out.alloc z1 _).trans (hb2.mono (by simp; omega))⟩
end Go.Proofs.YtclpnafiiobfhaaDoor

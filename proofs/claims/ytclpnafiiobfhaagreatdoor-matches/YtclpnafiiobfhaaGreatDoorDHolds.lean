import Derived.Test.YtclpnafiiobfhaaGreatDoorDRule
import Derived.Test.YtclpnafiiobfhaaGreatDoorDVerd
import Derived.Deep.QuietTactic
import Derived.BigQuiet
namespace Go.Proofs.YtclpnafiiobfhaaGreatDoor
open Go.RowKit
set_option linter.unusedVariables false
set_option linter.unusedSimpArgs false

set_option maxHeartbeats 1600000 in
theorem dwithin_any (a : Int) (net n : Nat) (w : World) (ha : 0 ≤ a ∧ a ≤ 4294967295) (hn : n ≤ 32) (ht : net < 4294967296) :
    Calls Tryz.prog 51 #[.int .u32 a, .int .i64 (net : Int), .int .i64 (n : Int)] w fun e w' => e = .returned (.bool (a.toNat / 2 ^ (32 - n) == net / 2 ^ (32 - n))) ∧ ∃ q, w' = w.drewN q := by
  obtain ⟨k, hk⟩ : ∃ k : Int, 32 - (n : Int) = k := ⟨_, rfl⟩
  have i1 : IntKind.i64.wrap (32 - (n : Int)) = k := by rw [IntKind.wrap_i64]; omega
  have i2 : (0 : Int) ≤ k := by omega
  have i3 : k ≤ 32 := by omega
  have i4 : IntKind.i64.wrap a = a := by rw [IntKind.wrap_i64]; omega
  go_enter Tryz.func51, Tryz.ntmps51
  go_upto_region 1 with fail
  go_quiet (fail)
  go_wp2_with fail
  go_ret
  refine ⟨?_, _, rfl⟩
  have e1 : k.toNat = 32 - n := by omega
  have e2 : a = ((a.toNat : Nat) : Int) := by omega
  show Ending.returned (.bool (a / 2 ^ k.toNat == (net : Int) / 2 ^ k.toNat)) = _
  rw [e1, e2]
  congr 2
  generalize a.toNat = x
  generalize 32 - n = y
  rw [Bool.eq_iff_iff, beq_iff_eq, beq_iff_eq]
  have h2 : (2 : Int) ^ y = ((2 ^ y : Nat) : Int) := by simp
  rw [h2, Int.toNat_natCast]
  constructor
  · intro q; exact Int.ofNat.inj (by simpa using q)
  · intro q
    have : ((x / 2 ^ y : Nat) : Int) = ((net / 2 ^ y : Nat) : Int) := by rw [q]
    simpa using this
theorem and_in2 (A B : Nat) (ha : A ≤ 255) (hb : B ≤ 255) : bits BinOp.and IntKind.i64 (A : Int) (B : Int) = ((A &&& B : Nat) : Int) := by
  have hx : A &&& B < 2 ^ 32 := Nat.and_lt_two_pow _ (by omega)
  show IntKind.i64.wrap ((BitVec.ofInt 64 (A : Int) &&& BitVec.ofInt 64 (B : Int)).toNat : Int) = _
  rw [BitVec.toNat_and, ofInt_u64 A (by omega), ofInt_u64 B (by omega), IntKind.wrap_i64]
  omega
/-- a row of values, from a place in a block on -/
def At (w : World) (g off : Nat) (L : List Value) : Prop := ∀ i x, L[i]? = some x → w.cell? ⟨g, off + i, none⟩ = some x
theorem At.below {w w' : World} {g off B : Nat} {L : List Value} (h : At w g off L) (hb : Below B w w') (hg : g < B) : At w' g off L := fun i x hx => (hb.cell (p := ⟨g, off + i, none⟩) hg).trans (h i x hx)
set_option maxHeartbeats 1600000 in
theorem dholds_0 (g off : Nat) (v : Int) (cs : Cs) (u : List Nat) (a b p sp dp f : Int) (m : Int × Int) (w : World) (hA : At w g off (docCells v cs)) (hg : g < w.heap.size) (hu : cs.getD 0 none = some u) : Calls Tryz.prog 33 #[.pointer (some ⟨g, off, none⟩), .int .i64 0, .agg #[.int .u32 a, .int .u32 b, .int .u8 p, .int .u16 sp, .int .u16 dp, .int .u8 f], .int .i64 m.1, .int .i64 m.2] w fun e w' => e = .returned (.bool (docC 0 u a b p sp dp f m)) ∧ Below w.heap.size w w' := by
  have c := hA 9 (.int .i64 (n0 u 0)) (by show some (cvO (cs.getD 0 none) 0) = _; rw [hu]; rfl)
  have hgn : g ≠ w.heap.size := by omega
  have HE : Hid (docC 0 u a b p sp dp f m = (m.1 == n0 u 0)) := rfl
  generalize n0 u 0 = x at c HE
  obtain ⟨m1, m2⟩ := m
  dsimp only at HE ⊢
  clear hA hu
  go_enter Tryz.func33, Tryz.ntmps33
  go_wp2_with fail
  go_ret
  exact ⟨by rw [HE.out]; rfl, (Below.refl _ _).alloc (Nat.le_refl _) _⟩
set_option maxHeartbeats 1600000 in
theorem dholds_1 (g off : Nat) (v : Int) (cs : Cs) (u : List Nat) (a b p sp dp f : Int) (m : Int × Int) (w : World) (hA : At w g off (docCells v cs)) (hg : g < w.heap.size) (hgood : GoodCs cs) (hx : 0 ≤ a ∧ a ≤ 4294967295) (hu : cs.getD 1 none = some u) : Calls Tryz.prog 33 #[.pointer (some ⟨g, off, none⟩), .int .i64 1, .agg #[.int .u32 a, .int .u32 b, .int .u8 p, .int .u16 sp, .int .u16 dp, .int .u8 f], .int .i64 m.1, .int .i64 m.2] w fun e w' => e = .returned (.bool (docC 1 u a b p sp dp f m)) ∧ Below w.heap.size w w' := by
  obtain ⟨net, n, hn⟩ : ∃ net n : Nat, u = [net, n] ∧ net < 4294967296 ∧ n ≤ 32 := by
    have := hgood.2 1 u hu
    unfold Good at this
    simp at this
    obtain ⟨x, y, rfl, h1, h2, _⟩ := this
    exact ⟨x, y, rfl, h1, h2⟩
  obtain ⟨rfl, hnet, hn32⟩ := hn
  have c1 := hA 10 (.int .i64 (net : Int)) (by show some (cvO (cs.getD 1 none) 0) = _; rw [hu]; rfl)
  have c2 := hA 12 (.int .i64 (n : Int)) (by show some (cvO (cs.getD 1 none) 1) = _; rw [hu]; rfl)
  have hgn : g ≠ w.heap.size := by omega
  have HW : Hid (∀ W : World, Calls Tryz.prog 51 #[.int .u32 a, .int .i64 (net : Int), .int .i64 (n : Int)] W fun e w' => e = .returned (.bool (docC 1 [net, n] a b p sp dp f m)) ∧ ∃ q, w' = W.drewN q) := fun W => dwithin_any a net n W hx hn32 hnet
  obtain ⟨m1, m2⟩ := m
  generalize docC 1 [net, n] a b p sp dp f (m1, m2) = r at HW ⊢
  dsimp only
  clear hA hu hgood hnet hn32
  go_enter Tryz.func33, Tryz.ntmps33
  go_upto_region 5 with fail
  go_quiet (first | (go_at_call 51; refine Calls.quiet_of (HW.out _)))
  go_wp2_with fail
  go_ret
  exact ⟨rfl, dbelow_drewN ((Below.refl _ _).alloc (Nat.le_refl _) _) _⟩
set_option maxHeartbeats 1600000 in
theorem dholds_2 (g off : Nat) (v : Int) (cs : Cs) (u : List Nat) (a b p sp dp f : Int) (m : Int × Int) (w : World) (hA : At w g off (docCells v cs)) (hg : g < w.heap.size) (hgood : GoodCs cs) (hx : 0 ≤ b ∧ b ≤ 4294967295) (hu : cs.getD 2 none = some u) : Calls Tryz.prog 33 #[.pointer (some ⟨g, off, none⟩), .int .i64 2, .agg #[.int .u32 a, .int .u32 b, .int .u8 p, .int .u16 sp, .int .u16 dp, .int .u8 f], .int .i64 m.1, .int .i64 m.2] w fun e w' => e = .returned (.bool (docC 2 u a b p sp dp f m)) ∧ Below w.heap.size w w' := by
  obtain ⟨net, n, hn⟩ : ∃ net n : Nat, u = [net, n] ∧ net < 4294967296 ∧ n ≤ 32 := by
    have := hgood.2 2 u hu
    unfold Good at this
    simp at this
    obtain ⟨x, y, rfl, h1, h2, _⟩ := this
    exact ⟨x, y, rfl, h1, h2⟩
  obtain ⟨rfl, hnet, hn32⟩ := hn
  have c1 := hA 11 (.int .i64 (net : Int)) (by show some (cvO (cs.getD 2 none) 0) = _; rw [hu]; rfl)
  have c2 := hA 13 (.int .i64 (n : Int)) (by show some (cvO (cs.getD 2 none) 1) = _; rw [hu]; rfl)
  have hgn : g ≠ w.heap.size := by omega
  have HW : Hid (∀ W : World, Calls Tryz.prog 51 #[.int .u32 b, .int .i64 (net : Int), .int .i64 (n : Int)] W fun e w' => e = .returned (.bool (docC 2 [net, n] a b p sp dp f m)) ∧ ∃ q, w' = W.drewN q) := fun W => dwithin_any b net n W hx hn32 hnet
  obtain ⟨m1, m2⟩ := m
  generalize docC 2 [net, n] a b p sp dp f (m1, m2) = r at HW ⊢
  dsimp only
  clear hA hu hgood hnet hn32
  go_enter Tryz.func33, Tryz.ntmps33
  go_upto_region 7 with fail
  go_quiet (first | (go_at_call 51; refine Calls.quiet_of (HW.out _)))
  go_wp2_with fail
  go_ret
  exact ⟨rfl, dbelow_drewN ((Below.refl _ _).alloc (Nat.le_refl _) _) _⟩
set_option maxHeartbeats 1600000 in
theorem dholds_3 (g off : Nat) (v : Int) (cs : Cs) (u : List Nat) (a b p sp dp f : Int) (m : Int × Int) (w : World) (hA : At w g off (docCells v cs)) (hg : g < w.heap.size) (hx : 0 ≤ p ∧ p ≤ 255) (hu : cs.getD 3 none = some u) : Calls Tryz.prog 33 #[.pointer (some ⟨g, off, none⟩), .int .i64 3, .agg #[.int .u32 a, .int .u32 b, .int .u8 p, .int .u16 sp, .int .u16 dp, .int .u8 f], .int .i64 m.1, .int .i64 m.2] w fun e w' => e = .returned (.bool (docC 3 u a b p sp dp f m)) ∧ Below w.heap.size w w' := by
  have c := hA 14 (.int .i64 (n0 u 0)) (by show some (cvO (cs.getD 3 none) 0) = _; rw [hu]; rfl)
  have hgn : g ≠ w.heap.size := by omega
  have HE : Hid (docC 3 u a b p sp dp f m = (p == n0 u 0)) := rfl
  have i1 : IntKind.i64.wrap p = p := by rw [IntKind.wrap_i64]; omega
  generalize n0 u 0 = x at c HE
  obtain ⟨m1, m2⟩ := m
  dsimp only at HE ⊢
  clear hA hu hx
  go_enter Tryz.func33, Tryz.ntmps33
  go_upto_region 9 with fail
  go_quiet (fail)
  go_wp2_with fail
  go_ret
  exact ⟨by rw [HE.out]; rfl, dbelow_drewN ((Below.refl _ _).alloc (Nat.le_refl _) _) _⟩
set_option maxHeartbeats 1600000 in
theorem dholds_4 (g off : Nat) (v : Int) (cs : Cs) (u : List Nat) (a b p sp dp f : Int) (m : Int × Int) (w : World) (hA : At w g off (docCells v cs)) (hg : g < w.heap.size) (hx : 0 ≤ sp ∧ sp ≤ 65535) (hu : cs.getD 4 none = some u) : Calls Tryz.prog 33 #[.pointer (some ⟨g, off, none⟩), .int .i64 4, .agg #[.int .u32 a, .int .u32 b, .int .u8 p, .int .u16 sp, .int .u16 dp, .int .u8 f], .int .i64 m.1, .int .i64 m.2] w fun e w' => e = .returned (.bool (docC 4 u a b p sp dp f m)) ∧ Below w.heap.size w w' := by
  have c1 := hA 15 (.int .i64 (n0 u 0)) (by show some (cvO (cs.getD 4 none) 0) = _; rw [hu]; rfl)
  have c2 := hA 17 (.int .i64 (n0 u 1)) (by show some (cvO (cs.getD 4 none) 1) = _; rw [hu]; rfl)
  have hgn : g ≠ w.heap.size := by omega
  have HE : Hid (docC 4 u a b p sp dp f m = (decide (n0 u 0 ≤ sp) && decide (sp ≤ n0 u 1))) := rfl
  have i1 : IntKind.i64.wrap sp = sp := by rw [IntKind.wrap_i64]; omega
  generalize n0 u 0 = x at c1 HE
  generalize n0 u 1 = y at c2 HE
  obtain ⟨m1, m2⟩ := m
  dsimp only at HE ⊢
  clear hA hu hx
  by_cases hq : x ≤ sp
  · have d1 : decide (x ≤ sp) = true := by simpa using hq
    rw [d1] at HE
    go_enter Tryz.func33, Tryz.ntmps33
    go_upto_region 11 with fail
    go_quiet (fail)
    go_wp2_with fail
    go_ret
    exact ⟨by rw [HE.out]; rfl, dbelow_drewN ((Below.refl _ _).alloc (Nat.le_refl _) _) _⟩
  · have d1 : decide (x ≤ sp) = false := by simpa using hq
    rw [d1] at HE
    go_enter Tryz.func33, Tryz.ntmps33
    go_upto_region 11 with fail
    go_quiet (fail)
    go_wp2_with fail
    go_ret
    exact ⟨by rw [HE.out]; rfl, dbelow_drewN ((Below.refl _ _).alloc (Nat.le_refl _) _) _⟩
set_option maxHeartbeats 1600000 in
theorem dholds_5 (g off : Nat) (v : Int) (cs : Cs) (u : List Nat) (a b p sp dp f : Int) (m : Int × Int) (w : World) (hA : At w g off (docCells v cs)) (hg : g < w.heap.size) (hx : 0 ≤ dp ∧ dp ≤ 65535) (hu : cs.getD 5 none = some u) : Calls Tryz.prog 33 #[.pointer (some ⟨g, off, none⟩), .int .i64 5, .agg #[.int .u32 a, .int .u32 b, .int .u8 p, .int .u16 sp, .int .u16 dp, .int .u8 f], .int .i64 m.1, .int .i64 m.2] w fun e w' => e = .returned (.bool (docC 5 u a b p sp dp f m)) ∧ Below w.heap.size w w' := by
  have c1 := hA 16 (.int .i64 (n0 u 0)) (by show some (cvO (cs.getD 5 none) 0) = _; rw [hu]; rfl)
  have c2 := hA 18 (.int .i64 (n0 u 1)) (by show some (cvO (cs.getD 5 none) 1) = _; rw [hu]; rfl)
  have hgn : g ≠ w.heap.size := by omega
  have HE : Hid (docC 5 u a b p sp dp f m = (decide (n0 u 0 ≤ dp) && decide (dp ≤ n0 u 1))) := rfl
  have i1 : IntKind.i64.wrap dp = dp := by rw [IntKind.wrap_i64]; omega
  generalize n0 u 0 = x at c1 HE
  generalize n0 u 1 = y at c2 HE
  obtain ⟨m1, m2⟩ := m
  dsimp only at HE ⊢
  clear hA hu hx
  by_cases hq : x ≤ dp
  · have d1 : decide (x ≤ dp) = true := by simpa using hq
    rw [d1] at HE
    go_enter Tryz.func33, Tryz.ntmps33
    go_upto_region 13 with fail
    go_quiet (fail)
    go_wp2_with fail
    go_ret
    exact ⟨by rw [HE.out]; rfl, dbelow_drewN ((Below.refl _ _).alloc (Nat.le_refl _) _) _⟩
  · have d1 : decide (x ≤ dp) = false := by simpa using hq
    rw [d1] at HE
    go_enter Tryz.func33, Tryz.ntmps33
    go_upto_region 13 with fail
    go_quiet (fail)
    go_wp2_with fail
    go_ret
    exact ⟨by rw [HE.out]; rfl, dbelow_drewN ((Below.refl _ _).alloc (Nat.le_refl _) _) _⟩
set_option maxHeartbeats 1600000 in
theorem dholds_6 (g off : Nat) (v : Int) (cs : Cs) (u : List Nat) (a b p sp dp f : Int) (m : Int × Int) (w : World) (hA : At w g off (docCells v cs)) (hg : g < w.heap.size) (hgood : GoodCs cs) (hx : 0 ≤ f ∧ f ≤ 255) (hu : cs.getD 6 none = some u) : Calls Tryz.prog 33 #[.pointer (some ⟨g, off, none⟩), .int .i64 6, .agg #[.int .u32 a, .int .u32 b, .int .u8 p, .int .u16 sp, .int .u16 dp, .int .u8 f], .int .i64 m.1, .int .i64 m.2] w fun e w' => e = .returned (.bool (docC 6 u a b p sp dp f m)) ∧ Below w.heap.size w w' := by
  obtain ⟨mk, wt, rfl, hmk⟩ : ∃ mk wt : Nat, u = [mk, wt] ∧ mk ≤ 63 := by
    have := hgood.2 6 u hu
    unfold Good at this
    simp at this
    obtain ⟨x, y, rfl, h1, _⟩ := this
    exact ⟨x, y, rfl, h1⟩
  have c1 := hA 19 (.int .i64 (mk : Int)) (by show some (cvO (cs.getD 6 none) 0) = _; rw [hu]; rfl)
  have c2 := hA 20 (.int .i64 (wt : Int)) (by show some (cvO (cs.getD 6 none) 1) = _; rw [hu]; rfl)
  have hgn : g ≠ w.heap.size := by omega
  obtain ⟨F, hF⟩ : ∃ F : Nat, f = (F : Int) := ⟨f.toNat, by omega⟩
  subst hF
  have hF : F ≤ 255 := by omega
  have HE : Hid (docC 6 [mk, wt] a b p sp dp (F : Int) m = (((F &&& mk : Nat) : Int) == (wt : Int))) := rfl
  have i1 : IntKind.i64.wrap (F : Int) = (F : Int) := by rw [IntKind.wrap_i64]; omega
  have i2 : bits BinOp.and IntKind.i64 (F : Int) (mk : Int) = ((F &&& mk : Nat) : Int) := and_in2 F mk hF (by omega)
  obtain ⟨m1, m2⟩ := m
  dsimp only at HE ⊢
  generalize ((F &&& mk : Nat) : Int) = r at HE i2
  clear hA hu hx hgood
  go_enter Tryz.func33, Tryz.ntmps33
  go_upto_region 15 with fail
  go_quiet (fail)
  go_wp2_with fail
  go_ret
  exact ⟨by rw [HE.out]; rfl, dbelow_drewN ((Below.refl _ _).alloc (Nat.le_refl _) _) _⟩
set_option maxHeartbeats 1600000 in
theorem dholds_7 (g off : Nat) (v : Int) (cs : Cs) (u : List Nat) (a b p sp dp f : Int) (m : Int × Int) (w : World) (hA : At w g off (docCells v cs)) (hg : g < w.heap.size) (hm : 0 ≤ m.2 ∧ m.2 ≤ 2) (hu : cs.getD 7 none = some u) : Calls Tryz.prog 33 #[.pointer (some ⟨g, off, none⟩), .int .i64 7, .agg #[.int .u32 a, .int .u32 b, .int .u8 p, .int .u16 sp, .int .u16 dp, .int .u8 f], .int .i64 m.1, .int .i64 m.2] w fun e w' => e = .returned (.bool (docC 7 u a b p sp dp f m)) ∧ Below w.heap.size w w' := by
  obtain ⟨m1, m2⟩ := m
  obtain ⟨t, ht⟩ : ∃ t : Nat, m2 = (t : Int) := ⟨m2.toNat, by dsimp only at hm; omega⟩
  subst ht
  dsimp only at hm ⊢
  have ht3 : t ≤ 2 := by omega
  have c := hA (21 + t) (.bool (u.getD t 0 == 1)) (by
    have : t = 0 ∨ t = 1 ∨ t = 2 := by omega
    rcases this with rfl | rfl | rfl
    · show some (stO (cs.getD 7 none) 0) = _; rw [hu]; rfl
    · show some (stO (cs.getD 7 none) 1) = _; rw [hu]; rfl
    · show some (stO (cs.getD 7 none) 2) = _; rw [hu]; rfl)
  rw [← Nat.add_assoc] at c
  have hgn : g ≠ w.heap.size := by omega
  have HE : Hid (docC 7 u a b p sp dp f (m1, (t : Int)) = (u.getD t 0 == 1)) := rfl
  generalize (u.getD t 0 == 1) = x at c HE
  have i1 : (0 : Int) ≤ (t : Int) := by omega
  have i2 : (t : Int) < 3 := by omega
  clear hA hu hm
  go_enter Tryz.func33, Tryz.ntmps33
  go_wp2_with fail
  go_ret
  exact ⟨by rw [HE.out]; rfl, (Below.refl _ _).alloc (Nat.le_refl _) _⟩
theorem dholds_any (c g off : Nat) (v : Int) (cs : Cs) (u : List Nat) (a b p sp dp f : Int) (m : Int × Int) (w : World) (hc : c < 8) (hA : At w g off (docCells v cs)) (hg : g < w.heap.size) (hgood : GoodCs cs) (ha : 0 ≤ a ∧ a ≤ 4294967295) (hb : 0 ≤ b ∧ b ≤ 4294967295) (hp : 0 ≤ p ∧ p ≤ 255) (hsp : 0 ≤ sp ∧ sp ≤ 65535) (hdp : 0 ≤ dp ∧ dp ≤ 65535) (hf : 0 ≤ f ∧ f ≤ 255) (hm : 0 ≤ m.2 ∧ m.2 ≤ 2) (hu : cs.getD c none = some u) :
    Calls Tryz.prog 33 #[.pointer (some ⟨g, off, none⟩), .int .i64 (c : Int), .agg #[.int .u32 a, .int .u32 b, .int .u8 p, .int .u16 sp, .int .u16 dp, .int .u8 f], .int .i64 m.1, .int .i64 m.2] w fun e w' => e = .returned (.bool (docC c u a b p sp dp f m)) ∧ Below w.heap.size w w' := by
  have h8 : c = 0 ∨ c = 1 ∨ c = 2 ∨ c = 3 ∨ c = 4 ∨ c = 5 ∨ c = 6 ∨ c = 7 := by omega
  rcases h8 with rfl | rfl | rfl | rfl | rfl | rfl | rfl | rfl
  · exact dholds_0 g off v cs u a b p sp dp f m w hA hg hu
  · exact dholds_1 g off v cs u a b p sp dp f m w hA hg hgood ha hu
  · exact dholds_2 g off v cs u a b p sp dp f m w hA hg hgood hb hu
  · exact dholds_3 g off v cs u a b p sp dp f m w hA hg hp hu
  · exact dholds_4 g off v cs u a b p sp dp f m w hA hg hsp hu
  · exact dholds_5 g off v cs u a b p sp dp f m w hA hg hdp hu
  · exact dholds_6 g off v cs u a b p sp dp f m w hA hg hgood hf hu
  · exact dholds_7 g off v cs u a b p sp dp f m w hA hg hm hu
end Go.Proofs.YtclpnafiiobfhaaGreatDoor

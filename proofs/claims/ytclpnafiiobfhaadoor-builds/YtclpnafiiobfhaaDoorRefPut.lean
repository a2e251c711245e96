import Derived.Test.YtclpnafiiobfhaaDoorFrPut
namespace Go.Proofs.YtclpnafiiobfhaaDoor
open Go.RowKit
set_option linter.unusedVariables false
set_option linter.unusedSimpArgs false

theorem set2_eq (l : List Int) (k : Nat) (v : Int) (hv : 0 ≤ v ∧ v ≤ 65535) : (l.set (k + 1) (v % 256)).set k (v / 256 % 256) = set2 l k v := by
  unfold set2
  rw [List.set_comm _ _ (by omega), show v / 256 % 256 = v / 256 from by omega]
theorem set4_eq (l : List Int) (k : Nat) (v : Int) (hv : 0 ≤ v ∧ v ≤ 4294967295) : (((l.set (k + 3) (v % 256)).set (k + 2) (v / 256 % 256)).set (k + 1) (v / 256 / 256 % 256)).set k (v / 256 / 256 / 256 % 256) = set4 l k v := by
  unfold set4 set2
  rw [show v / 65536 / 256 = v / 256 / 256 / 256 % 256 from by omega, show v / 65536 % 256 = v / 256 / 256 % 256 from by omega, show v % 65536 / 256 = v / 256 % 256 from by omega, show v % 65536 % 256 = v % 256 from by omega]
  apply List.ext_getElem?
  intro j
  simp only [List.getElem?_set, List.length_set, Nat.add_assoc]
  repeat' split
  all_goals first | rfl | omega

set_option maxHeartbeats 800000 in
theorem put2_any (l : List Int) (g N cap : Nat) (k v : Int) (w : World) (hN : l.length = N) (hl : N ≤ 2000) (hb : Buf w g l) (hk : 0 ≤ k) (h : k + 2 ≤ N) (hv : 0 ≤ v ∧ v ≤ 65535) :
    Calls Tryd.prog 33 #[.slice (some ⟨g, 0, none⟩) N cap, .int .i64 k, .int .i64 2, .int .i64 v] w fun e w' => e = .returned (.tuple #[]) ∧ Tch g w w' ∧ Buf w' g (set2 l k.toNat v) := by
  obtain ⟨k, rfl⟩ := Int.eq_ofNat_of_zero_le hk
  rw [Int.toNat_natCast]
  have c0 := hb.cell k (by omega)
  have c1 := hb.cell (k + 1) (by omega)
  have f0 := hb.frozen k
  have f1 := hb.frozen (k + 1)
  have l0 : (k : Int) < (N : Int) := by omega
  have l1 : (k : Int) + 1 < (N : Int) := by omega
  have HB : Hid (Buf w g l) := hb
  clear hb hN
  go_enter Tryd.func33, Tryd.ntmps33
  go_wp2
  refine wp_loop_rounds 3 ?_
  rw [rounds_succ]
  go_wp2
  rw [rounds_succ]
  go_wp2
  rw [rounds_succ]
  go_wp2
  go_end0
  refine ⟨rfl, ((Tch.refl _ _).set _ _).set _ _, ?_⟩
  exact ((HB.out.set _ _).set _ _).congr (set2_eq l k v hv)
set_option maxHeartbeats 800000 in
theorem put4_any (l : List Int) (g N cap : Nat) (k v : Int) (w : World) (hN : l.length = N) (hl : N ≤ 2000) (hb : Buf w g l) (hk : 0 ≤ k) (h : k + 4 ≤ N) (hv : 0 ≤ v ∧ v ≤ 4294967295) :
    Calls Tryd.prog 33 #[.slice (some ⟨g, 0, none⟩) N cap, .int .i64 k, .int .i64 4, .int .i64 v] w fun e w' => e = .returned (.tuple #[]) ∧ Tch g w w' ∧ Buf w' g (set4 l k.toNat v) := by
  obtain ⟨k, rfl⟩ := Int.eq_ofNat_of_zero_le hk
  rw [Int.toNat_natCast]
  have c0 := hb.cell k (by omega)
  have c1 := hb.cell (k + 1) (by omega)
  have c2 := hb.cell (k + 2) (by omega)
  have c3 := hb.cell (k + 3) (by omega)
  have f0 := hb.frozen k
  have f2 := hb.frozen (k + 2)
  have f3 := hb.frozen (k + 3)
  have f1 := hb.frozen (k + 1)
  have l0 : (k : Int) < (N : Int) := by omega
  have l1 : (k : Int) + 1 < (N : Int) := by omega
  have l2 : (k : Int) + 2 < (N : Int) := by omega
  have l3 : (k : Int) + 3 < (N : Int) := by omega
  have HB : Hid (Buf w g l) := hb
  clear hb hN
  go_enter Tryd.func33, Tryd.ntmps33
  go_wp2
  refine wp_loop_rounds 5 ?_
  rw [rounds_succ]
  go_wp2
  rw [rounds_succ]
  go_wp2
  rw [rounds_succ]
  go_wp2
  rw [rounds_succ]
  go_wp2
  rw [rounds_succ]
  go_wp2
  go_end0
  refine ⟨rfl, ((((Tch.refl _ _).set _ _).set _ _).set _ _).set _ _, ?_⟩
  exact ((((HB.out.set _ _).set _ _).set _ _).set _ _).congr (set4_eq l k v hv)
end Go.Proofs.YtclpnafiiobfhaaDoor

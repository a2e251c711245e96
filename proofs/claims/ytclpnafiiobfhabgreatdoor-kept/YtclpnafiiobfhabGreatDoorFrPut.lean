import Derived.Test.YtclpnafiiobfhabGreatDoorBuf
import Derived.Test.YtclpnafiiobfhabGreatDoorFrEcho
namespace Go.Proofs.YtclpnafiiobfhabGreatDoor
open Go.RowKit
set_option linter.unusedVariables false
set_option linter.unusedSimpArgs false

def set2 (l : List Int) (k : Nat) (n : Int) : List Int := (l.set k (n / 256)).set (k + 1) (n % 256)
def set4 (l : List Int) (k : Nat) (n : Int) : List Int := set2 (set2 l k (n / 65536)) (k + 2) (n % 65536)
theorem set2_len (l : List Int) (k : Nat) (n : Int) : (set2 l k n).length = l.length := by simp [set2]
theorem set4_len (l : List Int) (k : Nat) (n : Int) : (set4 l k n).length = l.length := by simp [set4, set2_len]
theorem Byt.set2 {l : List Int} (h : Byt l) (k : Nat) (n : Int) (hn : 0 ≤ n ∧ n ≤ 65535) : Byt (set2 l k n) :=
  (h.set _ _ (by omega)).set _ _ (by omega)
theorem Byt.set4 {l : List Int} (h : Byt l) (k : Nat) (n : Int) (hn : 0 ≤ n ∧ n ≤ 4294967295) : Byt (set4 l k n) :=
  (h.set2 _ _ (by omega)).set2 _ _ (by omega)

set_option maxHeartbeats 400000 in
theorem putHalf_any (l : List Int) (g N cap : Nat) (k n : Int) (w : World) (hN : l.length = N) (hl : N ≤ 2000) (hb : Buf w g l) (hk : 0 ≤ k) (h : k + 2 ≤ N) (hn : 0 ≤ n ∧ n ≤ 65535) :
    Calls Tryz.prog 92 #[.slice (some ⟨g, 0, none⟩) N cap, .int .i64 k, .int .u16 n] w fun e w' => e = .returned (.tuple #[]) ∧ Tch g w w' ∧ Buf w' g (set2 l k.toNat n) := by
  obtain ⟨k, rfl⟩ := Int.eq_ofNat_of_zero_le hk
  rw [Int.toNat_natCast]
  have c0 := hb.cell k (by omega)
  have c1 := hb.cell (k + 1) (by omega)
  have f0 := hb.frozen k
  have f1 := hb.frozen (k + 1)
  have l0 : (k : Int) < (N : Int) := by omega
  have l1 : (k : Int) + 1 < (N : Int) := by omega
  have HB : Hid (Buf w g l) := hb
  have HN : Hid (l.length = N) := hN
  clear hb hN
  go_enter Tryz.func92, Tryz.ntmps92
  go_wp2
  go_end0
  refine ⟨rfl, ((Tch.refl _ _).set _ _).set _ _, ?_⟩
  exact (HB.out.set _ _).set _ _

set_option maxHeartbeats 400000 in
theorem putWord_any (l : List Int) (g N cap : Nat) (k n : Int) (w : World) (hN : l.length = N) (hl : N ≤ 2000) (hb : Buf w g l) (hk : 0 ≤ k) (h : k + 4 ≤ N) (hn : 0 ≤ n ∧ n ≤ 4294967295) :
    Calls Tryz.prog 93 #[.slice (some ⟨g, 0, none⟩) N cap, .int .i64 k, .int .u32 n] w fun e w' => e = .returned (.tuple #[]) ∧ Tch g w w' ∧ Buf w' g (set4 l k.toNat n) := by
  have HB : Hid (Buf w g l) := hb
  have HN : Hid (l.length = N) := hN
  clear hb hN
  go_enter Tryz.func93, Tryz.ntmps93
  go_wp2_with fail
  refine (putHalf_any l g N cap k (n / 65536) _ HN.out hl HB.out hk (by omega) (by omega)).mono ?_
  rintro e w1 ⟨rfl, ht1, hb1⟩
  have HB1 : Hid (Buf w1 g (set2 l k.toNat (n / 65536))) := hb1
  have HT1 : Hid (Tch g w w1) := ht1
  clear hb1 ht1
  go_wp2_with fail
  refine (putHalf_any _ g N cap (k + 2) (n % 65536) _ (by rw [set2_len]; exact HN.out) hl HB1.out (by omega) (by omega) (by omega)).mono ?_
  rintro e w2 ⟨rfl, ht2, hb2⟩
  go_wp2
  go_end0
  refine ⟨rfl, HT1.out.trans ht2, ?_⟩
  rw [show (k + 2).toNat = k.toNat + 2 from by omega] at hb2
  exact hb2
end Go.Proofs.YtclpnafiiobfhabGreatDoor

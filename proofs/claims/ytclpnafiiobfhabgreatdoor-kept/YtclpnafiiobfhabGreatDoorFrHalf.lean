import Derived.Test.YtclpnafiiobfhabGreatDoorBase
import Derived.Test.YtclpnafiiobfhabGreatDoorBits
import Derived.Test.YtclpnafiiobfhabGreatDoorProg
import Derived.WalkKit
import Derived.WalkSpells
import Derived.WalkLawsBesides
import Derived.Deep.QuietTactic
import Derived.BigQuiet
namespace Go.Proofs.YtclpnafiiobfhabGreatDoor
open Go.RowKit
set_option linter.unusedVariables false
set_option linter.unusedSimpArgs false


set_option maxHeartbeats 400000 in
theorem half_any (s : ByteArray) (b off cap : Nat) (k : Int) (w : World) (hs : s.size ≤ maxLen) (hr : Row w b off s) (hk : 0 ≤ k) (h : k + 2 ≤ s.size) :
    Calls Tryz.prog 98 #[.slice (some ⟨b, off, none⟩) s.size cap, .int .i64 k] w fun e w' => e = .returned (.int .u16 (numv s k.toNat 2)) ∧ ∃ n, w' = w.drewN n := by
  unfold maxLen at hs
  obtain ⟨k, rfl⟩ := Int.eq_ofNat_of_zero_le hk
  rw [Int.toNat_natCast]
  have c0 := hr k (by omega)
  have c1 := hr (k + 1) (by omega)
  have b0 := nth_bd s k
  have b1 := nth_bd s (k + 1)
  have l0 : (k : Int) < (s.size : Int) := by omega
  have l1 : (k : Int) + 1 < (s.size : Int) := by omega
  go_enter Tryz.func98, Tryz.ntmps98
  go_wp2
  go_quiet (fail)
  go_wp2
  go_ret
  exact ⟨ret_int (by rw [or16 _ _ b0 b1, numv_2]), nq, rfl⟩
end Go.Proofs.YtclpnafiiobfhabGreatDoor

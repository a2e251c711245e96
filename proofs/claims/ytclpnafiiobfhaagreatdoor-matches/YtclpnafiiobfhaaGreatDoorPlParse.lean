import Derived.Test.YtclpnafiiobfhaaGreatDoorPlain
namespace Go.Proofs.YtclpnafiiobfhaaGreatDoor
open Go.RowKit
set_option linter.unusedVariables false
set_option linter.unusedSimpArgs false

theorem cls_zero (s : ByteArray) (h : cls s = 0) : 34 ≤ s.size ∧ 20 ≤ numv s 16 2 ∧ numv s 16 2 ≤ (s.size : Int) - 14 ∧ inn s (numv s 16 2) = false := by
  unfold cls at h
  repeat' split at h
  all_goals first | omega | skip
  rename_i c1 c2 c3 c4 c5 c6 c7 c8 c9
  refine ⟨by omega, by omega, by omega, by simpa using c9⟩
def parsedAs (s : ByteArray) : Value := .tuple #[.agg (if cls s = 0 then hdr s else hdr0), .int .u8 (cls s)]
theorem parsedAs_form (s : ByteArray) : ∃ x0 x1 x2 x3 x4 x5 : Int, parsedAs s = .tuple #[.agg #[.int .u32 x0, .int .u32 x1, .int .u8 x2, .int .u16 x3, .int .u16 x4, .int .u8 x5], .int .u8 (cls s)] := by
  unfold parsedAs
  by_cases hc : cls s = 0
  · rw [if_pos hc]; exact ⟨_, _, _, _, _, _, rfl⟩
  · rw [if_neg hc]; exact ⟨_, _, _, _, _, _, rfl⟩
end Go.Proofs.YtclpnafiiobfhaaGreatDoor

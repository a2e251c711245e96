import Derived.Test.YtclpnafiiobfhaaGreatDoorDComp
namespace Go.Proofs.YtclpnafiiobfhaaGreatDoor
open Go.RowKit
set_option linter.unusedVariables false
set_option linter.unusedSimpArgs false

set_option maxHeartbeats 1600000 in
theorem compiles_any (s : ByteArray) (w : World) (hL : Laid w) (hm : MaxL w) (hs : s.size ≤ maxLen) :
    Calls Tryz.prog 4 #[.string s] w fun e w' => e = .returned (.bool true) ∧ Below w.heap.size w w' := by
  by_cases hz : 262144 < s.size
  · have hz' : (262144 : Int) < (s.size : Int) := by omega
    unfold maxLen at hs
    clear hz
    go_enter Tryz.func4, Tryz.ntmps4
    go_wp2_with fail
    go_ret
    exact ⟨rfl, Below.refl _ _⟩
  · have hz' : ¬ (262144 : Int) < (s.size : Int) := by omega
    have HC : Hid (Calls Tryz.prog 11 #[.string s] w fun e w' => ∃ v, e = .returned (.tuple #[v, .bool true]) ∧ Below w.heap.size w w') := by
      by_cases hk : (readT s).1 = 0
      · exact (dcomp_good s w hm hL hs hk).mono fun e w' ⟨g, c, he, ho⟩ => ⟨_, he, ho.b⟩
      · exact (dcomp_bad s w hm hL hs hk).mono fun e w' ⟨he, hb⟩ => ⟨_, he, hb⟩
    clear hz hL hm hs
    go_enter Tryz.func4, Tryz.ntmps4
    go_wp2_with fail
    refine HC.out.mono ?_
    rintro e w1 ⟨v, rfl, hb1⟩
    go_wp2_with fail
    go_ret
    exact ⟨rfl, hb1⟩
end Go.Proofs.YtclpnafiiobfhaaGreatDoor

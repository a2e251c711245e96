import Derived.Test.YtclpnafiiobfhaaGreatDoorBuf
import Derived.Test.YtclpnafiiobfhaaGreatDoorCBase
namespace Go.Proofs.YtclpnafiiobfhaaGreatDoor
open Go.RowKit
set_option linter.unusedVariables false
set_option linter.unusedSimpArgs false

/-- a block of bytes, whatever they are -/
def Raw (w : World) (g : Nat) (l : List Value) : Prop := w.heap[g]? = some (.cells l.toArray 5 (0, 0))
theorem Raw.lt {w : World} {g : Nat} {l : List Value} (h : Raw w g l) : g < w.heap.size := (Array.getElem?_eq_some_iff.1 h).1
theorem Raw.cell {w : World} {g : Nat} {l : List Value} (h : Raw w g l) (i : Nat) (hi : i < l.length) : w.cell? ⟨g, i, none⟩ = some l[i] := by
  unfold Raw at h
  simp only [World.cell?, h]
  simp [hi]
theorem Raw.frozen {w : World} {g : Nat} {l : List Value} (h : Raw w g l) (i : Nat) : w.frozen? ⟨g, i, none⟩ = false := by
  unfold Raw at h
  simp [World.frozen?, h]
theorem Raw.set {w : World} {g : Nat} {l : List Value} (h : Raw w g l) (i : Nat) (v : Value) : Raw (w.setCell ⟨g, i, none⟩ v) g (l.set i v) := by
  unfold Raw at h ⊢
  simp only [World.setCell, Array.getElem?_modify, h, if_true, Option.map_some]
  simp
theorem Raw.congr {w : World} {g : Nat} {l m : List Value} (h : Raw w g l) (e : l = m) : Raw w g m := e ▸ h
theorem Raw.below {w w' : World} {g B : Nat} {l : List Value} (h : Raw w g l) (hb : Below B w w') (hg : g < B) : Raw w' g l := by
  unfold Raw at h ⊢
  rw [hb.block g hg]; exact h
theorem raw_own {w : World} {B g n c : Nat} {xs : List Value} (h : w.ownsRow B 5 1 (.slice (some ⟨g, 0, none⟩) n c) n xs) : ∃ l, Raw w g l ∧ l.length = c ∧ n ≤ c ∧ c ≤ maxLen ∧ B ≤ g ∧ l.take n = xs := by
  rcases h.2 with ⟨e, _⟩ | ⟨g', cap, cur, e, hg, hh, hn, hm, hs, ht⟩
  · cases e
  · cases e
    exact ⟨cur.toList, by simpa [Raw] using hh, by simpa using hs, hn, hm, hg, by simpa using ht⟩
theorem vnines (l : List Value) (j : Nat) (v : Value) (h : j < l.length) : (List.replicate j v ++ l.drop j).set j v = List.replicate (j + 1) v ++ l.drop (j + 1) := by
  have e : (l.drop j).set 0 v = v :: l.drop (j + 1) := by rw [List.drop_eq_getElem_cons h]; rfl
  rw [List.set_append_right _ _ (by simp), List.length_replicate, Nat.sub_self, e]
  simp [List.replicate_succ']
set_option maxHeartbeats 800000 in
theorem spoil_any (l : List Value) (g n N : Nat) (w : World) (hN : l.length = N) (hn : n ≤ N) (hl : N ≤ maxLen) (hb : Raw w g l) :
    Calls Tryz.prog 29 #[.slice (some ⟨g, 0, none⟩) n N] w fun e w' => e = .returned (.tuple #[]) ∧ Tch g w w' ∧ Raw w' g (List.replicate N (.int .u8 99)) := by
  have HB : Hid (Raw w g l) := hb
  have HN : Hid (l.length = N) := hN
  have h9 : (N : Int) ≤ 9223372036854775807 := by unfold maxLen at hl; omega
  clear hb hN hl
  go_enter Tryz.func29, Tryz.ntmps29
  go_wp2
  go_loopw [3] (fun i wr => ∃ j : Nat, j ≤ N ∧ i = .int .i64 j ∧ Hid (Tch g w wr) ∧ Hid (Raw wr g (List.replicate j (.int .u8 99) ++ l.drop j))) (fun i _ => N - (intOf i).toNat)
  case atStart => exact ⟨0, Nat.zero_le _, rfl, Tch.refl _ _, HB.out⟩
  case round =>
    obtain ⟨j, hj, rfl, HT, HBj⟩ := hrel
    by_cases hlt : j < N
    · have cj := HBj.out.cell j (by simp [HN.out]; omega)
      have fj := HBj.out.frozen j
      have lj : (j : Int) < (N : Int) := by omega
      have i3 : IntKind.i64.wrap ((j : Int) + 1) = (j : Int) + 1 := by rw [IntKind.wrap_i64]; omega
      go_wp2
      go_roundw
      case rel => exact ⟨j + 1, by omega, by go_num, HT.out.set _ _, (HBj.out.set j (.int .u8 99)).congr (vnines l j _ (by rw [HN.out]; exact hlt))⟩
      case measure => simp [intOf]; omega
    · have e : j = N := by omega
      subst e
      go_wp2
      go_end0
      refine ⟨rfl, HT.out, HBj.out.congr ?_⟩
      rw [List.drop_eq_nil_of_le (by rw [HN.out]; exact Nat.le_refl _), List.append_nil]
set_option maxHeartbeats 800000 in
theorem stay_any (g n N : Nat) (w : World) (hn : n ≤ N) (hl : N ≤ maxLen) (hb : Raw w g (List.replicate N (.int .u8 99))) :
    Calls Tryz.prog 30 #[.slice (some ⟨g, 0, none⟩) n N] w fun e w' => e = .returned (.bool true) ∧ w' = w := by
  have HB : Hid (Raw w g (List.replicate N (.int .u8 99))) := hb
  have h9 : (N : Int) ≤ 9223372036854775807 := by unfold maxLen at hl; omega
  clear hb hl
  go_enter Tryz.func30, Tryz.ntmps30
  go_wp2
  go_loop [4] (fun i => ∃ j : Nat, j ≤ N ∧ i = .int .i64 j) (fun i => N - (intOf i).toNat)
  case atStart => exact ⟨0, Nat.zero_le _, rfl⟩
  case round =>
    obtain ⟨j, hj, rfl⟩ := hrel
    by_cases hlt : j < N
    · have cj : w.cell? ⟨g, j, none⟩ = some (.int .u8 99) := by
        rw [HB.out.cell j (by simp; omega)]; simp
      have lj : (j : Int) < (N : Int) := by omega
      have i3 : IntKind.i64.wrap ((j : Int) + 1) = (j : Int) + 1 := by rw [IntKind.wrap_i64]; omega
      go_wp2
      go_round
      case rel => exact ⟨j + 1, by omega, by go_num⟩
      case measure => simp [intOf]; omega
    · have e : j = N := by omega
      subst e
      go_wp2
      go_ret
      exact ⟨rfl, rfl⟩
end Go.Proofs.YtclpnafiiobfhaaGreatDoor

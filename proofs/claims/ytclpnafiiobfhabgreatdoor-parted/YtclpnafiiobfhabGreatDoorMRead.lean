import Derived.Test.YtclpnafiiobfhabGreatDoorMFits
import Derived.Test.YtclpnafiiobfhabGreatDoorBase
import Derived.Deep.RegionHeld3
import Derived.Deep.CutRange
namespace Go.Proofs.YtclpnafiiobfhabGreatDoor
open Go.RowKit
set_option linter.unusedVariables false
set_option linter.unusedSimpArgs false

theorem or24 (a b : Int) (ha : 0 ≤ a ∧ a ≤ 16777215) (hb : 0 ≤ b ∧ b ≤ 255) : bits .or .u32 (a * 256) b = 256 * a + b := by
  rw [u32_or _ _ (by omega) (by omega) (by omega) (by omega)]
  have e : (a * 256).toNat = a.toNat * 2 ^ 8 := by omega
  rw [e, or_add 8 a.toNat b.toNat (by omega)]
  omega
theorem numv_bd3 (s : ByteArray) (k n : Nat) (h : n ≤ 3) : 0 ≤ numv s k n ∧ numv s k n ≤ 16777215 := by
  have hb := numv_bd s k n
  rcases n with _ | _ | _ | _ | n
  · simp at hb ⊢; omega
  · simp at hb ⊢; omega
  · simp at hb ⊢; omega
  · simp at hb ⊢; omega
  · omega

set_option maxHeartbeats 400000 in
theorem number_any (s : ByteArray) (b off k n cap : Nat) (w : World) (hn : n ≤ 4) (hr : ∀ i, i < n → w.cell? ⟨b, off + i, none⟩ = some (.int .u8 (nth s (k + i)))) :
    Calls Tryz.prog 123 #[.slice (some ⟨b, off, none⟩) n cap] w fun e w' => e = .returned (.int .u32 (numv s k n)) ∧ w' = w := by
  go_enter Tryz.func123, Tryz.ntmps123
  go_wp2
  go_loop [3, 8] (fun v i => ∃ j : Nat, j ≤ n ∧ i = .int .i64 j ∧ v = .int .u32 (numv s k j)) (fun _ i => n - (intOf i).toNat)
  case atStart => exact ⟨0, Nat.zero_le _, rfl, rfl⟩
  case round =>
    obtain ⟨j, hj, rfl, rfl⟩ := hrel
    by_cases hlt : j < n
    · have hb := numv_bd3 s k j (by omega)
      have hx := nth_bd s (k + j)
      have hc := hr j hlt
      go_wp2
      go_round
      case rel => exact ⟨j + 1, by omega, by go_num, by rw [or24 _ _ hb hx, numv_s]⟩
      case measure => simp [intOf]; omega
    · have e : j = n := by omega
      subst e
      go_wp2
      go_ret
      exact ⟨rfl, rfl⟩

/-- eight bytes of a text lie in memory -/
def Eight (w : World) (b off : Nat) (s : ByteArray) (k : Nat) : Prop := ∀ i, i < 8 → w.cell? ⟨b, off + i, none⟩ = some (.int .u8 (nth s (k + i)))
theorem Eight.alloc {w : World} {b off k : Nat} {s : ByteArray} (h : Eight w b off s k) (hb : b < w.heap.size) (o : Obj) : Eight (w.alloc o) b off s k := fun i hi => by
  rw [World.cell?_alloc_lt _ _ _ (by simpa using hb)]; exact h i hi
theorem Eight.below {w w' : World} {b off k : Nat} {s : ByteArray} (h : Eight w b off s k) (hb : b < w.heap.size) (hw : Below w.heap.size w w') : Eight w' b off s k := fun i hi => by
  rw [hw.cell (p := ⟨b, off + i, none⟩) hb]; exact h i hi
theorem Eight.setCell {w : World} {b off k : Nat} {s : ByteArray} (h : Eight w b off s k) {a : Addr} (ha : a.block ≠ b) (v : Value) : Eight (w.setCell a v) b off s k := fun i hi => by
  rw [World.cell?_setCell_other _ _ _ _ (by intro e; apply ha; rw [e])]; exact h i hi
theorem Eight.drewN {w : World} {b off k : Nat} {s : ByteArray} (h : Eight w b off s k) (n : Nat) : Eight (w.drewN n) b off s k := h
theorem Eight.drew {w : World} {b off k : Nat} {s : ByteArray} (h : Eight w b off s k) : Eight w.drew b off s k := h

theorem allocDrewN' (w : World) (n : Nat) (o : Obj) : (w.drewN n).alloc o = (w.alloc o).drewN n := rfl
theorem setCellDrewN' (w : World) (n : Nat) (a : Addr) (v : Value) : (w.drewN n).setCell a v = (w.setCell a v).drewN n := rfl
/-- eight bytes read as an instruction -/
def insOf (s : ByteArray) (k : Nat) : Ins := ⟨nth s k, nth s (k + 1), nth s (k + 2), nth s (k + 3), numv s (k + 4) 4⟩

set_option maxHeartbeats 1600000 in
theorem readOne_any (s : ByteArray) (b off k len cap : Nat) (w : World) (hb : b < w.heap.size) (hl : 8 ≤ len) (hc : len ≤ cap) (hm : cap ≤ maxLen) (hr : Eight w b off s k) :
    Calls Tryz.prog 117 #[.slice (some ⟨b, off, none⟩) len cap] w fun e w' => e = .returned (insV (insOf s k)) ∧ Below w.heap.size w w' := by
  unfold insV insOf
  unfold maxLen at hm
  have HE : Hid (Eight w b off s k) := hr
  have c0 := hr 0 (by omega)
  have c1 := hr 1 (by omega)
  have c2 := hr 2 (by omega)
  have c3 := hr 3 (by omega)
  rw [Nat.add_zero] at c0
  have l0 : 0 < len := by omega
  have l1 : (1 : Int) < (len : Int) := by omega
  have l2 : (2 : Int) < (len : Int) := by omega
  have l3 : (3 : Int) < (len : Int) := by omega
  have l8 : (8 : Int) ≤ (cap : Int) := by omega
  have lc : cap ≠ 4 := by omega
  have bn := Nat.ne_of_lt hb
  clear hr
  go_enter Tryz.func117, Tryz.ntmps117
  go_upto_region 1 with fail
  go_cut [2] from 3 (fun v w' => v = .pointer (some ⟨w.heap.size, 0, none⟩) ∧ ∃ n, w' = (w.alloc (.cells #[.int .u8 (nth s k), .int .u8 (nth s (k + 1)), .int .u8 (nth s (k + 2)), .int .u8 (nth s (k + 3)), .int .u32 (numv s (k + 4) 4)] 203)).drewN n)
  case first =>
    go_region_held3 (fun w' => w'.cell? ⟨b, off, none⟩ = some (.int .u8 (nth s k)) ∧ w'.cell? ⟨b, off + 1, none⟩ = some (.int .u8 (nth s (k + 1))) ∧ w'.cell? ⟨b, off + 2, none⟩ = some (.int .u8 (nth s (k + 2))) ∧ w'.cell? ⟨b, off + 3, none⟩ = some (.int .u8 (nth s (k + 3)))) (go_keep) (first | (go_at_call 123; refine (number_any s b (off + 4) (k + 4) 4 _ _ (by omega) (fun i hi => ?_)).mono ?_; (rw [Nat.add_assoc, Nat.add_assoc]; exact (HE.out.alloc hb _) (4 + i) (by omega)); rintro e w' ⟨rfl, rfl⟩))
    all_goals
      go_wp2_with fail
      go_meet
      refine ⟨rfl, ?_⟩
      exact ⟨1, rfl⟩
  case rest =>
    obtain ⟨rfl, n0, rfl⟩ := hcut
    go_wp2_with fail
    refine bodyPost_ret (v := .agg #[.int .u8 (nth s k), .int .u8 (nth s (k + 1)), .int .u8 (nth s (k + 2)), .int .u8 (nth s (k + 3)), .int .u32 (numv s (k + 4) 4)]) (by simp [results, Tryz.results117, go_sem]) rfl ⟨rfl, ?_⟩
    repeat (first | with_reducible exact Below.refl _ _ | with_reducible refine below_drewN ?_ _ | with_reducible refine Below.drew ?_ | with_reducible refine Below.alloc ?_ (by simp) _ | with_reducible refine Below.setCell ?_ (by simp) _)
end Go.Proofs.YtclpnafiiobfhabGreatDoor

import Derived.Test.YtclpnafiiobfhabGreatDoorMach
import Derived.Test.YtclpnafiiobfhabGreatDoorBits
import Derived.Test.YtclpnafiiobfhabGreatDoorProg
import Derived.WalkKit
import Derived.WalkSpells
import Derived.WalkLawsBesides
import Derived.Deep.QuietTactic
import Derived.BigQuiet
import Derived.Test.YtclpnafiiobfhabGreatDoorBase
import Derived.Deep.RegionHeld3
import Derived.Deep.CutRange
import Derived.Test.YtclpnafiiobfhabGreatDoorBuf
import Derived.Laws.IdiomCopy
namespace Go.Proofs.YtclpnafiiobfhabGreatDoor
open Go.RowKit
set_option linter.unusedVariables false
set_option linter.unusedSimpArgs false

/-- an instruction as the code holds it -/
def insV (x : Ins) : Value := .agg #[.int .u8 x.op, .int .u8 x.r, .int .u8 x.t, .int .u8 x.f, .int .u32 x.k]
/-- its block -/
def insO (x : Ins) : Obj := .cells #[.int .u8 x.op, .int .u8 x.r, .int .u8 x.t, .int .u8 x.f, .int .u32 x.k] 203

set_option maxHeartbeats 400000 in
theorem isBranch_any (x : Ins) (w : World) :
    Calls Tryz.prog 141 #[insV x] w fun e w' => e = .returned (.bool x.branch) ∧ w' = w.alloc (insO x) := by
  obtain ⟨op, r, t, f, k⟩ := x
  unfold insV insO Ins.branch
  cases h8 : op == 8
  · cases h9 : op == 9
    all_goals
      go_enter Tryz.func141, Tryz.ntmps141
      go_wp2
      go_ret
      exact ⟨ret_bool (by simp [h8, h9]), rfl⟩
  · go_enter Tryz.func141, Tryz.ntmps141
    go_wp2
    go_ret
    exact ⟨ret_bool (by simp [h8]), rfl⟩
theorem isBranch_is (x : Ins) (b : Bool) (w : World) (h : x.branch = b) :
    Calls Tryz.prog 141 #[insV x] w fun e w' => e = .returned (.bool b) ∧ w' = w.alloc (insO x) := by
  rw [← h]; exact isBranch_any x w

set_option maxHeartbeats 400000 in
theorem isLoad_any (x : Ins) (w : World) :
    Calls Tryz.prog 120 #[insV x] w fun e w' => e = .returned (.bool x.load) ∧ w' = w.alloc (insO x) := by
  obtain ⟨op, r, t, f, k⟩ := x
  unfold insV insO Ins.load
  cases h8 : op == 1
  · cases h9 : op == 2
    all_goals
      go_enter Tryz.func120, Tryz.ntmps120
      go_wp2
      go_ret
      exact ⟨ret_bool (by simp [h8, h9]), rfl⟩
  · go_enter Tryz.func120, Tryz.ntmps120
    go_wp2
    go_ret
    exact ⟨ret_bool (by simp [h8]), rfl⟩
theorem isLoad_is (x : Ins) (b : Bool) (w : World) (h : x.load = b) :
    Calls Tryz.prog 120 #[insV x] w fun e w' => e = .returned (.bool b) ∧ w' = w.alloc (insO x) := by
  rw [← h]; exact isLoad_any x w

set_option maxHeartbeats 400000 in
theorem uses_any (x : Ins) (w : World) :
    Calls Tryz.prog 119 #[insV x] w fun e w' => e = .returned (.bool x.uses) ∧ Below w.heap.size w w' := by
  unfold Ins.uses
  have hB := isBranch_any x
  obtain ⟨op, r, t, f, k⟩ := x
  unfold insV insO at *
  cases h8 : op == 6
  · cases h9 : op == 7
    · go_enter Tryz.func119, Tryz.ntmps119
      go_wp2_with fail
      refine (hB _).mono ?_
      rintro e w' ⟨rfl, rfl⟩
      go_wp2
      go_ret
      exact ⟨rfl, ((Below.refl _ _).alloc (Nat.le_refl _) _).alloc (by simp) _⟩
    · go_enter Tryz.func119, Tryz.ntmps119
      go_wp2
      go_ret
      exact ⟨rfl, (Below.refl _ _).alloc (Nat.le_refl _) _⟩
  · go_enter Tryz.func119, Tryz.ntmps119
    go_wp2
    go_ret
    exact ⟨rfl, (Below.refl _ _).alloc (Nat.le_refl _) _⟩
theorem uses_is (x : Ins) (b : Bool) (w : World) (h : x.uses = b) :
    Calls Tryz.prog 119 #[insV x] w fun e w' => e = .returned (.bool b) ∧ Below w.heap.size w w' := by
  rw [← h]; exact uses_any x w

set_option maxHeartbeats 400000 in
theorem loadEnd_any (x : Ins) (hb : x.Bd) (w : World) (hl : x.load = true) :
    Calls Tryz.prog 121 #[insV x] w fun e w' => e = .returned (.int .u64 x.wide) ∧ w' = w.alloc (insO x) := by
  have bk := hb.k
  obtain ⟨op, r, t, f, k⟩ := x
  unfold insV insO Ins.wide
  dsimp only at *
  have : op = 1 ∨ op = 2 ∨ op = 3 := by unfold Ins.load at hl; simpa [or_assoc] using hl
  clear hl hb
  rcases this with rfl | rfl | rfl
  all_goals
    go_enter Tryz.func121, Tryz.ntmps121
    go_wp2
    go_ret
    exact ⟨ret_int (by simp), rfl⟩

set_option maxHeartbeats 400000 in
theorem branch_any (x : Ins) (b : Bool) (hb : x.Bd) (w : World) :
    Calls Tryz.prog 124 #[insV x, .bool b] w fun e w' => e = .returned (.int .u32 (if b then x.t else x.f)) ∧ w' = w.alloc (insO x) := by
  have bt := hb.t
  have bf := hb.f
  obtain ⟨op, r, t, f, k⟩ := x
  unfold insV insO
  dsimp only at *
  clear hb
  cases b
  all_goals
    go_enter Tryz.func124, Tryz.ntmps124
    go_wp2
    go_ret
    exact ⟨ret_int (by simp), rfl⟩
end Go.Proofs.YtclpnafiiobfhabGreatDoor
namespace Go.Proofs.YtclpnafiiobfhabGreatDoor
open Go.RowKit
set_option linter.unusedVariables false
set_option linter.unusedSimpArgs false

set_option maxHeartbeats 400000 in
theorem fits_r (x : Ins) (w : World) (hr : 4 ≤ x.r) :
    Calls Tryz.prog 118 #[insV x] w fun e w' => e = .returned (.bool false) ∧ Below w.heap.size w w' := by
  obtain ⟨op, r, t, f, k⟩ := x
  unfold insV
  dsimp only at hr
  go_enter Tryz.func118, Tryz.ntmps118
  go_wp2
  go_ret
  exact ⟨rfl, (Below.refl _ _).alloc (Nat.le_refl _) _⟩
set_option maxHeartbeats 400000 in
theorem fits_t (x : Ins) (w : World) (hr : x.r < 4) (hb : x.branch = false) (ht : (x.t != 0) = true) :
    Calls Tryz.prog 118 #[insV x] w fun e w' => e = .returned (.bool false) ∧ Below w.heap.size w w' := by
  have hB := fun w => isBranch_is x _ w hb
  obtain ⟨op, r, t, f, k⟩ := x
  unfold insV insO at *
  dsimp only at *
  clear hb
  go_enter Tryz.func118, Tryz.ntmps118
  go_wp2_with fail
  refine (hB _).mono ?_
  rintro e w' ⟨rfl, rfl⟩
  go_wp2
  go_ret
  exact ⟨rfl, ((Below.refl _ _).alloc (Nat.le_refl _) _).alloc (by simp) _⟩
set_option maxHeartbeats 400000 in
theorem fits_f (x : Ins) (w : World) (hr : x.r < 4) (hb : x.branch = false) (ht : x.t = 0) (hf : (x.f != 0) = true) :
    Calls Tryz.prog 118 #[insV x] w fun e w' => e = .returned (.bool false) ∧ Below w.heap.size w w' := by
  have hB := fun w => isBranch_is x _ w hb
  obtain ⟨op, r, t, f, k⟩ := x
  unfold insV insO at *
  dsimp only at *
  clear hb
  subst ht
  go_enter Tryz.func118, Tryz.ntmps118
  go_wp2_with fail
  refine (hB _).mono ?_
  rintro e w' ⟨rfl, rfl⟩
  go_wp2
  go_ret
  exact ⟨rfl, ((Below.refl _ _).alloc (Nat.le_refl _) _).alloc (by simp) _⟩
/-- what the switch asks of k and r -/
def Ins.tail (x : Ins) : Bool :=
  if x.op = 0 then x.r == 0 && decide (x.k < 3) else if x.op = 4 then decide (x.k < 2) else if x.op = 5 then x.k == 0 else if x.op = 7 then decide (x.k < 32) else if x.op = 11 then x.r == 0 else decide (x.op < 11)
set_option maxHeartbeats 400000 in
theorem fits_b (x : Ins) (w : World) (hr : x.r < 4) (hb : x.branch = true) :
    Calls Tryz.prog 118 #[insV x] w fun e w' => e = .returned (.bool true) ∧ Below w.heap.size w w' := by
  have hB := fun w => isBranch_is x _ w hb
  obtain ⟨op, r, t, f, k⟩ := x
  unfold insV insO Ins.branch at *
  dsimp only at *
  have : op = 8 ∨ op = 9 ∨ op = 10 := by simpa [or_assoc] using hb
  clear hb
  rcases this with rfl | rfl | rfl
  all_goals
    go_enter Tryz.func118, Tryz.ntmps118
    go_wp2_with fail
    refine (hB _).mono ?_
    rintro e w' ⟨rfl, rfl⟩
    go_wp2
    go_ret
    exact ⟨rfl, ((Below.refl _ _).alloc (Nat.le_refl _) _).alloc (by simp) _⟩
set_option maxHeartbeats 800000 in
theorem fits_z (x : Ins) (w : World) (hr : x.r < 4) (hb : x.branch = false) (ht : x.t = 0) (hf : x.f = 0) :
    Calls Tryz.prog 118 #[insV x] w fun e w' => e = .returned (.bool x.tail) ∧ Below w.heap.size w w' := by
  have hB := fun w => isBranch_is x _ w hb
  obtain ⟨b, hbt⟩ : ∃ b, x.tail = b := ⟨_, rfl⟩
  rw [hbt]
  have HT : Hid (x.tail = b) := hbt
  clear hbt
  obtain ⟨op, r, t, f, k⟩ := x
  unfold insV insO at *
  dsimp only at *
  clear hb
  subst ht
  subst hf
  cases h0 : op == 0
  · cases h4 : op == 4
    · cases h5 : op == 5
      · cases h7 : op == 7
        · cases h11 : op == 11
          · go_enter Tryz.func118, Tryz.ntmps118
            go_wp2_with fail
            refine (hB _).mono ?_
            rintro e w' ⟨rfl, rfl⟩
            go_wp2
            go_ret
            exact ⟨ret_bool (by rw [← HT.out]; unfold Ins.tail; rw [beq_eq_false_iff_ne] at *; simp [h0, h4, h5, h7, h11]), ((Below.refl _ _).alloc (Nat.le_refl _) _).alloc (by simp) _⟩
          · have e11 : op = 11 := by simpa using h11
            subst e11
            clear h0 h4 h5 h7 h11
            go_enter Tryz.func118, Tryz.ntmps118
            go_wp2_with fail
            refine (hB _).mono ?_
            rintro e w' ⟨rfl, rfl⟩
            go_wp2
            go_ret
            exact ⟨ret_bool (by rw [← HT.out]; unfold Ins.tail; simp), ((Below.refl _ _).alloc (Nat.le_refl _) _).alloc (by simp) _⟩
        · have e11 : op = 7 := by simpa using h7
          subst e11
          clear h0 h4 h5 h7
          go_enter Tryz.func118, Tryz.ntmps118
          go_wp2_with fail
          refine (hB _).mono ?_
          rintro e w' ⟨rfl, rfl⟩
          go_wp2
          go_ret
          exact ⟨ret_bool (by rw [← HT.out]; unfold Ins.tail; simp), ((Below.refl _ _).alloc (Nat.le_refl _) _).alloc (by simp) _⟩
      · have e11 : op = 5 := by simpa using h5
        subst e11
        clear h0 h4 h5
        go_enter Tryz.func118, Tryz.ntmps118
        go_wp2_with fail
        refine (hB _).mono ?_
        rintro e w' ⟨rfl, rfl⟩
        go_wp2
        go_ret
        exact ⟨ret_bool (by rw [← HT.out]; unfold Ins.tail; simp), ((Below.refl _ _).alloc (Nat.le_refl _) _).alloc (by simp) _⟩
    · have e11 : op = 4 := by simpa using h4
      subst e11
      clear h0 h4
      go_enter Tryz.func118, Tryz.ntmps118
      go_wp2_with fail
      refine (hB _).mono ?_
      rintro e w' ⟨rfl, rfl⟩
      go_wp2
      go_ret
      exact ⟨ret_bool (by rw [← HT.out]; unfold Ins.tail; simp), ((Below.refl _ _).alloc (Nat.le_refl _) _).alloc (by simp) _⟩
  · have e11 : op = 0 := by simpa using h0
    subst e11
    clear h0
    cases hq : r == 0
    all_goals
      go_enter Tryz.func118, Tryz.ntmps118
      go_wp2_with fail
      refine (hB _).mono ?_
      rintro e w' ⟨rfl, rfl⟩
      go_wp2
      go_ret
      exact ⟨ret_bool (by rw [← HT.out]; unfold Ins.tail; first | (simp [hq]; done) | (simp [hq]; omega)), ((Below.refl _ _).alloc (Nat.le_refl _) _).alloc (by simp) _⟩

theorem fits_any (x : Ins) (w : World) :
    Calls Tryz.prog 118 #[insV x] w fun e w' => e = .returned (.bool x.fits) ∧ Below w.heap.size w w' := by
  by_cases hr : 4 ≤ x.r
  · rw [show x.fits = false by unfold Ins.fits; rw [show decide (x.r < 4) = false by simpa using hr]; simp]
    exact fits_r x w hr
  have hr : x.r < 4 := by omega
  cases hb : x.branch with
  | true =>
    have e : x.fits = true := by
      unfold Ins.fits
      rw [hb]
      have : x.op = 8 ∨ x.op = 9 ∨ x.op = 10 := by unfold Ins.branch at hb; simpa [or_assoc] using hb
      rcases this with h | h | h <;> simp [h, hr]
    rw [e]; exact fits_b x w hr hb
  | false =>
    cases ht : x.t == 0 with
    | false =>
      rw [show x.fits = false by unfold Ins.fits; rw [hb, ht]; simp]
      exact fits_t x w hr hb (by simpa using ht)
    | true =>
      cases hf : x.f == 0 with
      | false =>
        rw [show x.fits = false by unfold Ins.fits; rw [hb, ht, hf]; simp]
        exact fits_f x w hr hb (by simpa using ht) (by simpa using hf)
      | true =>
        have e : x.fits = x.tail := by
          unfold Ins.fits Ins.tail
          rw [hb, ht, hf, show decide (x.r < 4) = true by simpa using hr]
          by_cases h0 : x.op = 0
          · simp [h0]
          by_cases h4 : x.op = 4
          · simp [h4]
          by_cases h5 : x.op = 5
          · simp [h5]
          by_cases h7 : x.op = 7
          · simp [h7]
          by_cases h11 : x.op = 11
          · simp [h11]
          simp [h0, h4, h5, h7, h11]
          omega
        rw [e]; exact fits_z x w hr hb (by simpa using ht) (by simpa using hf)
end Go.Proofs.YtclpnafiiobfhabGreatDoor
namespace Go.Proofs.YtclpnafiiobfhabGreatDoor
open Go.RowKit
set_option linter.unusedVariables false
set_option linter.unusedSimpArgs false

theorem or24 (a b : Int) (ha : 0 ≤ a ∧ a ≤ 16777215) (hb : 0 ≤ b ∧ b ≤ 255) : bits .or .u32 (a * 256) b = 256 * a + b := by
  rw [u32_or _ _ (by omega) (by omega) (by omega) (by omega)]
  have e : (a * 256).toNat = a.toNat * 2 ^ 8 := by omega
  rw [e, or_add 8 a.toNat b.toNat (by omega)]
  omega
theorem numv_bd3 (s : ByteArray) (k n : Nat) (h : n ≤ 3) : 0 ≤ numv s k n ∧ numv s k n ≤ 16777215 := by
  have hb := numv_bd s k n
  rcases n with _ | _ | _ | _ | n
  · simp at hb ⊢; omega
  · simp at hb ⊢; omega
  · simp at hb ⊢; omega
  · simp at hb ⊢; omega
  · omega

set_option maxHeartbeats 400000 in
theorem number_any (s : ByteArray) (b off k n cap : Nat) (w : World) (hn : n ≤ 4) (hr : ∀ i, i < n → w.cell? ⟨b, off + i, none⟩ = some (.int .u8 (nth s (k + i)))) :
    Calls Tryz.prog 123 #[.slice (some ⟨b, off, none⟩) n cap] w fun e w' => e = .returned (.int .u32 (numv s k n)) ∧ w' = w := by
  go_enter Tryz.func123, Tryz.ntmps123
  go_wp2
  go_loop [3, 8] (fun v i => ∃ j : Nat, j ≤ n ∧ i = .int .i64 j ∧ v = .int .u32 (numv s k j)) (fun _ i => n - (intOf i).toNat)
  case atStart => exact ⟨0, Nat.zero_le _, rfl, rfl⟩
  case round =>
    obtain ⟨j, hj, rfl, rfl⟩ := hrel
    by_cases hlt : j < n
    · have hb := numv_bd3 s k j (by omega)
      have hx := nth_bd s (k + j)
      have hc := hr j hlt
      go_wp2
      go_round
      case rel => exact ⟨j + 1, by omega, by go_num, by rw [or24 _ _ hb hx, numv_s]⟩
      case measure => simp [intOf]; omega
    · have e : j = n := by omega
      subst e
      go_wp2
      go_ret
      exact ⟨rfl, rfl⟩

/-- eight bytes of a text lie in memory -/
def Eight (w : World) (b off : Nat) (s : ByteArray) (k : Nat) : Prop := ∀ i, i < 8 → w.cell? ⟨b, off + i, none⟩ = some (.int .u8 (nth s (k + i)))
theorem Eight.alloc {w : World} {b off k : Nat} {s : ByteArray} (h : Eight w b off s k) (hb : b < w.heap.size) (o : Obj) : Eight (w.alloc o) b off s k := fun i hi => by
  rw [World.cell?_alloc_lt _ _ _ (by simpa using hb)]; exact h i hi
theorem Eight.below {w w' : World} {b off k : Nat} {s : ByteArray} (h : Eight w b off s k) (hb : b < w.heap.size) (hw : Below w.heap.size w w') : Eight w' b off s k := fun i hi => by
  rw [hw.cell (p := ⟨b, off + i, none⟩) hb]; exact h i hi
theorem Eight.setCell {w : World} {b off k : Nat} {s : ByteArray} (h : Eight w b off s k) {a : Addr} (ha : a.block ≠ b) (v : Value) : Eight (w.setCell a v) b off s k := fun i hi => by
  rw [World.cell?_setCell_other _ _ _ _ (by intro e; apply ha; rw [e])]; exact h i hi
theorem Eight.drewN {w : World} {b off k : Nat} {s : ByteArray} (h : Eight w b off s k) (n : Nat) : Eight (w.drewN n) b off s k := h
theorem Eight.drew {w : World} {b off k : Nat} {s : ByteArray} (h : Eight w b off s k) : Eight w.drew b off s k := h

theorem allocDrewN' (w : World) (n : Nat) (o : Obj) : (w.drewN n).alloc o = (w.alloc o).drewN n := rfl
theorem setCellDrewN' (w : World) (n : Nat) (a : Addr) (v : Value) : (w.drewN n).setCell a v = (w.setCell a v).drewN n := rfl
/-- eight bytes read as an instruction -/
def insOf (s : ByteArray) (k : Nat) : Ins := ⟨nth s k, nth s (k + 1), nth s (k + 2), nth s (k + 3), numv s (k + 4) 4⟩

set_option maxHeartbeats 1600000 in
theorem readOne_any (s : ByteArray) (b off k len cap : Nat) (w : World) (hb : b < w.heap.size) (hl : 8 ≤ len) (hc : len ≤ cap) (hm : cap ≤ maxLen) (hr : Eight w b off s k) :
    Calls Tryz.prog 117 #[.slice (some ⟨b, off, none⟩) len cap] w fun e w' => e = .returned (insV (insOf s k)) ∧ Below w.heap.size w w' := by
  unfold insV insOf
  unfold maxLen at hm
  have HE : Hid (Eight w b off s k) := hr
  have c0 := hr 0 (by omega)
  have c1 := hr 1 (by omega)
  have c2 := hr 2 (by omega)
  have c3 := hr 3 (by omega)
  rw [Nat.add_zero] at c0
  have l0 : 0 < len := by omega
  have l1 : (1 : Int) < (len : Int) := by omega
  have l2 : (2 : Int) < (len : Int) := by omega
  have l3 : (3 : Int) < (len : Int) := by omega
  have l8 : (8 : Int) ≤ (cap : Int) := by omega
  have lc : cap ≠ 4 := by omega
  have bn := Nat.ne_of_lt hb
  clear hr
  go_enter Tryz.func117, Tryz.ntmps117
  go_upto_region 1 with fail
  go_cut [2] from 3 (fun v w' => v = .pointer (some ⟨w.heap.size, 0, none⟩) ∧ ∃ n, w' = (w.alloc (.cells #[.int .u8 (nth s k), .int .u8 (nth s (k + 1)), .int .u8 (nth s (k + 2)), .int .u8 (nth s (k + 3)), .int .u32 (numv s (k + 4) 4)] 203)).drewN n)
  case first =>
    go_region_held3 (fun w' => w'.cell? ⟨b, off, none⟩ = some (.int .u8 (nth s k)) ∧ w'.cell? ⟨b, off + 1, none⟩ = some (.int .u8 (nth s (k + 1))) ∧ w'.cell? ⟨b, off + 2, none⟩ = some (.int .u8 (nth s (k + 2))) ∧ w'.cell? ⟨b, off + 3, none⟩ = some (.int .u8 (nth s (k + 3)))) (go_keep) (first | (go_at_call 123; refine (number_any s b (off + 4) (k + 4) 4 _ _ (by omega) (fun i hi => ?_)).mono ?_; (rw [Nat.add_assoc, Nat.add_assoc]; exact (HE.out.alloc hb _) (4 + i) (by omega)); rintro e w' ⟨rfl, rfl⟩))
    all_goals
      go_wp2_with fail
      go_meet
      refine ⟨rfl, ?_⟩
      exact ⟨1, rfl⟩
  case rest =>
    obtain ⟨rfl, n0, rfl⟩ := hcut
    go_wp2_with fail
    refine bodyPost_ret (v := .agg #[.int .u8 (nth s k), .int .u8 (nth s (k + 1)), .int .u8 (nth s (k + 2)), .int .u8 (nth s (k + 3)), .int .u32 (numv s (k + 4) 4)]) (by simp [results, Tryz.results117, go_sem]) rfl ⟨rfl, ?_⟩
    repeat (first | with_reducible exact Below.refl _ _ | with_reducible refine below_drewN ?_ _ | with_reducible refine Below.drew ?_ | with_reducible refine Below.alloc ?_ (by simp) _ | with_reducible refine Below.setCell ?_ (by simp) _)
end Go.Proofs.YtclpnafiiobfhabGreatDoor
namespace Go.Proofs.YtclpnafiiobfhabGreatDoor
open Go.RowKit
set_option linter.unusedVariables false
set_option linter.unusedSimpArgs false

theorem run_make_wide {P : Program} (t e : TypeId) (zs : Array Value) (size bytes : Nat) (ht : P.underlying t = some (.slice e)) (hinfo : (P.info? e).map (fun i => (i.zero, i.size, i.bytes)) = some (some (.agg zs), size, bytes))
    (kl kc : IntKind) (n : Nat) (hbytes : bytes * n ≤ 281474976710656) (h63 : n ≤ 9223372036854775807) (w : World) :
    (Instr.makeSlice t (.int kl (n : Int)) (.int kc (n : Int))).run P w = .ok (.slice (some ⟨w.heap.size, 0, none⟩) n n) (w.alloc (.cells (madeCells zs (n * size)) e)) := by
  obtain ⟨i, hi, hzz⟩ := Option.map_eq_some_iff.1 hinfo
  simp only [Prod.mk.injEq] at hzz
  obtain ⟨hz, hs, hb⟩ := hzz
  have h := run_make (P := P) w t e i (.agg zs) ht hi hz kl kc n n (by omega) (by omega) (by rw [hb]; omega) (by omega)
  rw [Int.toNat_natCast, hs] at h
  exact h
theorem getD_set_self {α : Type} (l : List α) (j : Nat) (x d : α) (h : j < l.length) : (l.set j x).getD j d = x := by
  simp [List.getD_eq_getElem?_getD, h]
theorem getD_set_ne {α : Type} (l : List α) (i j : Nat) (x d : α) (h : i ≠ j) : (l.set i x).getD j d = l.getD j d := by
  simp [List.getD_eq_getElem?_getD, List.getElem?_set, h]
theorem cell_set_off (w : World) (g i j : Nat) (v : Value) (h : i ≠ j) : (w.setCell ⟨g, i, none⟩ v).cell? ⟨g, j, none⟩ = w.cell? ⟨g, j, none⟩ :=
  World.cell?_setCell_other _ _ _ _ (by intro e; apply h; cases e; rfl)
theorem frozen_set (w : World) (a b : Addr) (v : Value) : (w.setCell a v).frozen? b = w.frozen? b := by simp
theorem cell_set_same (w : World) (a : Addr) (v : Value) {u : Value} (h : w.cell? a = some u) : (w.setCell a v).cell? a = some v := World.cell?_setCell_same _ _ _ h
theorem frozen_setCells (g : Nat) : ∀ (vs : List Value) (o : Nat) (w : World) (x : Addr), (w.setCells g o vs).frozen? x = w.frozen? x
  | [], _, _, _ => rfl
  | v :: r, o, w, x => by rw [World.setCells, frozen_setCells g r]; simp
theorem size_setCells (g : Nat) : ∀ (vs : List Value) (o : Nat) (w : World), (w.setCells g o vs).heap.size = w.heap.size
  | [], _, _ => rfl
  | v :: r, o, w => by rw [World.setCells, size_setCells g r]; simp [World.setCell]
theorem Tch.drew {g : Nat} {a w : World} (h : Tch g a w) : Tch g a w.drew := ⟨h.os, h.tape, h.output, h.size, h.block⟩
theorem Tch.setCells {g : Nat} {a : World} : ∀ (vs : List Value) (o : Nat) (w : World), Tch g a w → Tch g a (w.setCells g o vs)
  | [], _, _, h => h
  | v :: r, o, w, h => by rw [World.setCells]; exact Tch.setCells r _ _ (h.set _ _)
/-- the last way is told last -/
theorem tell_snoc (F : List Fc) (a : Fc) (x : Ins) (i w : Nat) (l : List Int) (o : Int) :
    tell F a x i w (l ++ [o]) = (tell F a x i w l).set (i + 1 + o.toNat) (((tell F a x i w l).getD (i + 1 + o.toNat) fc0).meet (a.behind x (w + l.length))) := by
  induction l generalizing F w with
  | nil => rfl
  | cons p l ih =>
    rw [List.cons_append, tell, tell, ih]
    simp only [List.length_cons]
    rw [show w + 1 + l.length = w + (l.length + 1) by omega]
theorem take_snoc {α : Type} (l : List α) (v : Nat) (d : α) (h : v < l.length) : l.take (v + 1) = l.take v ++ [l.getD v d] := by
  rw [List.take_add_one, List.getD_eq_getElem?_getD, List.getElem?_eq_getElem h]; rfl
end Go.Proofs.YtclpnafiiobfhabGreatDoor
namespace Go.Proofs.YtclpnafiiobfhabGreatDoor
open Go.RowKit
set_option linter.unusedVariables false
set_option linter.unusedSimpArgs false

/-- block g holds the instructions l -/
structure Lst (w : World) (g : Nat) (l : List Ins) : Prop where
  op : ∀ j, j < l.length → w.cell? ⟨g, j * 5, none⟩ = some (.int .u8 (l.getD j ⟨0, 0, 0, 0, 0⟩).op)
  r : ∀ j, j < l.length → w.cell? ⟨g, j * 5 + 1, none⟩ = some (.int .u8 (l.getD j ⟨0, 0, 0, 0, 0⟩).r)
  t : ∀ j, j < l.length → w.cell? ⟨g, j * 5 + 2, none⟩ = some (.int .u8 (l.getD j ⟨0, 0, 0, 0, 0⟩).t)
  f : ∀ j, j < l.length → w.cell? ⟨g, j * 5 + 3, none⟩ = some (.int .u8 (l.getD j ⟨0, 0, 0, 0, 0⟩).f)
  k : ∀ j, j < l.length → w.cell? ⟨g, j * 5 + 4, none⟩ = some (.int .u32 (l.getD j ⟨0, 0, 0, 0, 0⟩).k)
  froz : ∀ i, w.frozen? ⟨g, i, none⟩ = false
  lt : g < w.heap.size
theorem insZero : (Tryz.prog.info? 203).map (fun i => (i.zero, i.size, i.bytes)) = some (some (.agg #[.int .u8 0, .int .u8 0, .int .u8 0, .int .u8 0, .int .u32 0]), 5, 8) := by kernel_rfl

set_option maxHeartbeats 1600000 in
theorem read_size (s : ByteArray) (p : Option Addr) (cap : Nat) (w : World) (hs : s.size ≤ maxLen) (h : ∀ n, ¬ Sized s n) :
    Calls Tryz.prog 95 #[.slice p s.size cap] w fun e w' => e = .returned (.tuple #[.slice none 0 0, .iface 90 (.pointer (some ⟨w.heap.size, 0, none⟩))]) ∧ w' = w.alloc (.cells #[.int .i64 0, .int .i64 10] 93) := by
  unfold maxLen at hs
  by_cases h8 : (s.size : Int) % 8 = 0
  · have h8' : ((s.size : Int) % 8 != 0) = false := by simpa using h8
    by_cases h0 : (s.size : Int) / 8 = 0
    · have h0' : ((s.size : Int) / 8 == 0) = true := by simpa using h0
      clear h8 h0 h
      go_enter Tryz.func95, Tryz.ntmps95
      go_wp2
      go_ret2
      exact ⟨rfl, rfl⟩
    · have h0' : ((s.size : Int) / 8 == 0) = false := by simpa using h0
      have h1 : 4096 < (s.size : Int) / 8 := by
        have := h (s.size / 8)
        rcases Nat.lt_or_ge 4096 (s.size / 8) with g | g
        · omega
        · exact absurd ⟨by omega, by omega, by omega⟩ this
      clear h8 h0 h
      go_enter Tryz.func95, Tryz.ntmps95
      go_wp2
      go_ret2
      exact ⟨rfl, rfl⟩
  · have h8' : ((s.size : Int) % 8 != 0) = true := by simpa using h8
    clear h8 h
    go_enter Tryz.func95, Tryz.ntmps95
    go_wp2
    go_ret2
    exact ⟨rfl, rfl⟩

theorem Lst.made (w : World) (n : Nat) : Lst (w.alloc (.cells (madeCells #[.int .u8 0, .int .u8 0, .int .u8 0, .int .u8 0, .int .u32 0] (n * 5)) 203)) w.heap.size (List.replicate n ⟨0, 0, 0, 0, 0⟩) := by
  have c : ∀ j c, j < n → c < 5 → (w.alloc (.cells (madeCells #[.int .u8 0, .int .u8 0, .int .u8 0, .int .u8 0, .int .u32 0] (n * 5)) 203)).cell? ⟨w.heap.size, j * 5 + c, none⟩ = some ((#[.int .u8 0, .int .u8 0, .int .u8 0, .int .u8 0, .int .u32 0] : Array Value)[c]!) := by
    intro j c hj hc
    rw [World.cell?_alloc_at _ _ _ _ rfl]
    have e : (j * 5 + c) % 5 = c := by omega
    have hlt : j * 5 + c < n * 5 := by omega
    simp [madeCells, hlt, e]
  have z : ∀ j : Nat, (List.replicate n (⟨0, 0, 0, 0, 0⟩ : Ins)).getD j ⟨0, 0, 0, 0, 0⟩ = ⟨0, 0, 0, 0, 0⟩ := by
    intro j
    rw [List.getD_eq_getElem?_getD, List.getElem?_replicate]
    split <;> rfl
  refine ⟨fun j hj => ?_, fun j hj => ?_, fun j hj => ?_, fun j hj => ?_, fun j hj => ?_, fun i => World.frozen?_alloc_at _ _ _ _ rfl, by simp⟩
  all_goals
    rw [List.length_replicate] at hj
    rw [z]
  · exact c j 0 hj (by omega)
  · exact c j 1 hj (by omega)
  · exact c j 2 hj (by omega)
  · exact c j 3 hj (by omega)
  · exact c j 4 hj (by omega)
theorem Lst.below {w w' : World} {g : Nat} {l : List Ins} (h : Lst w g l) (hw : Below w.heap.size w w') : Lst w' g l := by
  have lt := h.lt
  have hc : ∀ i, w'.cell? ⟨g, i, none⟩ = w.cell? ⟨g, i, none⟩ := fun i => hw.cell (p := ⟨g, i, none⟩) lt
  exact ⟨fun j hj => (hc _).trans (h.op j hj), fun j hj => (hc _).trans (h.r j hj), fun j hj => (hc _).trans (h.t j hj), fun j hj => (hc _).trans (h.f j hj), fun j hj => (hc _).trans (h.k j hj), fun i => (hw.frozen (p := ⟨g, i, none⟩) lt).trans (h.froz i), Nat.lt_of_lt_of_le lt hw.size⟩

/-- an instruction is laid at its place -/
def putIns (w : World) (g j : Nat) (x : Ins) : World :=
  ((((w.setCell ⟨g, j * 5, none⟩ (.int .u8 x.op)).setCell ⟨g, j * 5 + 1, none⟩ (.int .u8 x.r)).setCell ⟨g, j * 5 + 2, none⟩ (.int .u8 x.t)).setCell ⟨g, j * 5 + 3, none⟩ (.int .u8 x.f)).setCell ⟨g, j * 5 + 4, none⟩ (.int .u32 x.k)
theorem Lst.store {w : World} {g : Nat} {l : List Ins} (h : Lst w g l) (j : Nat) (hj : j < l.length) (x : Ins) : Lst (putIns w g j x) g (l.set j x) := by
  unfold putIns
  have c0 := h.op j hj
  have c1 := h.r j hj
  have c2 := h.t j hj
  have c3 := h.f j hj
  have c4 := h.k j hj
  have o : ∀ (u : World) (a b : Nat) (v : Value), a ≠ b → (u.setCell ⟨g, a, none⟩ v).cell? ⟨g, b, none⟩ = u.cell? ⟨g, b, none⟩ := fun u a b v hab => cell_set_off u g a b v hab
  refine ⟨fun i hi => ?_, fun i hi => ?_, fun i hi => ?_, fun i hi => ?_, fun i hi => ?_, fun i => by simp [frozen_set, h.froz], by simp [World.setCell]; exact h.lt⟩
  all_goals
    rw [List.length_set] at hi
    by_cases e : i = j
    · subst e
      rw [getD_set_self _ _ _ _ hi]
      first
        | (rw [o _ _ _ _ (by omega), o _ _ _ _ (by omega), o _ _ _ _ (by omega), o _ _ _ _ (by omega)]; exact cell_set_same _ _ _ c0)
        | (rw [o _ _ _ _ (by omega), o _ _ _ _ (by omega), o _ _ _ _ (by omega)]; exact cell_set_same _ _ _ ((o _ _ _ _ (by omega)).trans c1))
        | (rw [o _ _ _ _ (by omega), o _ _ _ _ (by omega)]; exact cell_set_same _ _ _ ((o _ _ _ _ (by omega)).trans ((o _ _ _ _ (by omega)).trans c2)))
        | (rw [o _ _ _ _ (by omega)]; exact cell_set_same _ _ _ ((o _ _ _ _ (by omega)).trans ((o _ _ _ _ (by omega)).trans ((o _ _ _ _ (by omega)).trans c3))))
        | exact cell_set_same _ _ _ ((o _ _ _ _ (by omega)).trans ((o _ _ _ _ (by omega)).trans ((o _ _ _ _ (by omega)).trans ((o _ _ _ _ (by omega)).trans c4))))
    · rw [getD_set_ne _ _ _ _ _ (fun q => e q.symm)]
      rw [o _ _ _ _ (by omega), o _ _ _ _ (by omega), o _ _ _ _ (by omega), o _ _ _ _ (by omega), o _ _ _ _ (by omega)]
      first | exact h.op i hi | exact h.r i hi | exact h.t i hi | exact h.f i hi | exact h.k i hi
theorem putIns_size (w : World) (g j : Nat) (x : Ins) : (putIns w g j x).heap.size = w.heap.size := by simp [putIns, World.setCell]
theorem putIns_below {w w' : World} {B : Nat} (h : Below B w w') (g j : Nat) (x : Ins) (hg : B ≤ g) : Below B w (putIns w' g j x) :=
  ((((h.setCell hg _).setCell hg _).setCell hg _).setCell hg _).setCell hg _

set_option maxHeartbeats 1600000 in
theorem read_fine (s : ByteArray) (n b off cap : Nat) (w : World) (hc : s.size ≤ cap) (hm : cap ≤ maxLen) (hb : b < w.heap.size) (hr : Row w b off s) (h : Formed s n) :
    Calls Tryz.prog 95 #[.slice (some ⟨b, off, none⟩) s.size cap] w fun e w' => e = .returned (.tuple #[.slice (some ⟨w.heap.size, 0, none⟩) n n, .nilIface]) ∧ Below w.heap.size w w' ∧ Lst w' w.heap.size ((List.range n).map (insAt s)) := by
  unfold maxLen at hm
  have hz := h.size
  have h1 := h.pos
  have h2 := h.most
  have h8' : ((s.size : Int) % 8 != 0) = false := by rw [bne_eq_false_iff_eq]; omega
  have h0' : ((s.size : Int) / 8 == 0) = false := by rw [beq_eq_false_iff_ne]; omega
  have h4 : (s.size : Int) / 8 ≤ 4096 := by omega
  have hn : (s.size : Int) / 8 = n := by omega
  have hmk : ∀ w, (Instr.makeSlice 156 (.int .i64 ((s.size : Int) / 8)) (.int .i64 ((s.size : Int) / 8))).run Tryz.prog w = .ok (.slice (some ⟨w.heap.size, 0, none⟩) n n) (w.alloc (.cells (madeCells #[.int .u8 0, .int .u8 0, .int .u8 0, .int .u8 0, .int .u32 0] (n * 5)) 203)) := by
    intro w
    rw [hn]
    exact run_make_wide (P := Tryz.prog) 156 203 _ 5 8 Tryz.underlying156 insZero .i64 .i64 n (by omega) (by omega) w
  have HR : Hid (Row w b off s) := hr
  have HF : Hid (Formed s n) := h
  have hs : s.size ≤ 32768 := by omega
  have HZ : Hid (s.size = 8 * n) := hz
  have HC : Hid (s.size ≤ cap) := hc
  clear hr h hz hn hc
  go_enter Tryz.func95, Tryz.ntmps95
  go_wp2
  go_loopw [29] (fun i wr => ∃ (j : Nat) (l : List Ins), j ≤ n ∧ i = .int .i64 j ∧ l.length = n ∧ (∀ i, i < j → l.getD i ⟨0, 0, 0, 0, 0⟩ = insAt s i) ∧ Lst wr w.heap.size l ∧ Below w.heap.size w wr) (fun i _ => n - (intOf i).toNat)
  case atStart => exact ⟨0, List.replicate n ⟨0, 0, 0, 0, 0⟩, Nat.zero_le _, rfl, by simp, fun i hi => by omega, Lst.made w n, (Below.refl _ _).alloc (Nat.le_refl _) _⟩
  case round =>
    obtain ⟨j, l, hj, rfl, hl, hpre, hL, hB⟩ := hrel
    by_cases hlt : j < n
    · have HL : Hid (Lst _ w.heap.size l) := hL
      have HB : Hid (Below w.heap.size w _) := hB
      have HP : Hid (∀ i, i < j → l.getD i ⟨0, 0, 0, 0, 0⟩ = insAt s i) := hpre
      have x1 : (j : Int) * 8 ≤ (s.size : Int) := by have := HZ.out; omega
      have x2 : (cap : Int) ≠ (j : Int) * 8 := by have := HZ.out; have := HC.out; omega
      clear hL hB hpre
      have x3 := HZ.out
      have x4 := HC.out
      have HE : Eight wr b (off + j * 8) s (j * 8) := fun i hi => by
        rw [HB.out.cell (p := ⟨b, off + j * 8 + i, none⟩) hb, Nat.add_assoc]
        exact HR.out (j * 8 + i) (by omega)
      have hbr : b < wr.heap.size := Nat.lt_of_lt_of_le hb HB.out.size
      have HO : Hid (Calls Tryz.prog 117 _ wr _) := readOne_any s b (off + j * 8) (j * 8) (s.size - j * 8) (cap - j * 8) wr hbr (by omega) (by omega) (by unfold maxLen; omega) HE
      clear x3 x4 HE
      go_wp2_with fail
      refine HO.out.mono ?_
      rintro e w1 ⟨rfl, hb1⟩
      obtain ⟨x, hx⟩ : ∃ x, insOf s (j * 8) = x := ⟨_, rfl⟩
      have hx' : insAt s j = x := by rw [← hx]; unfold insOf insAt; rw [Nat.mul_comm]
      have HX : Hid (insAt s j = x) := hx'
      rw [hx]
      have L1 := HL.out.below hb1
      have HL1 : Hid (Lst w1 w.heap.size l) := L1
      have HB1 : Hid (Below w.heap.size w w1) := HB.out.trans (hb1.mono HB.out.size)
      have c0 := L1.op j (by omega)
      have c1 := L1.r j (by omega)
      have c2 := L1.t j (by omega)
      have c3 := L1.f j (by omega)
      have c4 := L1.k j (by omega)
      have f0 := L1.froz (j * 5)
      have f1 := L1.froz (j * 5 + 1)
      have f2 := L1.froz (j * 5 + 2)
      have f3 := L1.froz (j * 5 + 3)
      have f4 := L1.froz (j * 5 + 4)
      clear hx hx' hb1 L1 HB HL
      unfold insV
      go_wp2_with fail
      have HFI : Hid (x.fits = true) := by rw [← HX.out]; exact HF.out.fits j hlt
      refine (fits_any x _).mono ?_
      rintro e w2 ⟨rfl, hb2⟩
      rw [HFI.out]
      have hb2 : Below w1.heap.size (putIns w1 w.heap.size j x) w2 := by
        rw [← putIns_size w1 w.heap.size j x]; exact hb2
      have HL2 : Hid (Lst w2 w.heap.size (l.set j x)) := (HL1.out.store j (by omega) x).below (by rw [putIns_size]; exact hb2)
      have HB2 : Hid (Below w.heap.size w w2) := (putIns_below HB1.out _ _ _ (Nat.le_refl _)).trans (hb2.mono HB1.out.size)
      clear hb2 c0 c1 c2 c3 c4 f0 f1 f2 f3 f4 HL1 HB1
      go_wp2_with fail
      go_roundw
      case rel =>
        refine ⟨j + 1, l.set j x, by omega, by go_num, by simp [hl], fun i hi => ?_, HL2.out, HB2.out⟩
        by_cases e : j = i
        · subst e; rw [getD_set_self _ _ _ _ (by omega), HX.out]
        · rw [getD_set_ne _ _ _ _ _ e]; exact HP.out i (by omega)
      case measure => simp [intOf]; omega
    · have e : j = n := by omega
      subst e
      have HL : Hid (Lst _ w.heap.size l) := hL
      have HB : Hid (Below w.heap.size w _) := hB
      have HP : Hid (∀ i, i < j → l.getD i ⟨0, 0, 0, 0, 0⟩ = insAt s i) := hpre
      clear hL hB hpre
      go_wp2_with fail
      go_ret2
      refine ⟨rfl, HB.out, ?_⟩
      have e : l = (List.range j).map (insAt s) := by
        apply List.ext_getElem
        · simp [hl]
        · intro i h1 h2
          have := HP.out i (by omega)
          rw [List.getD_eq_getElem?_getD, List.getElem?_eq_getElem h1] at this
          simpa using this
      rw [← e]; exact HL.out

set_option maxHeartbeats 1600000 in
theorem read_ins (s : ByteArray) (n q b off cap : Nat) (w : World) (hc : s.size ≤ cap) (hm : cap ≤ maxLen) (hb : b < w.heap.size) (hr : Row w b off s) (h : Sized s n) (hq : q < n) (hbad : (insAt s q).fits = false) (hgood : ∀ j, j < q → (insAt s j).fits = true) :
    Calls Tryz.prog 95 #[.slice (some ⟨b, off, none⟩) s.size cap] w fun e w' => ∃ c, e = .returned (.tuple #[.slice none 0 0, .iface 90 (.pointer (some ⟨c, 0, none⟩))]) ∧ Below w.heap.size w w' ∧ w.heap.size ≤ c ∧ c < w'.heap.size ∧ w'.cell? ⟨c, 0, none⟩ = some (.int .i64 q) ∧ w'.cell? ⟨c, 1, none⟩ = some (.int .i64 10) := by
  unfold maxLen at hm
  have hz := h.size
  have h1 := h.pos
  have h2 := h.most
  have h8' : ((s.size : Int) % 8 != 0) = false := by rw [bne_eq_false_iff_eq]; omega
  have h0' : ((s.size : Int) / 8 == 0) = false := by rw [beq_eq_false_iff_ne]; omega
  have h4 : (s.size : Int) / 8 ≤ 4096 := by omega
  have hn : (s.size : Int) / 8 = n := by omega
  have hmk : ∀ w, (Instr.makeSlice 156 (.int .i64 ((s.size : Int) / 8)) (.int .i64 ((s.size : Int) / 8))).run Tryz.prog w = .ok (.slice (some ⟨w.heap.size, 0, none⟩) n n) (w.alloc (.cells (madeCells #[.int .u8 0, .int .u8 0, .int .u8 0, .int .u8 0, .int .u32 0] (n * 5)) 203)) := by
    intro w
    rw [hn]
    exact run_make_wide (P := Tryz.prog) 156 203 _ 5 8 Tryz.underlying156 insZero .i64 .i64 n (by omega) (by omega) w
  have HR : Hid (Row w b off s) := hr
  have HBAD : Hid ((insAt s q).fits = false) := hbad
  have HG : Hid (∀ j, j < q → (insAt s j).fits = true) := hgood
  have hs : s.size ≤ 32768 := by omega
  have HZ : Hid (s.size = 8 * n) := hz
  have HC : Hid (s.size ≤ cap) := hc
  clear hr h hz hn hc hbad hgood
  go_enter Tryz.func95, Tryz.ntmps95
  go_wp2
  go_loopw [29] (fun i wr => ∃ (j : Nat) (l : List Ins), j ≤ q ∧ i = .int .i64 j ∧ l.length = n ∧ Lst wr w.heap.size l ∧ Below w.heap.size w wr) (fun i _ => n - (intOf i).toNat)
  case atStart => exact ⟨0, List.replicate n ⟨0, 0, 0, 0, 0⟩, Nat.zero_le _, rfl, by simp, Lst.made w n, (Below.refl _ _).alloc (Nat.le_refl _) _⟩
  case round =>
    obtain ⟨j, l, hj, rfl, hl, hL, hB⟩ := hrel
    have hjn : j < n := by omega
    have HL : Hid (Lst _ w.heap.size l) := hL
    have HB : Hid (Below w.heap.size w _) := hB
    have x1 : (j : Int) * 8 ≤ (s.size : Int) := by have := HZ.out; omega
    have x2 : (cap : Int) ≠ (j : Int) * 8 := by have := HZ.out; have := HC.out; omega
    clear hL hB
    have x3 := HZ.out
    have x4 := HC.out
    have HE : Eight wr b (off + j * 8) s (j * 8) := fun i hi => by
      rw [HB.out.cell (p := ⟨b, off + j * 8 + i, none⟩) hb, Nat.add_assoc]
      exact HR.out (j * 8 + i) (by omega)
    have hbr : b < wr.heap.size := Nat.lt_of_lt_of_le hb HB.out.size
    have HO : Hid (Calls Tryz.prog 117 _ wr _) := readOne_any s b (off + j * 8) (j * 8) (s.size - j * 8) (cap - j * 8) wr hbr (by omega) (by omega) (by unfold maxLen; omega) HE
    clear x3 x4 HE
    go_wp2_with fail
    refine HO.out.mono ?_
    rintro e w1 ⟨rfl, hb1⟩
    obtain ⟨x, hx⟩ : ∃ x, insOf s (j * 8) = x := ⟨_, rfl⟩
    have hx' : insAt s j = x := by rw [← hx]; unfold insOf insAt; rw [Nat.mul_comm]
    have HX : Hid (insAt s j = x) := hx'
    rw [hx]
    have L1 := HL.out.below hb1
    have HL1 : Hid (Lst w1 w.heap.size l) := L1
    have HB1 : Hid (Below w.heap.size w w1) := HB.out.trans (hb1.mono HB.out.size)
    have c0 := L1.op j (by omega)
    have c1 := L1.r j (by omega)
    have c2 := L1.t j (by omega)
    have c3 := L1.f j (by omega)
    have c4 := L1.k j (by omega)
    have f0 := L1.froz (j * 5)
    have f1 := L1.froz (j * 5 + 1)
    have f2 := L1.froz (j * 5 + 2)
    have f3 := L1.froz (j * 5 + 3)
    have f4 := L1.froz (j * 5 + 4)
    clear hx hx' hb1 L1 HB HL
    unfold insV
    go_wp2_with fail
    refine (fits_any x _).mono ?_
    rintro e w2 ⟨rfl, hb2⟩
    have hb2 : Below w1.heap.size (putIns w1 w.heap.size j x) w2 := by
      rw [← putIns_size w1 w.heap.size j x]; exact hb2
    have HL2 : Hid (Lst w2 w.heap.size (l.set j x)) := (HL1.out.store j (by omega) x).below (by rw [putIns_size]; exact hb2)
    have HB2 : Hid (Below w.heap.size w w2) := (putIns_below HB1.out _ _ _ (Nat.le_refl _)).trans (hb2.mono HB1.out.size)
    clear hb2 c0 c1 c2 c3 c4 f0 f1 f2 f3 f4 HL1 HB1
    by_cases hlt : j < q
    · have HFI : Hid (x.fits = true) := by rw [← HX.out]; exact HG.out j hlt
      rw [HFI.out]
      go_wp2_with fail
      go_roundw
      case rel => exact ⟨j + 1, l.set j x, by omega, by go_num, by simp [hl], HL2.out, HB2.out⟩
      case measure => simp [intOf]; omega
    · have e : j = q := by omega
      subst e
      have HFI : Hid (x.fits = false) := by rw [← HX.out]; exact HBAD.out
      rw [HFI.out]
      go_wp2_with fail
      go_ret2
      refine ⟨w2.heap.size, rfl, HB2.out.alloc HB2.out.size _, HB2.out.size, by simp, ?_, ?_⟩
      · rw [World.cell?_alloc_at _ _ _ _ rfl]; rfl
      · rw [World.cell?_alloc_at _ _ _ _ rfl]; rfl
end Go.Proofs.YtclpnafiiobfhabGreatDoor

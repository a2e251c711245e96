import Derived.Test.YtclpnafiiobfhaaDoorMJumps
namespace Go.Proofs.YtclpnafiiobfhaaDoor
open Go.RowKit
set_option linter.unusedVariables false
set_option linter.unusedSimpArgs false

/-- what is sure, as the code holds it -/
def fcC (a : Fc) : Array Value := #[.bool a.come, .bool (a.set.getD 0 false), .bool (a.set.getD 1 false), .bool (a.set.getD 2 false), .bool (a.set.getD 3 false), .bool (a.long.getD 0 false), .bool (a.long.getD 1 false), .bool (a.long.getD 2 false), .bool (a.long.getD 3 false), .int .u32 a.there]
def fcV (a : Fc) : Value := .agg (fcC a)
theorem fcC_set (a : Fc) (r : Int) (h : 0 ≤ r ∧ r < 4) : (fcC a)[1 + r.toNat]? = some (.bool (a.set.getD r.toNat false)) := by
  obtain ⟨h0, h1⟩ := h
  have : r = 0 ∨ r = 1 ∨ r = 2 ∨ r = 3 := by omega
  rcases this with rfl | rfl | rfl | rfl <;> rfl
theorem fcC_long (a : Fc) (r : Int) (h : 0 ≤ r ∧ r < 4) : (fcC a)[5 + r.toNat]? = some (.bool (a.long.getD r.toNat false)) := by
  obtain ⟨h0, h1⟩ := h
  have : r = 0 ∨ r = 1 ∨ r = 2 ∨ r = 3 := by omega
  rcases this with rfl | rfl | rfl | rfl <;> rfl

set_option maxHeartbeats 800000 in
theorem fault_unset (a : Fc) (x : Ins) (w : World) (hb : x.Bd) (hr : x.r < 4) (hu : x.uses = true) (hh : a.has x = false) :
    Calls Tryd.prog 80 #[fcV a, insV x] w fun e w' => e = .returned (.int .i64 12) ∧ Below w.heap.size w w' := by
  have hU := fun w => uses_is x true w hu
  have br := hb.r
  have cr := fcC_set a x.r ⟨br.1, hr⟩
  unfold Fc.has at hh
  rw [hh] at cr
  obtain ⟨op, r, t, f, k⟩ := x
  unfold fcV fcC insV at *
  dsimp only at *
  generalize a.come = z0 at *
  generalize a.set.getD 0 false = s0 at *
  generalize a.set.getD 1 false = s1 at *
  generalize a.set.getD 2 false = s2 at *
  generalize a.set.getD 3 false = s3 at *
  generalize a.long.getD 0 false = l0 at *
  generalize a.long.getD 1 false = l1 at *
  generalize a.long.getD 2 false = l2 at *
  generalize a.long.getD 3 false = l3 at *
  generalize a.there = th at *
  clear hb hu hh
  have HCR : Hid (_ = some (Value.bool false)) := cr
  clear cr
  go_enter Tryd.func80, Tryd.ntmps80
  go_wp2_with fail
  refine (hU _).mono ?_
  rintro e w1 ⟨rfl, hb1⟩
  have d0 : w1.cell? ⟨w.heap.size + 1, 1, none⟩ = some (.int .u8 r) := by
    rw [hb1.cell (p := ⟨w.heap.size + 1, 1, none⟩) (by simp), World.cell?_alloc_at _ _ _ _ (by simp)]; rfl
  have d1 : w1.cell? ⟨w.heap.size, 1 + r.toNat, none⟩ = some (.bool false) := by
    rw [hb1.cell (p := ⟨w.heap.size, 1 + r.toNat, none⟩) (by simp; omega), World.cell?_alloc_lt _ _ _ (by simp), World.cell?_alloc_at _ _ _ _ (by simp)]; exact HCR.out
  have HB1 : Hid (Below w.heap.size w w1) := (((Below.refl _ _).alloc (Nat.le_refl _) _).alloc (by simp) _).trans (hb1.mono (by simp; omega))
  clear hb1
  go_wp2_with fail
  go_ret
  exact ⟨rfl, HB1.out⟩

set_option maxHeartbeats 800000 in
theorem fault_set (a : Fc) (x : Ins) (w : World) (hb : x.Bd) (hr : x.r < 4) (hu : x.uses = true) (hl : x.load = false) (hh : a.has x = true) :
    Calls Tryd.prog 80 #[fcV a, insV x] w fun e w' => e = .returned (.int .i64 0) ∧ Below w.heap.size w w' := by
  have hU := fun w => uses_is x true w hu
  have hL := fun w => isLoad_is x false w hl
  have br := hb.r
  have cr := fcC_set a x.r ⟨br.1, hr⟩
  unfold Fc.has at hh
  rw [hh] at cr
  obtain ⟨op, r, t, f, k⟩ := x
  unfold fcV fcC insV insO at *
  dsimp only at *
  generalize a.come = z0 at *
  generalize a.set.getD 0 false = s0 at *
  generalize a.set.getD 1 false = s1 at *
  generalize a.set.getD 2 false = s2 at *
  generalize a.set.getD 3 false = s3 at *
  generalize a.long.getD 0 false = l0 at *
  generalize a.long.getD 1 false = l1 at *
  generalize a.long.getD 2 false = l2 at *
  generalize a.long.getD 3 false = l3 at *
  generalize a.there = th at *
  clear hb hu hh hl
  have HCR : Hid (_ = some (Value.bool true)) := cr
  clear cr
  go_enter Tryd.func80, Tryd.ntmps80
  go_wp2_with fail
  refine (hU _).mono ?_
  rintro e w1 ⟨rfl, hb1⟩
  have d0 : w1.cell? ⟨w.heap.size + 1, 0, none⟩ = some (.int .u8 op) := by
    rw [hb1.cell (p := ⟨w.heap.size + 1, 0, none⟩) (by simp), World.cell?_alloc_at _ _ _ _ (by simp)]; rfl
  have d1 : w1.cell? ⟨w.heap.size + 1, 1, none⟩ = some (.int .u8 r) := by
    rw [hb1.cell (p := ⟨w.heap.size + 1, 1, none⟩) (by simp), World.cell?_alloc_at _ _ _ _ (by simp)]; rfl
  have d2 : w1.cell? ⟨w.heap.size + 1, 2, none⟩ = some (.int .u8 t) := by
    rw [hb1.cell (p := ⟨w.heap.size + 1, 2, none⟩) (by simp), World.cell?_alloc_at _ _ _ _ (by simp)]; rfl
  have d3 : w1.cell? ⟨w.heap.size + 1, 3, none⟩ = some (.int .u8 f) := by
    rw [hb1.cell (p := ⟨w.heap.size + 1, 3, none⟩) (by simp), World.cell?_alloc_at _ _ _ _ (by simp)]; rfl
  have d4 : w1.cell? ⟨w.heap.size + 1, 4, none⟩ = some (.int .u32 k) := by
    rw [hb1.cell (p := ⟨w.heap.size + 1, 4, none⟩) (by simp), World.cell?_alloc_at _ _ _ _ (by simp)]; rfl
  have dr : w1.cell? ⟨w.heap.size, 1 + r.toNat, none⟩ = some (.bool true) := by
    rw [hb1.cell (p := ⟨w.heap.size, 1 + r.toNat, none⟩) (by simp; omega), World.cell?_alloc_lt _ _ _ (by simp), World.cell?_alloc_at _ _ _ _ (by simp)]; exact HCR.out
  have HB1 : Hid (Below w.heap.size w w1) := (((Below.refl _ _).alloc (Nat.le_refl _) _).alloc (by simp) _).trans (hb1.mono (by simp; omega))
  have hsz : w.heap.size + 1 + 1 ≤ w1.heap.size := by have := hb1.size; simp at this; omega
  have hs0 : w.heap.size < w1.heap.size := by omega
  have hs1 : w.heap.size + 1 < w1.heap.size := by omega
  clear hb1
  go_wp2_with fail
  go_cut [16] from 17 (fun v w' => v = .bool false ∧ Below w.heap.size w w')
  case first =>
    first | (go_region_with (first | (go_at_call 84; refine (hL _).mono ?_; rintro e w' ⟨rfl, rfl⟩))) | fail
    all_goals
      go_wp2_with fail
      go_meet
      exact ⟨rfl, by repeat (first | with_reducible exact HB1.out | with_reducible refine below_drewN ?_ _ | with_reducible refine Below.drew ?_ | with_reducible refine Below.alloc ?_ (by first | omega | (simp; done) | (simp; omega)) _)⟩
  case rest =>
    obtain ⟨rfl, hB2⟩ := hcut
    go_wp2_with fail
    go_ret
    exact ⟨rfl, hB2⟩
set_option maxHeartbeats 800000 in
theorem fault_none (a : Fc) (x : Ins) (w : World) (hb : x.Bd) (hu : x.uses = false) (hl : x.load = false) :
    Calls Tryd.prog 80 #[fcV a, insV x] w fun e w' => e = .returned (.int .i64 0) ∧ Below w.heap.size w w' := by
  have hU := fun w => uses_is x false w hu
  have hL := fun w => isLoad_is x false w hl
  obtain ⟨op, r, t, f, k⟩ := x
  unfold fcV fcC insV insO at *
  dsimp only at *
  generalize a.come = z0 at *
  generalize a.set.getD 0 false = s0 at *
  generalize a.set.getD 1 false = s1 at *
  generalize a.set.getD 2 false = s2 at *
  generalize a.set.getD 3 false = s3 at *
  generalize a.long.getD 0 false = l0 at *
  generalize a.long.getD 1 false = l1 at *
  generalize a.long.getD 2 false = l2 at *
  generalize a.long.getD 3 false = l3 at *
  generalize a.there = th at *
  clear hb hu hl
  go_enter Tryd.func80, Tryd.ntmps80
  go_wp2_with fail
  refine (hU _).mono ?_
  rintro e w1 ⟨rfl, hb1⟩
  have d0 : w1.cell? ⟨w.heap.size + 1, 0, none⟩ = some (.int .u8 op) := by
    rw [hb1.cell (p := ⟨w.heap.size + 1, 0, none⟩) (by simp), World.cell?_alloc_at _ _ _ _ (by simp)]; rfl
  have d1 : w1.cell? ⟨w.heap.size + 1, 1, none⟩ = some (.int .u8 r) := by
    rw [hb1.cell (p := ⟨w.heap.size + 1, 1, none⟩) (by simp), World.cell?_alloc_at _ _ _ _ (by simp)]; rfl
  have d2 : w1.cell? ⟨w.heap.size + 1, 2, none⟩ = some (.int .u8 t) := by
    rw [hb1.cell (p := ⟨w.heap.size + 1, 2, none⟩) (by simp), World.cell?_alloc_at _ _ _ _ (by simp)]; rfl
  have d3 : w1.cell? ⟨w.heap.size + 1, 3, none⟩ = some (.int .u8 f) := by
    rw [hb1.cell (p := ⟨w.heap.size + 1, 3, none⟩) (by simp), World.cell?_alloc_at _ _ _ _ (by simp)]; rfl
  have d4 : w1.cell? ⟨w.heap.size + 1, 4, none⟩ = some (.int .u32 k) := by
    rw [hb1.cell (p := ⟨w.heap.size + 1, 4, none⟩) (by simp), World.cell?_alloc_at _ _ _ _ (by simp)]; rfl
  have HB1 : Hid (Below w.heap.size w w1) := (((Below.refl _ _).alloc (Nat.le_refl _) _).alloc (by simp) _).trans (hb1.mono (by simp; omega))
  have hsz : w.heap.size + 1 + 1 ≤ w1.heap.size := by have := hb1.size; simp at this; omega
  have hs0 : w.heap.size < w1.heap.size := by omega
  have hs1 : w.heap.size + 1 < w1.heap.size := by omega
  clear hb1
  go_wp2_with fail
  go_cut [16] from 17 (fun v w' => v = .bool false ∧ Below w.heap.size w w')
  case first =>
    first | (go_region_with (first | (go_at_call 84; refine (hL _).mono ?_; rintro e w' ⟨rfl, rfl⟩))) | fail
    all_goals
      go_wp2_with fail
      go_meet
      exact ⟨rfl, by repeat (first | with_reducible exact HB1.out | with_reducible refine below_drewN ?_ _ | with_reducible refine Below.drew ?_ | with_reducible refine Below.alloc ?_ (by first | omega | (simp; done) | (simp; omega)) _)⟩
  case rest =>
    obtain ⟨rfl, hB2⟩ := hcut
    go_wp2_with fail
    go_ret
    exact ⟨rfl, hB2⟩
set_option maxHeartbeats 800000 in
theorem fault_load (a : Fc) (x : Ins) (w : World) (hb : x.Bd) (ha : a.Ok) (hu : x.uses = false) (hl : x.load = true) :
    Calls Tryd.prog 80 #[fcV a, insV x] w fun e w' => e = .returned (.int .i64 (if a.there < x.wide then 13 else 0)) ∧ Below w.heap.size w w' := by
  have hU := fun w => uses_is x false w hu
  have hE := fun w => loadEnd_any x hb w hl
  have bth := ha.there
  have bw : 0 ≤ x.wide ∧ x.wide ≤ 4294967299 := by have := hb.k; unfold Ins.wide; repeat' split
                                                   all_goals omega
  have hL := fun w => isLoad_is x true w hl
  obtain ⟨q, hq⟩ : ∃ q, x.wide = q := ⟨_, rfl⟩
  rw [hq] at hE bw
  rw [hq]
  clear hq ha
  obtain ⟨op, r, t, f, k⟩ := x
  unfold fcV fcC insV insO at *
  dsimp only at *
  generalize a.come = z0 at *
  generalize a.set.getD 0 false = s0 at *
  generalize a.set.getD 1 false = s1 at *
  generalize a.set.getD 2 false = s2 at *
  generalize a.set.getD 3 false = s3 at *
  generalize a.long.getD 0 false = l0 at *
  generalize a.long.getD 1 false = l1 at *
  generalize a.long.getD 2 false = l2 at *
  generalize a.long.getD 3 false = l3 at *
  generalize a.there = th at *
  clear hb hu hl
  have HWR : Hid (IntKind.u64.wrap th = th) := by
    show IntKind.u64.wrap th = th
    rw [IntKind.wrap_u64]; omega
  obtain ⟨z, hz⟩ : ∃ z, decide (th < q) = z := ⟨_, rfl⟩
  have HZ : Hid (decide (th < q) = z) := hz
  have hv : (if th < q then 13 else (0 : Int)) = if z then 13 else 0 := by rw [← hz]; simp
  rw [hv]
  clear hz hv
  go_enter Tryd.func80, Tryd.ntmps80
  go_wp2_with fail
  refine (hU _).mono ?_
  rintro e w1 ⟨rfl, hb1⟩
  have d0 : w1.cell? ⟨w.heap.size + 1, 0, none⟩ = some (.int .u8 op) := by
    rw [hb1.cell (p := ⟨w.heap.size + 1, 0, none⟩) (by simp), World.cell?_alloc_at _ _ _ _ (by simp)]; rfl
  have d1 : w1.cell? ⟨w.heap.size + 1, 1, none⟩ = some (.int .u8 r) := by
    rw [hb1.cell (p := ⟨w.heap.size + 1, 1, none⟩) (by simp), World.cell?_alloc_at _ _ _ _ (by simp)]; rfl
  have d2 : w1.cell? ⟨w.heap.size + 1, 2, none⟩ = some (.int .u8 t) := by
    rw [hb1.cell (p := ⟨w.heap.size + 1, 2, none⟩) (by simp), World.cell?_alloc_at _ _ _ _ (by simp)]; rfl
  have d3 : w1.cell? ⟨w.heap.size + 1, 3, none⟩ = some (.int .u8 f) := by
    rw [hb1.cell (p := ⟨w.heap.size + 1, 3, none⟩) (by simp), World.cell?_alloc_at _ _ _ _ (by simp)]; rfl
  have d4 : w1.cell? ⟨w.heap.size + 1, 4, none⟩ = some (.int .u32 k) := by
    rw [hb1.cell (p := ⟨w.heap.size + 1, 4, none⟩) (by simp), World.cell?_alloc_at _ _ _ _ (by simp)]; rfl
  have d9 : w1.cell? ⟨w.heap.size, 9, none⟩ = some (.int .u32 th) := by
    rw [hb1.cell (p := ⟨w.heap.size, 9, none⟩) (by simp; omega), World.cell?_alloc_lt _ _ _ (by simp), World.cell?_alloc_at _ _ _ _ (by simp)]; rfl
  have HB1 : Hid (Below w.heap.size w w1) := (((Below.refl _ _).alloc (Nat.le_refl _) _).alloc (by simp) _).trans (hb1.mono (by simp; omega))
  have hsz : w.heap.size + 1 + 1 ≤ w1.heap.size := by have := hb1.size; simp at this; omega
  have hs0 : w.heap.size < w1.heap.size := by omega
  have hs1 : w.heap.size + 1 < w1.heap.size := by omega
  clear hb1
  go_wp2_with fail
  go_cut [16] from 17 (fun v w' => v = .bool z ∧ Below w.heap.size w w')
  case first =>
    go_region_held3 (fun w' => w'.cell? ⟨w.heap.size + 1, 0, none⟩ = some (.int .u8 op) ∧ w'.cell? ⟨w.heap.size + 1, 1, none⟩ = some (.int .u8 r) ∧ w'.cell? ⟨w.heap.size + 1, 2, none⟩ = some (.int .u8 t) ∧ w'.cell? ⟨w.heap.size + 1, 3, none⟩ = some (.int .u8 f) ∧ w'.cell? ⟨w.heap.size + 1, 4, none⟩ = some (.int .u32 k) ∧ w'.cell? ⟨w.heap.size, 9, none⟩ = some (.int .u32 th)) (go_keep) (first | (go_at_call 84; refine (hL _).mono ?_; rintro e w' ⟨rfl, rfl⟩) | (go_at_call 85; refine (hE _).mono ?_; rintro e w' ⟨rfl, rfl⟩))
    all_goals
      go_wp2_with fail
      go_meet
      exact ⟨by rw [← HZ.out, HWR.out], by repeat (first | with_reducible exact HB1.out | with_reducible refine below_drewN ?_ _ | with_reducible refine Below.drew ?_ | with_reducible refine Below.alloc ?_ (by first | omega | (simp; done) | (simp; omega)) _)⟩
  case rest =>
    obtain ⟨rfl, hB2⟩ := hcut
    clear HZ
    cases z
    all_goals
      go_wp2_with fail
      go_ret
      exact ⟨rfl, hB2⟩

theorem fault_any (a : Fc) (x : Ins) (w : World) (ha : a.Ok) (hb : x.Bd) (hr : x.r < 4) :
    Calls Tryd.prog 80 #[fcV a, insV x] w fun e w' => e = .returned (.int .i64 (a.fault x)) ∧ Below w.heap.size w w' := by
  have hth := ha.there
  unfold Fc.fault
  cases hu : x.uses with
  | true =>
    have hl : x.load = false := by
      unfold Ins.uses Ins.branch at hu
      unfold Ins.load
      have : x.op = 6 ∨ x.op = 7 ∨ x.op = 8 ∨ x.op = 9 ∨ x.op = 10 := by simpa [or_assoc] using hu
      rcases this with h | h | h | h | h <;> simp [h]
    have hw : x.wide = 0 := by
      unfold Ins.load at hl
      unfold Ins.wide
      simp only [Bool.or_eq_false_iff, beq_eq_false_iff_ne] at hl
      simp [hl]
    cases hh : a.has x with
    | false => exact fault_unset a x w hb hr hu hh
    | true =>
      rw [hw, if_neg (by simp), if_neg (by omega)]
      exact fault_set a x w hb hr hu hl hh
  | false =>
    rw [if_neg (by simp)]
    cases hl : x.load with
    | true => exact fault_load a x w hb ha hu hl
    | false =>
      have hw : x.wide = 0 := by
        unfold Ins.load at hl
        unfold Ins.wide
        simp only [Bool.or_eq_false_iff, beq_eq_false_iff_ne] at hl
        simp [hl]
      rw [hw, if_neg (by omega)]
      exact fault_none a x w hb hu hl
end Go.Proofs.YtclpnafiiobfhaaDoor
